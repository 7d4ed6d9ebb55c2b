import PyProof.Rows.All
import Wide.All
import OpenK.AllK
import Wide.FinOn
import PyProof.EqAt
import PyProof.EqKinds
import PyProof.TupleCall
import KE.BitLaws
import Open.SpecLaws
import KE.OsHead
import KE.OsGo
import KE.KRevIter
import PyProof.Draws
import PyFlatLaws
import PySem.Challenge.RW_matchclauses_s01_answers
set_option Elab.async false
set_option linter.all false
set_option maxRecDepth 100000
namespace L2
open PySem PySem.Spec PyProof.Rows
abbrev Key := Sum Int Str
def keyIs : Key -> Value -> Bool
 | .inl k, v => Value.isInt k v
 | .inr x, v => Value.isStrOf x v
def keyH (w : World) : Key -> Int
 | .inl k => hashInt k
 | .inr x => hashStr w x
theorem keyIs_shape : ∀ {k : Key} {v : Value}, keyIs k v = true -> (∃ i t, k = Sum.inl i /\ v = Value.int i t) ∨ (∃ x t, k = Sum.inr x /\ v = Value.str x t)
 | .inl i, v, h => by
  obtain ⟨t, e⟩ := Value.isInt_shape (k := i) (v := v) h
  exact .inl ⟨i, t, rfl, e⟩
 | .inr x, v, h => by
  obtain ⟨t, e⟩ := Value.isStrOf_shape (x := x) (v := v) h
  exact .inr ⟨x, t, rfl, e⟩
theorem keyIs_int (i : Int) (t : Tok) : keyIs (.inl i) (.int i t) = true := by simp [keyIs, Value.isInt]
theorem keyIs_str (x : Str) (t : Tok) : keyIs (.inr x) (.str x t) = true := by simp [keyIs, Value.isStrOf]
theorem key_ll (a b : Int) : decide ((Sum.inl a : Key) = Sum.inl b) = (a == b) := by
 by_cases e : a = b
 ·subst e; simp
 ·have h : ¬ (Sum.inl a : Key) = Sum.inl b := fun q => e (Sum.inl.inj q)
  rw [decide_eq_false h]
  exact (beq_eq_false_iff_ne.mpr e).symm
theorem key_rr (a b : Str) : decide ((Sum.inr a : Key) = Sum.inr b) = decide (a = b) := by
 by_cases e : a = b
 ·subst e; simp
 ·have h : ¬ (Sum.inr a : Key) = Sum.inr b := fun q => e (Sum.inr.inj q)
  rw [decide_eq_false h, decide_eq_false e]
theorem key_lr (a : Int) (b : Str) : decide ((Sum.inl a : Key) = Sum.inr b) = false := decide_eq_false (fun q => nomatch q)
theorem key_rl (a : Str) (b : Int) : decide ((Sum.inr a : Key) = Sum.inl b) = false := decide_eq_false (fun q => nomatch q)
def mixKind (prog : Program) (w : World) : PySem.KeyKind prog w Key where
 is := keyIs
 hash := keyH w
 inj := fun v a b ha hb => by
  rcases keyIs_shape ha with ⟨i, t, rfl, rfl⟩ | ⟨x, t, rfl, rfl⟩
  ·rcases keyIs_shape hb with ⟨j, u, rfl, e⟩ | ⟨y, u, rfl, e⟩
   ·injection e with e1 _; rw [e1]
   ·exact nomatch e
  ·rcases keyIs_shape hb with ⟨j, u, rfl, e⟩ | ⟨y, u, rfl, e⟩
   ·exact nomatch e
   ·injection e with e1 _; rw [e1]
 byValue := fun k v h => by
  rcases keyIs_shape h with ⟨i, t, rfl, rfl⟩ | ⟨x, t, rfl, rfl⟩ <;> rfl
 pyHash := fun hv h => by
  rcases keyIs_shape hv with ⟨i, t, rfl, rfl⟩ | ⟨x, t, rfl, rfl⟩
  ·exact wpAny_pyHash_int h
  ·exact wpAny_pyHash_str h
 eqBool := fun hu hv h => by
  rcases keyIs_shape hu with ⟨i, t, rfl, rfl⟩ | ⟨x, t, rfl, rfl⟩
  ·rcases keyIs_shape hv with ⟨j, u, rfl, rfl⟩ | ⟨y, u, rfl, rfl⟩
   ·rw [key_ll] at h; exact wpAny_eqBool_int h
   ·rw [key_lr] at h; exact SeqAt.EqAt.int_str i t y u _ _ _ _ h
  ·rcases keyIs_shape hv with ⟨j, u, rfl, rfl⟩ | ⟨y, u, rfl, rfl⟩
   ·rw [key_rl] at h; exact SeqAt.EqAt.str_int x t j u _ _ _ _ h
   ·rw [key_rr] at h; exact wpAny_eqBool_str h
 «strs» := fun k x t v h => by
  rcases keyIs_shape h with ⟨i, u, rfl, e⟩ | ⟨y, u, rfl, e⟩
  ·exact nomatch e
  ·injection e with e1 _
   subst e1
   cases v <;> rfl
theorem mixKind_int (prog : Program) (w : World) (i : Int) (t : Tok) : (mixKind prog w).is (.inl i) (.int i t) = true := keyIs_int i t
theorem mixKind_str (prog : Program) (w : World) (x : Str) (t : Tok) : (mixKind prog w).is (.inr x) (.str x t) = true := keyIs_str x t
end L2
namespace L2
open PySem PySem.Spec PyProof.Rows
inductive V where
 | non | bl (b : Bool) | int (i : Int) | str (x : Str) | byt (b : Array UInt8) | flt (b : UInt64) | ref (a : Addr) | ty (n : String)
 deriving DecidableEq
def RelV : V -> Value -> Prop
 | .non, u => u = Value.none
 | .bl b, u => u = Value.bool b
 | .int i, u => ∃ t, u = Value.int i t
 | .str x, u => ∃ t, u = Value.str x t
 | .byt b, u => ∃ t, u = Value.bytes b t
 | .flt b, u => ∃ t, u = Value.float b t
 | .ref a, u => u = Value.ref a
 | .ty n, u => u = Value.type n
abbrev Vals : List V -> List Value -> Prop := Paired RelV
theorem Vals.length {xs : List V} {us : List Value} (r : Vals xs us) : xs.length = us.length := Paired.length r
theorem Vals.get : ∀ {xs : List V} {us : List Value} {i : Nat} {x : V}, Vals xs us -> xs[i]? = some x -> ∃ u, us[i]? = some u /\ RelV x u
 | _, _, _, _, .nil, e => by simp at e
 | _, _, 0, _, .cons r _, e => by simp at e; subst e; exact ⟨_, rfl, r⟩
 | _, _, i + 1, x, .cons _ t, e => by
  obtain ⟨u, h1, h2⟩ := Vals.get (i := i) (x := x) t (by simpa using e)
  exact ⟨u, by simpa using h1, h2⟩
theorem Vals.set {x : V} {u : Value} (r : RelV x u) : ∀ {xs : List V} {us : List Value} (i : Nat), Vals xs us -> Vals (xs.set i x) (us.set i u)
 | _, _, _, .nil => .nil
 | _, _, 0, .cons _ t => .cons r t
 | _, _, i + 1, .cons q t => .cons q (Vals.set r i t)
theorem Vals.append : ∀ {xs ys : List V} {us ws : List Value}, Vals xs us -> Vals ys ws -> Vals (xs ++ ys) (us ++ ws)
 | _, _, _, _, .nil, s => s
 | _, _, _, _, .cons r t, s => .cons r (Vals.append t s)
theorem Vals.take : ∀ {xs : List V} {us : List Value} (n : Nat), Vals xs us -> Vals (xs.take n) (us.take n)
 | _, _, 0, _ => .nil
 | _, _, _ + 1, .nil => .nil
 | _, _, n + 1, .cons r t => .cons r (Vals.take n t)
theorem Vals.drop : ∀ {xs : List V} {us : List Value} (n : Nat), Vals xs us -> Vals (xs.drop n) (us.drop n)
 | _, _, 0, r => r
 | _, _, _ + 1, .nil => .nil
 | _, _, n + 1, .cons _ t => Vals.drop n t
def RelO : Option V -> Option Value -> Prop
 | some v, some u => RelV v u
 | none, none => True
 | _, _ => False
def KV {κ : Type} : List (κ × V) -> List (κ × Value) -> Prop := Paired fun (p : κ × V) (q : κ × Value) => p.1 = q.1 /\ RelV p.2 q.2
def kV : Key -> V
 | .inl i => .int i
 | .inr x => .str x
inductive HO where
 /-- a list -/
 | lst (xs : List V)
 /-- a tuple (never changes) -/
 | tup (xs : List V)
 /-- a dict whose keys are ints and texts; one whose keys are tuples of ints and texts (the empty one is both) -/
 | dK (kvs : List (Key × V)) | dT (kvs : List (List Key × V))
 /-- a set of ints: its members, its size -/
 | set (S : Int -> Bool) (n : Nat)
 /-- an instance of the class at C, its dict at dx, its attributes -/
 | ins (C dx : Addr) (fs : List (Str × V))
 /-- the dict of the instance at x -/
 | own (x : Addr)
 /-- the dict of an exception -/
 | xd (fs : List (Str × V))
 /-- a bound method, f of x -/
 | met (f x : Addr)
 /-- a range object lo, lo + 1, .. below hi -/
 | rng (lo hi : Int)
 /-- a thing that is known to the object (the script; a dict while a loop walks it): read, never written while it is so -/
 | frz (o : Obj) (u : HO)
 /-- a code object's table -/
 | tbl (ps : Array Value)
 /-- any other thing, by what is true of its one object (a def of one's own: SetO a S n := HO.ext fun h => ..) -/
 | ext (φ : Heap -> Prop)
abbrev Hp := Addr -> Option HO
def upd (H : Hp) (a : Addr) (o : HO) : Hp := fun b => if b = a then some o else H b
theorem upd_same {H : Hp} {a : Addr} {o : HO} : upd H a o a = some o := by unfold upd; rw [if_pos rfl]
theorem upd_ne {H : Hp} {a b : Addr} {o : HO} (h : b ≠ a) : upd H a o b = H b := by unfold upd; rw [if_neg h]
theorem upd_upd {H : Hp} {a : Addr} {o u : HO} : upd (upd H a o) a u = upd H a u := by
 funext b; unfold upd; split <;> rfl
theorem ne_of {H : Hp} {a b : Addr} {o u : HO} (h : H a = some o) (h' : H b = some u) (d : o ≠ u) : a ≠ b := by
 intro e; subst e; rw [h] at h'; exact d (Option.some.inj h')
theorem ne_of_none {H : Hp} {a b : Addr} {o : HO} (h : H a = some o) (h' : H b = none) : a ≠ b := by
 intro e; subst e; rw [h] at h'; cases h'
section
variable (P : Program) (w : World)
def ObjOk (H : Hp) (h : Heap) (a : Addr) : HO -> Prop
 | .lst xs => xs.length <= sizeLine /\ ∃ (its : List Value) (n : Nat), Vals xs its /\ h.get? a = some { cls := .type "list", data := .seq its.toArray n }
 | .tup xs => xs.length <= sizeLine /\ ∃ its : List Value, Vals xs its /\ IsTup h a its.toArray
 | .dK kvs => kvs.length <= sizeLine /\ (a == sysModules) = false /\ ∃ vs, KV kvs vs /\ h.DictOf (mixKind P w) a vs
 | .dT kvs => kvs.length <= sizeLine /\ (a == sysModules) = false /\ ∃ xs : List (List Key × Addr × Value),
   Paired (fun (p : List Key × V) (q : List Key × Addr × Value) => p.1 = q.1 /\ H q.2.1 = some (.tup (p.1.map kV)) /\ RelV p.2 q.2.2) kvs xs /\
   ∃ o es ep, h.get? a = some o /\ o.ExactDict /\ o.data = .dict es ep /\ es.toList = xs.map (entryOfKey (tupleKind (mixKind P w))) /\ (xs.map (·.1)).Nodup
 | .set S n => h.SetOf (intKind P w) a S n
 | .ins C dx fs => H dx = some (.own a) /\ fs.length <= 1000 /\ dx ≠ a /\ h.get? a = some (PySem.W.instObj C dx) /\
   ∃ mA, h.Ns1 dx mA /\ (∀ f, RelO (fs.lookup f) (mA f)) /\ PySem.Within mA (fs.map (·.1))
 | .own _ => ∃ o, h.get? a = some o
 | .xd fs => ∃ mA, h.Ns1 a mA /\ ∀ f, RelO (fs.lookup f) (mA f)
 | .rng lo hi => ∃ t u v, h.get? a = some { cls := .type "range", data := .fields #[.int lo t, .int hi u, .int 1 v] }
 | .frz o u => h.get? a = some o /\ ObjOk H h a u
 | .tbl ps => h.get? a = some { cls := .none, data := .fields ps }
 | .met f x => h.get? a = some (PySem.W.methodObj (.ref f) (.ref x))
 | .ext φ => φ h /\ (∃ o, h.get? a = some o) /\ ∀ h1 h2 : Heap, φ h1 -> (∀ o, h1.get? a = some o -> h2.get? a = some o) -> φ h2
def HOk (H : Hp) (h : Heap) : Prop := ∀ a o, H a = some o -> ObjOk P w H h a o
end
section
variable {P : Program} {w : World} {H H' : Hp} {h h' : Heap} {a : Addr} {o : HO}
theorem ObjOk.lt (x : ObjOk P w H h a o) : a < h.objs.size := by
 cases o with
 | lst xs => obtain ⟨_, _, _, _, e⟩ := x; exact Heap.lt_size e
 | tup xs => obtain ⟨_, _, _, p⟩ := x; exact p.lt
 | dK kvs => obtain ⟨_, _, _, _, o, _, _, e, _⟩ := x; exact Heap.lt_size e
 | dT kvs => obtain ⟨_, _, _, _, o, _, _, e, _⟩ := x; exact Heap.lt_size e
 | set S n => obtain ⟨o, _, _, _, e, _⟩ := x; exact Heap.lt_size e
 | ins C dx fs => obtain ⟨_, _, _, e, _⟩ := x; exact Heap.lt_size e
 | own y => obtain ⟨_, e⟩ := x; exact Heap.lt_size e
 | xd fs => obtain ⟨_, ⟨_, _, _, e, _⟩, _⟩ := x; exact Heap.lt_size e
 | rng lo hi => obtain ⟨_, _, _, e⟩ := x; exact Heap.lt_size e
 | frz ob u => obtain ⟨e, _⟩ := x; exact Heap.lt_size e
 | tbl ps => exact Heap.lt_size (show h.get? a = some _ from x)
 | met f y => exact Heap.lt_size (show h.get? a = some _ from x)
 | ext φ => obtain ⟨_, ⟨_, e⟩, _⟩ := x; exact Heap.lt_size e
theorem Paired.mapP {α β : Type} {F G : α -> β -> Prop} : ∀ {l₁ : List α} {l₂ : List β}, Paired F l₁ l₂ -> (∀ a b, F a b -> G a b) -> Paired G l₁ l₂
 | _, _, .nil, _ => .nil
 | _, _, .cons r t, f => .cons (f _ _ r) (Paired.mapP t f)
theorem Paired.imp' {α β : Type} {F G : α -> β -> Prop} (f : ∀ a b, F a b -> G a b) {l₁ : List α} {l₂ : List β} (r : Paired F l₁ l₂) : Paired G l₁ l₂ := Paired.mapP r f
theorem ObjOk.stay (x : ObjOk P w H h a o) (k : ∀ b u, (b = a ∨ H b = some (.own a)) -> h.get? b = some u -> h'.get? b = some u)
  (ho : ∀ b, H b = some (.own a) -> H' b = some (.own a)) (ht : ∀ b xs, H b = some (.tup xs) -> H' b = some (.tup xs)) : ObjOk P w H' h' a o := by
 induction o with
 | lst xs => obtain ⟨z, its, n, r, e⟩ := x; exact ⟨z, its, n, r, k _ _ (.inl rfl) e⟩
 | tup xs => obtain ⟨z, its, r, ob, e, c⟩ := x; exact ⟨z, its, r, ob, k _ _ (.inl rfl) e, c⟩
 | dK kvs => obtain ⟨z, y, vs, r, ob, es, ep, e, c⟩ := x; exact ⟨z, y, vs, r, ob, es, ep, k _ _ (.inl rfl) e, c⟩
 | dT kvs =>
  obtain ⟨z, y, xs, r, ob, es, ep, e, c⟩ := x
  exact ⟨z, y, xs, Paired.mapP r fun p q z => ⟨z.1, ht _ _ z.2.1, z.2.2⟩, ob, es, ep, k _ _ (.inl rfl) e, c⟩
 | set S n => obtain ⟨ob, es, ep, t, e, c⟩ := x; exact ⟨ob, es, ep, t, k _ _ (.inl rfl) e, c⟩
 | ins C dx fs =>
  obtain ⟨d, z, ne, e, mA, ⟨od, es, ep, e2, c⟩, r⟩ := x
  exact ⟨ho _ d, z, ne, k _ _ (.inl rfl) e, mA, ⟨od, es, ep, k _ _ (.inr d) e2, c⟩, r⟩
 | own y => obtain ⟨ob, e⟩ := x; exact ⟨ob, k _ _ (.inl rfl) e⟩
 | xd fs => obtain ⟨mA, ⟨od, es, ep, e, c⟩, r⟩ := x; exact ⟨mA, ⟨od, es, ep, k _ _ (.inl rfl) e, c⟩, r⟩
 | rng lo hi => obtain ⟨t, u, v, e⟩ := x; exact ⟨t, u, v, k _ _ (.inl rfl) e⟩
 | frz ob u ih => obtain ⟨e, q⟩ := x; exact ⟨k _ _ (.inl rfl) e, ih q⟩
 | tbl ps =>
  have e : h.get? a = some { cls := .none, data := .fields ps } := x
  show h'.get? a = some { cls := .none, data := .fields ps }
  exact k a _ (.inl rfl) e
 | met f y =>
  have e : h.get? a = some (PySem.W.methodObj (.ref f) (.ref y)) := x
  show h'.get? a = some (PySem.W.methodObj (.ref f) (.ref y))
  exact k a _ (.inl rfl) e
 | ext φ => obtain ⟨p, ⟨o, e⟩, st⟩ := x; exact ⟨st _ _ p fun o q => k _ _ (.inl rfl) q, ⟨o, k _ _ (.inl rfl) e⟩, st⟩
theorem HOk.lt (x : HOk P w H h) (e : H a = some o) : a < h.objs.size := (x a o e).lt
theorem HOk.fresh (x : HOk P w H h) (e : h.objs.size <= a) : H a = none := by
 cases q : H a with
 | none => rfl
 | some u => exact absurd (Nat.lt_of_lt_of_le (x.lt q) e) (Nat.lt_irrefl _)
theorem HOk.kept (x : HOk P w H h) (k : ∀ b u, h.get? b = some u -> h'.get? b = some u) : HOk P w H h' := fun a o e =>
 (x a o e).stay (fun b u _ q => k b u q) (fun _ q => q) fun _ _ q => q
theorem HOk.laid (x : HOk P w H h) (k : ∀ b u, h.get? b = some u -> h'.get? b = some u) (hp : h.objs.size <= a) (new : ObjOk P w (upd H a o) h' a o) : HOk P w (upd H a o) h' := fun b u e => by
 have hn := x.fresh hp
 by_cases hb : b = a
 ·subst hb; rw [upd_same] at e; cases e; exact new
 ·rw [upd_ne hb] at e
  exact (x b u e).stay (fun c v _ q => k c v q) (fun c q => by rw [upd_ne (ne_of_none q hn)]; exact q) fun c xs q => by rw [upd_ne (ne_of_none q hn)]; exact q
end
def Rd (H : Hp) (a : Addr) (u : HO) : Prop := H a = some u ∨ ∃ o, H a = some (.frz o u)
theorem Rd.ok {P : Program} {w : World} {H : Hp} {h : Heap} {a : Addr} {u : HO} (r : Rd H a u) (x : HOk P w H h) : ObjOk P w H h a u := by
 rcases r with r | ⟨o, r⟩
 ·exact x a u r
 ·obtain ⟨_, q⟩ := x a _ r
  exact q
def Mut : Option HO -> Prop
 | some (.lst _) => True
 | some (.dK _) => True
 | some (.dT _) => True
 | some (.set _ _) => True
 | some (.ins _ _ _) => True
 | some (.ext _) => True
 | _ => False
section
variable {P : Program} {w : World} {H : Hp} {h h' : Heap} {x e : Addr} {o' : HO}
theorem HOk.write (ok : HOk P w H h) (mu : Mut (H x)) (he : e = x ∨ H e = some (.own x)) (k : ∀ b u, b ≠ e -> h.get? b = some u -> h'.get? b = some u) (heo : ∃ u, h'.get? e = some u)
  (new : ObjOk P w (upd H x o') h' x o') : HOk P w (upd H x o') h' := fun b u q => by
 have nown : ∀ c y, H c = some (.own y) -> c ≠ x := fun c y r z => by subst z; rw [r] at mu; exact mu
 have ntup : ∀ c xs, H c = some (.tup xs) -> c ≠ x := fun c xs r z => by subst z; rw [r] at mu; exact mu
 by_cases hb : b = x
 ·subst hb; rw [upd_same] at q; cases q; exact new
 ·rw [upd_ne hb] at q
  by_cases hbe : b = e
  ·have q' : H b = some (.own x) := by
    rcases he with z | z
    ·exact absurd (hbe.trans z) hb
    ·rw [hbe]; exact z
   rw [q] at q'; cases q'
   obtain ⟨v, hv⟩ := heo
   exact ⟨v, by rw [hbe]; exact hv⟩
  ·refine (ok b u q).stay (fun c v hc r => k c v ?_ r) (fun c r => by rw [upd_ne (nown c b r)]; exact r) fun c xs r => by rw [upd_ne (ntup c xs r)]; exact r
   rcases hc with rfl | hc
   ·exact hbe
   ·rintro rfl
    rcases he with z | z
    ·exact nown c b hc z
    ·rw [hc] at z; cases z; exact hb rfl
end
structure Un (fs ex : List Addr) (H H' : Hp) (h h' : Heap) : Prop where
 keep : ∀ b o, h.get? b = some o -> H b = none -> b ∉ fs -> b ∉ ex -> h'.get? b = some o
 slot : ∀ b o, h.get? b = some o -> H b = none -> b ∈ fs -> b ∉ ex -> ∃ sl, h'.get? b = some { o with slots := sl }
 free : ∀ b o, h.get? b = some o -> H b = none -> b ∉ ex -> H' b = none
 there : ∀ b o, h.get? b = some o -> b ∉ ex -> ∃ o', h'.get? b = some o'
 tups : ∀ b xs, H b = some (.tup xs) -> H' b = some (.tup xs)
 frzs : ∀ b o u, H b = some (.frz o u) -> H' b = some (.frz o u)
 tbls : ∀ b ps, H b = some (.tbl ps) -> ∃ more, H' b = some (.tbl (ps ++ more))
section
variable {fs fs' ex ex' : List Addr} {H H1 H2 : Hp} {h h1 h2 h' : Heap} {a x e : Addr} {o : HO}
theorem Un.any (u : Un fs ex H H1 h h1) {b : Addr} {ob : Obj} (q : h.get? b = some ob) (n : H b = none) (hx : b ∉ ex) : ∃ sl, h1.get? b = some { ob with slots := sl } := by
 by_cases hb : b ∈ fs
 ·exact u.slot b ob q n hb hx
 ·exact ⟨ob.slots, u.keep b ob q n hb hx⟩
theorem Un.kept (k : ∀ b u, h.get? b = some u -> h'.get? b = some u) : Un fs ex H H h h' :=
 ⟨fun b ob q _ _ _ => k b ob q, fun b ob q _ _ _ => ⟨ob.slots, k b ob q⟩, fun _ _ _ n _ => n, fun b ob q _ => ⟨ob, k b ob q⟩, fun _ _ q => q, fun _ _ _ q => q, fun _ ps q => ⟨#[], by rw [q]; simp⟩⟩
theorem Un.refl : Un fs ex H H h h := Un.kept fun _ _ q => q
theorem Un.laid (k : ∀ b u, h.get? b = some u -> h'.get? b = some u) (hp : h.objs.size <= a) (hn : H a = none) : Un fs ex H (upd H a o) h h' where
 keep := fun b u q _ _ _ => k b u q
 slot := fun b u q _ _ _ => ⟨u.slots, k b u q⟩
 free := fun b u q n _ => by rw [upd_ne (Nat.ne_of_lt (Nat.lt_of_lt_of_le (Heap.lt_size q) hp))]; exact n
 there := fun b u q _ => ⟨u, k b u q⟩
 tups := fun b xs q => by rw [upd_ne (ne_of_none q hn)]; exact q
 frzs := fun b u xs q => by rw [upd_ne (ne_of_none q hn)]; exact q
 tbls := fun b ps q => ⟨#[], by rw [upd_ne (ne_of_none q hn), q]; simp⟩
theorem Un.write (mu : Mut (H x)) (he : e = x ∨ H e = some (.own x)) (k : ∀ b u, b ≠ e -> h.get? b = some u -> h'.get? b = some u) (heo : ∃ u, h'.get? e = some u) : Un fs ex H (upd H x o) h h' := by
 have hx : ∀ b, H b = none -> b ≠ x := fun b n z => by subst z; rw [n] at mu; exact mu
 have hb : ∀ b, H b = none -> b ≠ e := fun b n z => by
  subst z
  rcases he with r | r
  ·exact hx b n r
  ·rw [n] at r; cases r
 have hm : ∀ b u, H b = some u -> ¬ Mut (some u) -> b ≠ x := fun b u q nm z => by subst z; rw [q] at mu; exact nm mu
 refine ⟨fun b u q n _ _ => k b u (hb b n) q, fun b u q n _ _ => ⟨u.slots, k b u (hb b n) q⟩, fun b u q n _ => by rw [upd_ne (hx b n)]; exact n, fun b u q _ => ?_,
  fun b xs q => by rw [upd_ne (hm b _ q fun z => z)]; exact q, fun b u xs q => by rw [upd_ne (hm b _ q fun z => z)]; exact q, fun b ps q => ⟨#[], by rw [upd_ne (hm b _ q fun z => z), q]; simp⟩⟩
 by_cases hbe : b = e
 ·subst hbe; exact heo
 ·exact ⟨u, k b u hbe q⟩
end
def trk (h : Heap) (H : Hp) : List Addr := (List.range h.objs.size).filter fun a => (H a).isSome
def hidT (h : Heap) (H : Hp) : Heap := PySem.W.hideAll h (trk h H)
theorem hidT_size (h : Heap) (H : Hp) : (hidT h H).objs.size = h.objs.size := PySem.W.hideAll_size _ _
theorem hidT_get {h : Heap} {H : Hp} {b : Addr} {o : Obj} (e : h.get? b = some o) (n : H b = none) : (hidT h H).get? b = some o :=
 PySem.W.hideAll_get _ e fun hm => by
  have q : (H b).isSome = true := (List.mem_filter.mp hm).2
  rw [n] at q; simp at q
theorem of_hidT {h : Heap} {H : Hp} {b : Addr} {o : Obj} (e : (hidT h H).get? b = some o) : h.get? b = some o /\ H b = none := by
 have e' : h.get? b = some o := PySem.W.of_hideAll (trk h H) e
 refine ⟨e', ?_⟩
 cases q : H b with
 | none => rfl
 | some x =>
  have hm : b ∈ trk h H := List.mem_filter.mpr ⟨List.mem_range.mpr (Heap.lt_size e'), by simp [q]⟩
  have z : (hidT h H).get? b = none := PySem.W.hideAll_none (trk h H) hm
  rw [z] at e; cases e
end L2
namespace L2
open PySem PySem.Spec PyProof.Rows
structure Mod (K : W.Frag) (mg : Str -> Option Value) (base : Heap) : Prop where
 kin : K.In base
 glob : base.Ns mainGlobals mg
 blt : ∃ mb, base.Ns builtinsNs mb /\ ∀ x : Str, x ≠ "__name__" -> mb x = bootBuiltins x
 nolimit : base.NoLimit
structure Cx where
 prog : Program
 w : World
 K : PySem.W.Frag
 mg : Str -> Option Value
 base : Heap
 A : Around
 N : List Str
 s_0 : Shared
 H_0 : Hp
 env : Env
 outer : List Env
 stack : List Env
 ex : List Addr
 fn : Str -> Bool
 calm : Bool
 pn : List (Addr × Obj)
 xe : Value -> Shared -> Prop
def frs (l : List Env) : List Addr := l.filterMap (·.frame)
abbrev Cx.fs (X : Cx) : List Addr := frs X.outer
def Vis (sc : Scope) (x : Str) : Prop := sc.names.lookup x = some .local ∨ sc.names.lookup x = some .cell ∨ sc.names.lookup x = some .free
def Loc (sc : Scope) (x : Str) : Prop := sc.names.lookup x = some .local ∨ sc.names.lookup x = some .cell
def Look (env : Env) (h : Heap) (m : Str -> Option Value) (x : Str) (u : Value) : Prop :=
 (env.kindOf x = some .local /\ m x = some u) ∨ ((env.kindOf x = some .cell ∨ env.kindOf x = some .free) /\ ∃ c, env.cells.lookup x = some c /\ h.IsCell c (some u))
structure Cx.Ok (X : Cx) : Prop where
 mod : Mod X.K X.mg X.base
 kind : X.env.scope.kind = .function
 glob : X.env.globals = mainGlobals
 blt : X.env.builtins = builtinsNs
 above : X.s_0.heap.objs.size <= X.env.locals
 inj : ∀ x y c, X.env.cells.lookup x = some c -> X.env.cells.lookup y = some c -> x = y
 has : ∀ x, (X.env.kindOf x = some .cell ∨ X.env.kindOf x = some .free) -> ∃ c, X.env.cells.lookup x = some c
 cab : ∀ x c, X.fn x = true -> X.env.cells.lookup x = some c -> X.s_0.heap.objs.size <= c
 hd : X.calm = true -> X.A.handled = none
 frames : X.A.frames = some X.stack
 stk : X.stack = X.outer ∨ (X.stack = X.env :: X.outer /\ X.env.frame = some X.env.locals)
 exf : ∀ b ∈ X.ex, b ≠ X.env.locals /\ ∀ x c, X.env.cells.lookup x = some c -> c ≠ b
 bs : ∀ b o, X.base.get? b = some o -> X.s_0.heap.get? b = some o /\ X.H_0 b = none
 bsz : X.base.objs.size <= X.s_0.heap.objs.size
 noex : ∀ b o, X.base.get? b = some o -> b ∉ X.ex
 exfs : ∀ b ∈ X.ex, b ∉ X.fs
 funs : X.s_0.heap.FunFrames X.base X.outer
 frf : ∀ b ∈ X.fs, X.H_0 b = none
structure Inv (X : Cx) (pins : List (Addr × Obj)) (σ : List (Option V)) (H : Hp) (s : Shared) : Prop where
 ok : X.Ok
 os : s.os = X.s_0.os
 bare : AllBare s.gens
 base : Un X.fs X.ex X.H_0 H X.s_0.heap s.heap
 loc : ∃ m, s.heap.Ns X.env.locals m /\ ∀ (i : Nat) (x : Str) (v : V), X.N[i]? = some x -> σ[i]? = some (some v) -> Vis X.env.scope x -> ∃ u, RelV v u /\ Look X.env s.heap m x u
 cell : ∀ x c, X.env.cells.lookup x = some c -> ∃ v, s.heap.IsCell c v
 free : H X.env.locals = none
 freeC : ∀ x c, X.env.cells.lookup x = some c -> H c = none
 pin : ∀ p ∈ X.pn ++ pins, s.heap.get? p.1 = some p.2 /\ H p.1 = none /\ p.1 ≠ X.env.locals /\ p.1 ∉ X.fs /\ ∀ v, p.2.data ≠ .cell v
 hok : HOk X.prog X.w H s.heap
 len : σ.length = X.N.length
section
variable {X : Cx} {pins : List (Addr × Obj)} {σ : List (Option V)} {H H' : Hp} {s : Shared} {h' : Heap}
theorem Cx.Ok.nofr (ok : X.Ok) {b : Addr} {o : Obj} (e : X.base.get? b = some o) : b ∉ X.fs := fun hb => by
 have := (ok.funs.mem hb).1
 rw [e] at this; cases this
theorem Inv.bs (I : Inv X pins σ H s) : ∀ b o, X.base.get? b = some o -> s.heap.get? b = some o /\ H b = none := fun b o e =>
 ⟨I.base.keep b o (I.ok.bs b o e).1 (I.ok.bs b o e).2 (I.ok.nofr e) (I.ok.noex b o e), I.base.free b o (I.ok.bs b o e).1 (I.ok.bs b o e).2 (I.ok.noex b o e)⟩
theorem Inv.bk (I : Inv X pins σ H s) : ∀ b o, X.base.get? b = some o -> s.heap.get? b = some o := fun b o e => (I.bs b o e).1
theorem Inv.mod (I : Inv X pins σ H s) : Mod X.K X.mg X.base := I.ok.mod
theorem Inv.kIn (I : Inv X pins σ H s) : X.K.In s.heap := I.ok.mod.kin.keeps I.bk
theorem Inv.lt (I : Inv X pins σ H s) : X.env.locals < s.heap.objs.size := let ⟨_, hn, _⟩ := I.loc; hn.lt
theorem Inv.sz (I : Inv X pins σ H s) : X.s_0.heap.objs.size <= s.heap.objs.size := Nat.le_trans I.ok.above (Nat.le_of_lt I.lt)
theorem Inv.nofs (I : Inv X pins σ H s) {a : Addr} (h : s.heap.objs.size <= a) : a ∉ X.fs := fun hb => by
 obtain ⟨_, o, ho, _⟩ := I.ok.funs.mem hb
 exact absurd (Nat.lt_of_lt_of_le (Heap.lt_size ho) (Nat.le_trans I.sz h)) (Nat.lt_irrefl _)
theorem Inv.cne (I : Inv X pins σ H s) : ∀ x c, X.env.cells.lookup x = some c -> c ≠ X.env.locals := fun x c e z => by
 obtain ⟨v, o, ho, hd⟩ := I.cell x c e
 obtain ⟨m, ⟨o', es, ep, ho', hd', _⟩, _⟩ := I.loc
 rw [z, ho'] at ho; cases ho; rw [hd'] at hd; cases hd
theorem Inv.funs (I : Inv X pins σ H s) : s.heap.FunFrames X.base X.outer := by
 have all : ∀ (l : List Env), (∀ b ∈ frs l, b ∈ X.fs) -> X.s_0.heap.FunFrames X.base l -> s.heap.FunFrames X.base l := by
  intro l
  induction l with
  | nil => intro _ _; trivial
  | cons env r ih =>
   intro hs hl
   obtain ⟨hk, ⟨L, o, hf, hn, ho, hd⟩, hr⟩ := hl
   have hL : L ∈ X.fs := hs L (by unfold frs; rw [List.filterMap_cons, hf]; exact List.mem_cons_self)
   obtain ⟨sl, e⟩ := I.base.slot L o ho (I.ok.frf L hL) hL fun z => I.ok.exfs L z hL
   exact ⟨hk, ⟨L, _, hf, hn, e, hd⟩, ih (fun b hb => hs b (by unfold frs; rw [List.filterMap_cons, hf]; exact List.mem_cons_of_mem _ hb)) hr⟩
 exact all X.outer (fun _ hb => hb) I.ok.funs
theorem Inv.stack (I : Inv X pins σ H s) : s.heap.FunFrames X.base X.stack := by
 rcases I.ok.stk with e | ⟨e, hf⟩
 ·rw [e]; exact I.funs
 ·rw [e]
  obtain ⟨m, hn, _⟩ := I.loc
  refine .cons (by rw [I.ok.kind]; decide) hf hn ?_ I.funs
  exact Heap.get?_none_of_le (Nat.le_trans I.ok.bsz I.ok.above)
theorem Inv.stkSub (I : Inv X pins σ H s) : ∀ b ∈ frs X.stack, b ∈ X.env.locals :: X.fs := fun b hb => by
 rcases I.ok.stk with e | ⟨e, hf⟩
 ·rw [e] at hb; exact List.mem_cons_of_mem _ hb
 ·rw [e] at hb
  unfold frs at hb
  rw [List.filterMap_cons, hf] at hb
  exact hb
theorem Inv.stkFree (I : Inv X pins σ H s) : ∀ b ∈ frs X.stack, H b = none := fun b hb => by
 rcases List.mem_cons.mp (I.stkSub b hb) with e | hb
 ·rw [e]; exact I.free
 ·obtain ⟨_, o, ho, _⟩ := I.ok.funs.mem hb
  exact I.base.free b o ho (I.ok.frf b hb) fun z => I.ok.exfs b z hb
theorem Inv.step {g' : Array GenState} {t' : Nat} {d' : Drawn} {ch : List Addr} (I : Inv X pins σ H s)
  (hch : ∀ b ∈ ch, (b ∈ X.ex ∨ X.s_0.heap.objs.size <= b) /\ b ≠ X.env.locals /\ (∀ x c, X.env.cells.lookup x = some c -> c ≠ b) /\ ∀ p ∈ X.pn ++ pins, p.1 ≠ b)
  (keep : ∀ b o, b ≠ X.env.locals -> b ∉ X.fs -> b ∉ ch -> s.heap.get? b = some o -> H b = none -> h'.get? b = some o)
  (slot : ∀ b o, b ≠ X.env.locals -> b ∈ X.fs -> b ∉ ch -> s.heap.get? b = some o -> H b = none -> ∃ sl, h'.get? b = some { o with slots := sl }) (free : ∀ b o, b ∉ ch -> s.heap.get? b = some o -> H b = none -> H' b = none)
  (there : ∀ b o, b ∉ ch -> s.heap.get? b = some o -> ∃ o', h'.get? b = some o')
  (tups : ∀ b xs, H b = some (.tup xs) -> H' b = some (.tup xs)) (frzs : ∀ b o u, H b = some (.frz o u) -> H' b = some (.frz o u)) (tbls : ∀ b ps, H b = some (.tbl ps) -> ∃ more, H' b = some (.tbl (ps ++ more)))
  (ns : ∀ m, s.heap.Ns X.env.locals m -> h'.Ns X.env.locals m) (hok : HOk X.prog X.w H' h') (hg : AllBare g') :
  Inv X pins σ H' { s with heap := h', gens := g', drawn := d', toks := t' } := by
 have neL : ∀ b o, X.s_0.heap.get? b = some o -> b ≠ X.env.locals := fun b o e => Nat.ne_of_lt (Nat.lt_of_lt_of_le (Heap.lt_size e) I.ok.above)
 have neC : ∀ b o, X.s_0.heap.get? b = some o -> b ∉ X.ex -> b ∉ ch := fun b o e hx hb => by
  rcases (hch b hb).1 with z | z
  ·exact hx z
  ·exact absurd (Nat.lt_of_lt_of_le (Heap.lt_size e) z) (Nat.lt_irrefl _)
 have cellK : ∀ x c, X.env.cells.lookup x = some c -> ∀ v, s.heap.IsCell c v -> h'.IsCell c v := fun x c e v ⟨o, ho, hd⟩ => by
  have nch : c ∉ ch := fun z => (hch c z).2.2.1 x c e rfl
  by_cases hc : c ∈ X.fs
  ·obtain ⟨sl, q⟩ := slot c o (I.cne x c e) hc nch ho (I.freeC x c e)
   exact ⟨_, q, hd⟩
  ·exact ⟨o, keep c o (I.cne x c e) hc nch ho (I.freeC x c e), hd⟩
 refine ⟨I.ok, I.os, hg, ⟨fun b o e n hb hx => ?_, fun b o e n hb hx => ?_, fun b o e n hx => ?_, fun b o e hx => ?_, fun b xs e => tups b xs (I.base.tups b xs e), fun b o xs e => frzs b o xs (I.base.frzs b o xs e), fun b ps e => ?_⟩, ?_, fun x c e => ?_, ?_, fun x c e => ?_, fun p hp => ?_, hok, I.len⟩
 ·exact keep b o (neL b o e) hb (neC b o e hx) (I.base.keep b o e n hb hx) (I.base.free b o e n hx)
 ·obtain ⟨sl, e1⟩ := I.base.slot b o e n hb hx
  obtain ⟨sl', e2⟩ := slot b _ (neL b o e) hb (neC b o e hx) e1 (I.base.free b o e n hx)
  exact ⟨sl', e2⟩
 ·obtain ⟨o', e1⟩ := I.base.there b o e hx
  exact free b o' (neC b o e hx) e1 (I.base.free b o e n hx)
 ·obtain ⟨o', e1⟩ := I.base.there b o e hx
  exact there b o' (neC b o e hx) e1
 ·obtain ⟨m1, e1⟩ := I.base.tbls b ps e
  obtain ⟨m2, e2⟩ := tbls b _ e1
  exact ⟨m1 ++ m2, by rw [e2, Array.append_assoc]⟩
 ·obtain ⟨m, hn, hl⟩ := I.loc
  refine ⟨m, ns m hn, fun i x v e1 e2 e3 => ?_⟩
  obtain ⟨u, r, l⟩ := hl i x v e1 e2 e3
  refine ⟨u, r, ?_⟩
  rcases l with l | ⟨k, c, e, z⟩
  ·exact .inl l
  ·exact .inr ⟨k, c, e, cellK x c e _ z⟩
 ·obtain ⟨v, z⟩ := I.cell x c e
  exact ⟨v, cellK x c e v z⟩
 ·obtain ⟨m, ⟨o, _, _, ho, _⟩, _⟩ := I.loc
  exact free _ o (fun z => (hch _ z).2.1 rfl) ho I.free
 ·obtain ⟨v, o, ho, hd⟩ := I.cell x c e
  exact free c o (fun z => (hch c z).2.2.1 x c e rfl) ho (I.freeC x c e)
 ·obtain ⟨e, n, ne, nf, d⟩ := I.pin p hp
  have nch : p.1 ∉ ch := fun z => (hch p.1 z).2.2.2 p hp rfl
  exact ⟨keep p.1 p.2 ne nf nch e n, free p.1 p.2 nch e n, ne, nf, d⟩
theorem Inv.un {t' : Nat} (I : Inv X pins σ H s) (u : Un X.fs [] H H' s.heap h') (hok : HOk X.prog X.w H' h') : Inv X pins σ H' { s with heap := h', toks := t' } := by
 obtain ⟨m, ⟨o, es, ep, ho, r⟩, _⟩ := id I.loc
 obtain ⟨sl, hL⟩ := u.any ho I.free (by simp)
 exact I.step (g' := s.gens) (d' := s.drawn) (ch := []) (fun _ z => nomatch z) (fun b o _ hb _ e n => u.keep b o e n hb (by simp)) (fun b o _ hb _ e n => u.slot b o e n hb (by simp)) (fun b o _ e n => u.free b o e n (by simp)) (fun b o _ e => u.there b o e (by simp)) u.tups u.frzs u.tbls (fun m' hm => by
  obtain ⟨o', es', ep', ho', r'⟩ := hm
  rw [ho] at ho'; cases ho'
  exact ⟨_, es', ep', hL, r'⟩) hok I.bare
theorem Inv.call {g' : Array GenState} {t' : Nat} {d' : Drawn} {ch : List Addr} (I : Inv X pins σ H s) (u : Un (frs X.stack) ch H H' s.heap h') (hok : HOk X.prog X.w H' h') (hg : AllBare g')
  (hch : ∀ b ∈ ch, (b ∈ X.ex ∨ X.s_0.heap.objs.size <= b) /\ b ≠ X.env.locals /\ (∀ x c, X.env.cells.lookup x = some c -> c ≠ b) /\ ∀ p ∈ X.pn ++ pins, p.1 ≠ b) :
  Inv X pins σ H' { s with heap := h', gens := g', drawn := d', toks := t' } := by
 obtain ⟨m, ⟨o, es, ep, ho, r⟩, _⟩ := id I.loc
 obtain ⟨sl, hL⟩ := u.any ho I.free fun z => (hch _ z).2.1 rfl
 exact I.step (ch := ch) hch (fun b o hL hb hc e n => u.keep b o e n (fun z => (List.mem_cons.mp (I.stkSub b z)).elim hL hb) hc) (fun b o _ _ hc e n => u.any e n hc) (fun b o hc e n => u.free b o e n hc) (fun b o hc e => u.there b o e hc) u.tups u.frzs u.tbls (fun m' hm => by
  obtain ⟨o', es', ep', ho', r'⟩ := hm
  rw [ho] at ho'; cases ho'
  exact ⟨_, es', ep', hL, r'⟩) hok hg
theorem Inv.turned {t' : Nat} {it : Addr} (I : Inv X pins σ H s) (k : ∀ b o, b ≠ it -> s.heap.get? b = some o -> h'.get? b = some o) (hn : H it = none) (hL : it ≠ X.env.locals)
  (h1 : it ∈ X.ex ∨ X.s_0.heap.objs.size <= it) (h2 : ∀ x c, X.env.cells.lookup x = some c -> c ≠ it) (h3 : ∀ p ∈ X.pn ++ pins, p.1 ≠ it) : Inv X pins σ H { s with heap := h', toks := t' } := by
 have nit : ∀ b u, H b = some u -> b ≠ it := fun b u e z => by rw [z, hn] at e; cases e
 refine I.step (g' := s.gens) (d' := s.drawn) (ch := [it]) (fun b hb => ?_) (fun b o _ _ hc e _ => k b o (fun z => hc (by simp [z])) e) (fun b o _ _ hc e _ => ⟨o.slots, k b o (fun z => hc (by simp [z])) e⟩) (fun _ _ _ _ n => n)
  (fun b o hc e => ⟨o, k b o (fun z => hc (by simp [z])) e⟩) (fun _ _ e => e) (fun _ _ _ e => e) (fun b ps e => ⟨#[], by rw [e]; simp⟩) (fun m hm => ?_) (fun b u e => ?_) I.bare
 ·have e : b = it := by simpa using hb
  subst e
  exact ⟨h1, hL, h2, h3⟩
 ·obtain ⟨o, es, ep, ho, r⟩ := hm
  exact ⟨o, es, ep, k _ o (Ne.symm hL) ho, r⟩
 ·refine (I.hok b u e).stay (fun c v hc q => k c v ?_ q) (fun _ q => q) fun _ _ q => q
  rcases hc with z | z
  ·rw [z]; exact nit b u e
  ·exact nit c _ z
theorem Inv.tok (I : Inv X pins σ H s) (t : Nat) : Inv X pins σ H { s with toks := t } := I.un (h' := s.heap) (t' := t) Un.refl I.hok
theorem Inv.kept {t' : Nat} (I : Inv X pins σ H s) (k : ∀ b u, s.heap.get? b = some u -> h'.get? b = some u) : Inv X pins σ H { s with heap := h', toks := t' } := I.un (Un.kept k) (I.hok.kept k)
theorem Inv.laid {a : Addr} {o : HO} {t' : Nat} (I : Inv X pins σ H s) (k : ∀ b u, s.heap.get? b = some u -> h'.get? b = some u) (hp : s.heap.objs.size <= a) (new : ObjOk X.prog X.w (upd H a o) h' a o) :
  Inv X pins σ (upd H a o) { s with heap := h', toks := t' } := I.un (Un.laid k hp (I.hok.fresh hp)) (I.hok.laid k hp new)
theorem Inv.write {x e : Addr} {o : HO} {t' : Nat} (I : Inv X pins σ H s) (mu : Mut (H x)) (he : e = x ∨ H e = some (.own x)) (k : ∀ b u, b ≠ e -> s.heap.get? b = some u -> h'.get? b = some u) (heo : ∃ u, h'.get? e = some u)
  (new : ObjOk X.prog X.w (upd H x o) h' x o) : Inv X pins σ (upd H x o) { s with heap := h', toks := t' } := I.un (Un.write mu he k heo) (I.hok.write mu he k heo new)
theorem Inv.weak {σ' : List (Option V)} (I : Inv X pins σ H s) (hl : σ'.length = σ.length) (w : ∀ (i : Nat) v, σ'[i]? = some (some v) -> σ[i]? = some (some v)) : Inv X pins σ' H s :=
 ⟨I.ok, I.os, I.bare, I.base, let ⟨m, hn, hl'⟩ := I.loc; ⟨m, hn, fun i x v e1 e2 e3 => hl' i x v e1 (w i v e2) e3⟩, I.cell, I.free, I.freeC, I.pin, I.hok, hl.trans I.len⟩
theorem Inv.pins_of {pins' : List (Addr × Obj)} (I : Inv X pins σ H s) (h : ∀ p ∈ pins', s.heap.get? p.1 = some p.2 /\ H p.1 = none /\ p.1 ≠ X.env.locals /\ p.1 ∉ X.fs /\ ∀ v, p.2.data ≠ .cell v) : Inv X pins' σ H s :=
 ⟨I.ok, I.os, I.bare, I.base, I.loc, I.cell, I.free, I.freeC, fun p hp => (List.mem_append.mp hp).elim (fun z => I.pin p (List.mem_append_left _ z)) (h p), I.hok, I.len⟩
theorem nodup_ix {N : List Str} (hN : N.Nodup) {i j : Nat} {x : Str} (a : N[i]? = some x) (b : N[j]? = some x) : i = j := by
 obtain ⟨h1, e1⟩ := List.getElem?_eq_some_iff.mp a
 obtain ⟨h2, e2⟩ := List.getElem?_eq_some_iff.mp b
 exact (List.getElem_inj hN).mp (e1.trans e2.symm)
theorem store_ok2 {M : Model} {A : Around} {E : Value -> Shared -> Prop} {i : Nat} {x : Str} {v : V} {u : Value} {Q : Unit -> Shared -> Prop} (I : Inv X pins σ H s) (hN : X.N.Nodup) (hi : X.N[i]? = some x) (hx : Loc X.env.scope x) (r : RelV v u)
  (h : ∀ s', Inv X pins (σ.set i (some v)) H s' -> (∃ a, Heap.SameBut a s.heap s'.heap /\ (a = X.env.locals ∨ X.env.cells.lookup x = some a)) -> Q () s') (hf : X.fn x = true ∨ X.env.scope.names.lookup x = some .local := by first | exact .inl rfl | exact .inr rfl | assumption) : wpAny M A (storeName X.env x u) Q E s := by
 obtain ⟨m, hn, hl⟩ := id I.loc
 have hcls : (X.env.scope.kind == .class || (X.env.scope.kind == .module && X.env.locals != X.env.globals)) = false := by rw [I.ok.kind]; rfl
 have hiσ : i < σ.length := by rw [I.len]; exact (List.getElem?_eq_some_iff.mp hi).1
 have cne := I.cne
 have tracked : ∀ {a : Addr} {h' : Heap}, (∃ o, s.heap.get? a = some o /\ H a = none) -> Heap.SameBut a s.heap h' -> HOk X.prog X.w H h' := fun {a h'} ha hs b ob e => by
  obtain ⟨_, _, hfree⟩ := ha
  refine (I.hok b ob e).stay (fun c w' hc q => (hs.2 c ?_).trans q) (fun _ q => q) fun _ _ q => q
  rintro rfl
  rcases hc with rfl | hc
  ·rw [hfree] at e; cases e
  ·rw [hfree] at hc; cases hc
 rcases hx with hk | hk
 ·refine wpAny_storeName_local hk hn (fun h' hn' hs => ?_) hcls
  obtain ⟨oL, _, _, hoL, _⟩ := id hn
  refine h _ ⟨I.ok, I.os, I.bare, ⟨fun b o e n hb hx => ?_, fun b o e n hb hx => ?_, I.base.free, fun b o e hx => ?_, I.base.tups, I.base.frzs, I.base.tbls⟩, ⟨_, hn', fun j y v' e1 e2 e3 => ?_⟩, fun y c e => ?_, I.free, I.freeC, fun p hp => ?_, tracked ⟨oL, hoL, I.free⟩ hs, by simpa using I.len⟩ ⟨_, hs, .inl rfl⟩
  ·exact (hs.2 b (Nat.ne_of_lt (Nat.lt_of_lt_of_le (Heap.lt_size e) I.ok.above))).trans (I.base.keep b o e n hb hx)
  ·obtain ⟨sl, e1⟩ := I.base.slot b o e n hb hx
   exact ⟨sl, (hs.2 b (Nat.ne_of_lt (Nat.lt_of_lt_of_le (Heap.lt_size e) I.ok.above))).trans e1⟩
  ·obtain ⟨o', e1⟩ := I.base.there b o e hx
   exact ⟨o', (hs.2 b (Nat.ne_of_lt (Nat.lt_of_lt_of_le (Heap.lt_size e) I.ok.above))).trans e1⟩
  ·by_cases hj : j = i
   ·subst hj
    rw [hi] at e1; cases e1
    rw [List.getElem?_set_self hiσ] at e2
    cases e2
    exact ⟨u, r, .inl ⟨hk, by simp⟩⟩
   ·rw [List.getElem?_set_ne (Ne.symm hj)] at e2
    obtain ⟨u', r', q⟩ := hl j y v' e1 e2 e3
    refine ⟨u', r', ?_⟩
    rcases q with ⟨k, e⟩ | ⟨k, c, e, z⟩
    ·refine .inl ⟨k, ?_⟩
     have : y ≠ x := fun e => hj (nodup_ix hN e1 (e ▸ hi))
     simp [this, e]
    ·exact .inr ⟨k, c, e, z.sameBut hs (cne y c e)⟩
  ·obtain ⟨w', z⟩ := I.cell y c e
   exact ⟨w', z.sameBut hs (cne y c e)⟩
  ·obtain ⟨e, n, ne, nf, d⟩ := I.pin p hp
   exact ⟨(hs.2 p.1 ne).trans e, n, ne, nf, d⟩
 ·have hfn : X.fn x = true := by
   rcases hf with z | z
   ·exact z
   ·rw [z] at hk; cases hk
  obtain ⟨c, hc⟩ := I.ok.has x (.inl hk)
  obtain ⟨w', z⟩ := I.cell x c hc
  refine wpAny_storeName_cell I.ok.kind hk hc z (fun h' hc' hs => ?_)
  obtain ⟨oc, hoc, hocd⟩ := id z
  refine h { s with heap := h' } ⟨I.ok, I.os, I.bare, ⟨fun b o e n hb hx => ?_, fun b o e n hb hx => ?_, I.base.free, fun b o e hx => ?_, I.base.tups, I.base.frzs, I.base.tbls⟩, ⟨m, hn.sameBut hs (Ne.symm (cne x c hc)), fun j y v' e1 e2 e3 => ?_⟩, fun y c' e => ?_, I.free, I.freeC, fun p hp => ?_, tracked ⟨oc, hoc, I.freeC x c hc⟩ hs, by simpa using I.len⟩ ⟨c, hs, .inr hc⟩
  ·exact (hs.2 b (Nat.ne_of_lt (Nat.lt_of_lt_of_le (Heap.lt_size e) (I.ok.cab x c hfn hc)))).trans (I.base.keep b o e n hb hx)
  ·obtain ⟨sl, e1⟩ := I.base.slot b o e n hb hx
   exact ⟨sl, (hs.2 b (Nat.ne_of_lt (Nat.lt_of_lt_of_le (Heap.lt_size e) (I.ok.cab x c hfn hc)))).trans e1⟩
  ·obtain ⟨o', e1⟩ := I.base.there b o e hx
   exact ⟨o', (hs.2 b (Nat.ne_of_lt (Nat.lt_of_lt_of_le (Heap.lt_size e) (I.ok.cab x c hfn hc)))).trans e1⟩
  ·by_cases hj : j = i
   ·subst hj
    rw [hi] at e1; cases e1
    rw [List.getElem?_set_self hiσ] at e2
    cases e2
    exact ⟨u, r, .inr ⟨.inl hk, c, hc, hc'⟩⟩
   ·rw [List.getElem?_set_ne (Ne.symm hj)] at e2
    obtain ⟨u', r', q⟩ := hl j y v' e1 e2 e3
    refine ⟨u', r', ?_⟩
    rcases q with q | ⟨k, c', e, z'⟩
    ·exact .inl q
    ·refine .inr ⟨k, c', e, z'.sameBut hs ?_⟩
     rintro rfl
     exact hj (nodup_ix hN e1 (I.ok.inj _ _ _ e hc ▸ hi))
  ·by_cases hcc : c' = c
   ·subst hcc; exact ⟨_, hc'⟩
   ·obtain ⟨w2, z2⟩ := I.cell y c' e
    exact ⟨w2, z2.sameBut hs hcc⟩
  ·obtain ⟨e, n, ne, nf, d⟩ := I.pin p hp
   refine ⟨(hs.2 p.1 ?_).trans e, n, ne, nf, d⟩
   intro q
   rw [q, hoc] at e
   have q' : oc = p.2 := Option.some.inj e
   exact d w' (by rw [<- q']; exact hocd)
theorem store_ok {M : Model} {A : Around} {E : Value -> Shared -> Prop} {i : Nat} {x : Str} {v : V} {u : Value} {Q : Unit -> Shared -> Prop} (I : Inv X pins σ H s) (hN : X.N.Nodup) (hi : X.N[i]? = some x) (hx : Loc X.env.scope x) (r : RelV v u)
  (h : ∀ s', Inv X pins (σ.set i (some v)) H s' -> Q () s') (hf : X.fn x = true ∨ X.env.scope.names.lookup x = some .local := by first | exact .inl rfl | exact .inr rfl | assumption) : wpAny M A (storeName X.env x u) Q E s :=
 store_ok2 I hN hi hx r (fun s' I' _ => h s' I') hf
theorem Inv.call' {s' : Shared} {ch : List Addr} (I : Inv X pins σ H s) (ho : s'.os = s.os) (u : Un (frs X.stack) ch H H' s.heap s'.heap) (hok : HOk X.prog X.w H' s'.heap) (hg : AllBare s'.gens)
  (hch : ∀ b ∈ ch, (b ∈ X.ex ∨ X.s_0.heap.objs.size <= b) /\ b ≠ X.env.locals /\ (∀ x c, X.env.cells.lookup x = some c -> c ≠ b) /\ ∀ p ∈ X.pn ++ pins, p.1 ≠ b) : Inv X pins σ H' s' := by
 obtain ⟨h', g', d', t', o'⟩ := s'
 have e : o' = s.os := ho
 subst e
 exact I.call (g' := g') (t' := t') (d' := d') u hok hg hch
end
abbrev XK := Value -> Option Addr -> Hp -> Prop
abbrev St := List (Option V)
abbrev VK := V -> Hp -> Prop
abbrev TE := St -> Hp -> VK -> Prop
abbrev TT := St -> Hp -> (Bool -> Hp -> Prop) -> Prop
abbrev TA := St -> Hp -> (List V -> Hp -> Prop) -> Prop
structure Ends where
 nx : St -> Hp -> Prop
 rt : VK
 bk : St -> Hp -> Prop := fun _ _ => False
 ct : St -> Hp -> Prop := fun _ _ => False
abbrev TS := Ends -> St -> Hp -> Prop
def EP (X : Cx) (pins : List (Addr × Obj)) (σ : St) (Q : VK) (u : Value) (s' : Shared) : Prop := ∃ v H', Inv X pins σ H' s' /\ RelV v u /\ Q v H'
def TP (X : Cx) (pins : List (Addr × Obj)) (σ : St) (Q : Bool -> Hp -> Prop) (b : Bool) (s' : Shared) : Prop := ∃ H', Inv X pins σ H' s' /\ Q b H'
def AP (X : Cx) (pins : List (Addr × Obj)) (σ : St) (Q : List V -> Hp -> Prop) (us : List Value) (s' : Shared) : Prop := ∃ vs H', Inv X pins σ H' s' /\ Vals vs us /\ Q vs H'
def SP (X : Cx) (pins : List (Addr × Obj)) (D : Ends) (f : Flow) (s' : Shared) : Prop :=
 match f with
 | .next => ∃ σ' H', Inv X pins σ' H' s' /\ D.nx σ' H'
 | .brk => ∃ σ' H', Inv X pins σ' H' s' /\ D.bk σ' H'
 | .cont => ∃ σ' H', Inv X pins σ' H' s' /\ D.ct σ' H'
 | .ret u => ∃ v σ' H', Inv X pins σ' H' s' /\ RelV v u /\ D.rt v H'
def PE (X : Cx) (e : Expr) (t : TE) : Prop :=
 ∀ (pins : List (Addr × Obj)) (s : Shared) (σ : St) (H : Hp) (Q : VK), Inv X pins σ H s -> t σ H Q -> wpAny (model X.prog X.w) X.A (eval e X.env) (EP X pins σ Q) X.xe s
def PT (X : Cx) (e : Expr) (t : TT) : Prop :=
 ∀ (pins : List (Addr × Obj)) (s : Shared) (σ : St) (H : Hp) (Q : Bool -> Hp -> Prop), Inv X pins σ H s -> t σ H Q -> wpAny (model X.prog X.w) X.A (isTrue e X.env (eval e X.env)) (TP X pins σ Q) X.xe s
def PW (X : Cx) (e : Expr) (t : TT) : Prop :=
 ∀ (whole : Sem Value) (pins : List (Addr × Obj)) (s : Shared) (σ : St) (H : Hp) (Q : Bool -> Hp -> Prop), Inv X pins σ H s -> t σ H Q -> wpAny (model X.prog X.w) X.A (isTrue e X.env whole) (TP X pins σ Q) X.xe s
theorem PW.pt {X : Cx} {e : Expr} {t : TT} (h : PW X e t) : PT X e t := h _
def PA (X : Cx) (es : List Expr) (t : TA) : Prop :=
 ∀ (pos : Pos) (pins : List (Addr × Obj)) (s : Shared) (σ : St) (H : Hp) (Q : List V -> Hp -> Prop), Inv X pins σ H s -> t σ H Q -> wpAny (model X.prog X.w) X.A (spliced (backTo pos (starEach es X.env))) (AP X pins σ Q) X.xe s
def PS (X : Cx) (st : Stmt) (t : TS) : Prop :=
 ∀ (pins : List (Addr × Obj)) (s : Shared) (σ : St) (H : Hp) (D : Ends), Inv X pins σ H s -> t D σ H -> wpAny (model X.prog X.w) X.A (exec st X.env) (SP X pins D) X.xe s
def PSs (X : Cx) (st : List Stmt) (t : TS) : Prop :=
 ∀ (pins : List (Addr × Obj)) (s : Shared) (σ : St) (H : Hp) (D : Ends), Inv X pins σ H s -> t D σ H -> wpAny (model X.prog X.w) X.A (execs st X.env) (SP X pins D) X.xe s
theorem thn {α : Type} {t : Sem α} {Q Q' : α -> Shared -> Prop} {M : Model} {A : Around} {E : Value -> Shared -> Prop} {s : Shared} (h : wpAny M A t Q E s) (hQ : ∀ a s, Q a s -> Q' a s) : wpAny M A t Q' E s := wpAny_mono h hQ fun _ _ x => x
end L2
namespace L2
open PySem PySem.Spec PyProof.Rows
section
variable {X : Cx}
def tVar (i : Nat) : TE := fun σ H Q => ∃ v, σ[i]? = some (some v) /\ Q v H
def tC (v : V) : TE := fun _ H Q => Q v H
theorem pe_var {i : Nat} {x : Str} {pos : Pos} (hN : X.N[i]? = some x) (hv : Vis X.env.scope x) (hd : (x == ("__debug__" : Str)) = false := by decide) (hcd : (x == ("__classdict__" : Str)) = false := by decide) : PE X (.Name x pos) (tVar i) := by
 intro pins s σ H Q I h
 obtain ⟨v, e, h⟩ := h
 obtain ⟨m, hn, hl⟩ := I.loc
 obtain ⟨u, r, l⟩ := hl i x v hN e hv
 have fin : EP X pins σ Q u s := ⟨v, H, I, r, h⟩
 rcases l with ⟨hk, hm⟩ | ⟨hk, c, hc, hcell⟩
 ·exact wpAny_Name (wpAny_loadName_local I.ok.kind hk hn hm fin) hd
 ·rcases hk with hk | hk
  ·exact wpAny_Name (wpAny_loadName_cell I.ok.kind hk hc hcell fin) hd
  ·exact wpAny_Name (wpAny_loadName_free I.ok.kind hk hc hcell fin hcd) hd
theorem pe_int {i j pos} : PE X (.Constant (.int i) j pos) (tC (.int i)) := fun _ _ _ H _ I h => wpAny_Constant_int ⟨.int i, H, I.tok _, ⟨_, rfl⟩, h⟩
theorem pe_bl {b j pos} : PE X (.Constant (.bool b) j pos) (tC (.bl b)) := fun _ _ _ H _ I h => Constant_bool ⟨.bl b, H, I, rfl, h⟩
theorem pe_non {j pos} : PE X (.Constant .none j pos) (tC .non) := fun _ _ _ H _ I h => Constant_none ⟨.non, H, I, rfl, h⟩
def Gl (X : Cx) (x : Str) : Prop := X.env.kindOf x = some .globalImplicit
theorem ld_glob {E : Value -> Shared -> Prop} {pins : List (Addr × Obj)} {s : Shared} {σ : St} {H : Hp} {x : Str} {u : Value} {pos : Pos} {Q : Value -> Shared -> Prop} (I : Inv X pins σ H s) (hg : Gl X x) (hm : X.mg x = some u) (h : Q u s)
  (hd : (x == ("__debug__" : Str)) = false := by decide) : wpAny (model X.prog X.w) X.A (eval (.Name x pos) X.env) Q E s :=
 Calls.Name_function_global I.ok.kind hg (Calls.loadGlobal_global (by rw [I.ok.glob]; exact I.mod.glob.keeps I.bk) hm h) hd
theorem ld_blt {E : Value -> Shared -> Prop} {pins : List (Addr × Obj)} {s : Shared} {σ : St} {H : Hp} {x : Str} {u : Value} {pos : Pos} {Q : Value -> Shared -> Prop} (I : Inv X pins σ H s) (hg : Gl X x) (hm : X.mg x = none) (hv : bootBuiltins x = some u) (h : Q u s)
  (hn : x ≠ "__name__" := by decide) (hd : (x == ("__debug__" : Str)) = false := by decide) : wpAny (model X.prog X.w) X.A (eval (.Name x pos) X.env) Q E s := by
 obtain ⟨mb, h1, h2⟩ := I.mod.blt
 exact Calls.Name_function_global I.ok.kind hg (Calls.loadGlobal_builtin (by rw [I.ok.glob]; exact I.mod.glob.keeps I.bk) hm (by rw [I.ok.blt]; exact h1.keeps I.bk) ((h2 x hn).trans hv) h) hd
theorem pe_glob {x : Str} {v : V} {u : Value} {pos : Pos} (hg : Gl X x) (hm : X.mg x = some u) (r : RelV v u) (hd : (x == ("__debug__" : Str)) = false := by decide) : PE X (.Name x pos) (tC v) :=
 fun _ _ _ H _ I h => ld_glob I hg hm ⟨v, H, I, r, h⟩ hd
variable {a b : Expr} {ta tb : TE} {pos : Pos}
def PC (X : Cx) (op : CmpOp) (a b : Expr) (t : TE) : Prop :=
 ∀ (pins : List (Addr × Obj)) (s : Shared) (σ : St) (H : Hp) (Q : VK), Inv X pins σ H s -> t σ H Q ->
  wpAny (model X.prog X.w) X.A (eval a X.env) (fun v s₁ => wpAny (model X.prog X.w) X.A (eval b X.env) (fun u s₂ => wpAny (model X.prog X.w) X.A (compareOp op v u) (EP X pins σ Q) X.xe s₂) X.xe s₁) X.xe s
def tB (t : TE) : TT := fun σ H Q => t σ H fun x H1 => ∃ c, x = .bl c /\ Q c H1
theorem pt_cmp {op : CmpOp} {t : TE} (h : PC X op a b t) (h1 : behindInMarks op b = false := by first | exact nobehind _ (by decide) (by decide) | rfl) : PT X (.Compare a [op] [b] pos) (tB t) := by
 intro pins s σ H Q I hw
 refine wpAny_isTrue_Compare1 (thn (h pins s σ H _ I hw) fun v s1 h1 => thn h1 fun u s2 h2 => thn h2 fun c s3 ⟨x, H1, I1, r1, q1⟩ => ?_) h1
 obtain ⟨d, rfl, q⟩ := q1
 cases r1
 exact wpAny_truthy_bool ⟨H1, I1, q⟩
theorem pt_val {e : Expr} {t : TE} (h : PE X e t) (he : ∀ whole, isTrue e X.env whole = (do let v <- whole; standAt e.pos; holding [v] (truthy v)) := by intro _; rfl) : PT X e (tB t) := by
 intro pins s σ H Q I hw
 refine isTrue_plain (thn (h pins s σ H _ I hw) fun v s1 ⟨x, H1, I1, r1, q1⟩ => ?_) (he _)
 obtain ⟨d, rfl, q⟩ := q1
 cases r1
 exact wpAny_truthy_bool ⟨H1, I1, q⟩
variable {tA tB' : TT} {rest : List Expr}
def tAnd (t u : TT) : TT := fun σ H Q => t σ H fun c H1 => if c = true then u σ H1 Q else Q false H1
def tOr (t u : TT) : TT := fun σ H Q => t σ H fun c H1 => if c = true then Q true H1 else u σ H1 Q
def tNot (t : TT) : TT := fun σ H Q => t σ H fun c H1 => Q (!c) H1
theorem pw_and1 (ha : PT X a tA) : PW X (.BoolOp .And [a] pos) tA := by
 intro wh pins s σ H Q I h
 refine isTrue_and (thn (ha pins s σ H Q I h) fun c s1 e => ?_)
 cases c with
 | true => exact isTrue_and_nil e
 | false => exact e
theorem pw_or1 (ha : PT X a tA) : PW X (.BoolOp .Or [a] pos) tA := by
 intro wh pins s σ H Q I h
 refine isTrue_or (thn (ha pins s σ H Q I h) fun c s1 e => ?_)
 cases c with
 | false => exact isTrue_or_nil e
 | true => exact e
theorem pw_and (ha : PT X a tA) (hb : PW X (.BoolOp .And (b :: rest) pos) tB') : PW X (.BoolOp .And (a :: b :: rest) pos) (tAnd tA tB') := by
 intro wh pins s σ H Q I h
 refine isTrue_and (thn (ha pins s σ H _ I h) fun c s1 ⟨H1, I1, q1⟩ => ?_)
 cases c with
 | true => exact hb wh pins s1 σ H1 Q I1 q1
 | false => exact ⟨H1, I1, q1⟩
theorem pw_or (ha : PT X a tA) (hb : PW X (.BoolOp .Or (b :: rest) pos) tB') : PW X (.BoolOp .Or (a :: b :: rest) pos) (tOr tA tB') := by
 intro wh pins s σ H Q I h
 refine isTrue_or (thn (ha pins s σ H _ I h) fun c s1 ⟨H1, I1, q1⟩ => ?_)
 cases c with
 | true => exact ⟨H1, I1, q1⟩
 | false => exact hb wh pins s1 σ H1 Q I1 q1
theorem pt_not (ha : PT X a tA) : PT X (.UnaryOp .Not a pos) (tNot tA) := by
 intro pins s σ H Q I h
 exact isTrue_not (ha pins s σ H (fun c H1 => Q (!c) H1) I h)
def tAndV (ta tb : TE) : TE := fun σ H Q => ta σ H fun x H1 => ∃ c, x = .bl c /\ if c = true then tb σ H1 Q else Q (.bl false) H1
def tOrV (ta tb : TE) : TE := fun σ H Q => ta σ H fun x H1 => ∃ c, x = .bl c /\ if c = true then Q (.bl true) H1 else tb σ H1 Q
def tNotV (ta : TE) : TE := fun σ H Q => ta σ H fun x H1 => ∃ c, x = .bl c /\ Q (.bl (!c)) H1
theorem pe_one {op} {t : TE} (h : PE X a t) : PE X (.BoolOp op [a] pos) t := fun pins s σ H Q I hw => BoolOp_one (h pins s σ H Q I hw)
theorem pe_and (ha : PE X a ta) (hb : PE X (.BoolOp .And (b :: rest) pos) tb) : PE X (.BoolOp .And (a :: b :: rest) pos) (tAndV ta tb) := by
 intro pins s σ H Q I h
 refine BoolOp_and (thn (ha pins s σ H _ I h) fun v s1 ⟨x, H1, I1, r1, q1⟩ => ?_)
 obtain ⟨c, rfl, q1⟩ := q1
 cases r1
 refine wpAny_truthy_bool ?_
 cases c with
 | true => exact hb pins s1 σ H1 Q I1 q1
 | false => exact ⟨.bl false, H1, I1, rfl, q1⟩
theorem pe_or (ha : PE X a ta) (hb : PE X (.BoolOp .Or (b :: rest) pos) tb) : PE X (.BoolOp .Or (a :: b :: rest) pos) (tOrV ta tb) := by
 intro pins s σ H Q I h
 refine BoolOp_or (thn (ha pins s σ H _ I h) fun v s1 ⟨x, H1, I1, r1, q1⟩ => ?_)
 obtain ⟨c, rfl, q1⟩ := q1
 cases r1
 refine wpAny_truthy_bool ?_
 cases c with
 | false => exact hb pins s1 σ H1 Q I1 q1
 | true => exact ⟨.bl true, H1, I1, rfl, q1⟩
theorem pe_not (ha : PE X a ta) : PE X (.UnaryOp .Not a pos) (tNotV ta) := by
 intro pins s σ H Q I h
 refine UnaryOp_ (thn (ha pins s σ H _ I h) fun v s1 ⟨x, H1, I1, r1, q1⟩ => ?_)
 obtain ⟨c, rfl, q1⟩ := q1
 cases r1
 exact not_of (wpAny_truthy_bool ⟨.bl (!c), H1, I1, rfl, q1⟩)
def tIf (t : TT) (ta tb : TE) : TE := fun σ H Q => t σ H fun c H1 => if c = true then ta σ H1 Q else tb σ H1 Q
theorem pe_ifExp {c : Expr} (hc : PT X c tA) (ha : PE X a ta) (hb : PE X b tb) : PE X (.IfExp c a b pos) (tIf tA ta tb) := by
 intro pins s σ H Q I h
 refine wpAny_IfExp (thn (hc pins s σ H _ I h) fun d s1 ⟨H1, I1, q1⟩ => ?_)
 cases d with
 | true => exact ha pins s1 σ H1 Q I1 q1
 | false => exact hb pins s1 σ H1 Q I1 q1
end
end L2
namespace L2
open PySem PySem.Spec PyProof.Rows
def SqL (K : W.Frag) (H : Hp) (a : Addr) (xs : List V) : Prop :=
 Rd H a (.lst xs) ∨
  ∃ (o : Obj) (its : Array Value) (n : Nat), K.lookup a = some o /\ o.cls = .type "list" /\ o.dict = none /\ o.data = .seq its n /\ its.size <= sizeLine /\ Vals xs its.toList
def SqT (K : W.Frag) (H : Hp) (a : Addr) (xs : List V) : Prop :=
 Rd H a (.tup xs) ∨
  ∃ (o : Obj) (its : Array Value) (n : Nat), K.lookup a = some o /\ o.cls = .type "tuple" /\ o.data = .seq its n /\ its.size <= sizeLine /\ Vals xs its.toList
def absV : Value -> Option V
 | .none => some .non
 | .bool b => some (.bl b)
 | .int i _ => some (.int i)
 | .str x _ => some (.str x)
 | .bytes b _ => some (.byt b)
 | .float b _ => some (.flt b)
 | .ref a => some (.ref a)
 | .type n => some (.ty n)
 | _ => none
theorem RelV.abs {x : V} {u : Value} (r : RelV x u) : absV u = some x := by
 cases x with
 | non => cases r; rfl
 | bl _ => cases r; rfl
 | int _ => obtain ⟨t, rfl⟩ := r; rfl
 | str _ => obtain ⟨t, rfl⟩ := r; rfl
 | byt _ => obtain ⟨t, rfl⟩ := r; rfl
 | flt _ => obtain ⟨t, rfl⟩ := r; rfl
 | ref _ => cases r; rfl
 | ty _ => cases r; rfl
theorem RelV.inj {x y : V} {u : Value} (r : RelV x u) (q : RelV y u) : x = y := Option.some.inj (r.abs.symm.trans q.abs)
theorem Vals.inj : ∀ {xs ys : List V} {us : List Value}, Vals xs us -> Vals ys us -> xs = ys
 | _, _, _, .nil, .nil => rfl
 | _, _, _, .cons r t, .cons r' t' => by rw [r.inj r', Vals.inj t t']
section
variable {X : Cx} {pins : List (Addr × Obj)} {σ : St} {H : Hp} {s : Shared} {a : Addr} {xs ys : List V}
theorem SqL.of {K : W.Frag} (h : H a = some (.lst xs)) : SqL K H a xs := .inl (.inl h)
theorem SqT.of {K : W.Frag} (h : H a = some (.tup xs)) : SqT K H a xs := .inl (.inl h)
theorem Inv.list (I : Inv X pins σ H s) (h : SqL X.K H a xs) : ∃ its : List Value, Vals xs its /\ PlainL s.heap a its.toArray /\ xs.length <= sizeLine := by
 rcases h with h | ⟨o, its, n, hk, hc, hd, hs, hz, r⟩
 ·obtain ⟨z, its, n, r, e⟩ := h.ok I.hok
  exact ⟨its, r, ⟨_, n, e, rfl, rfl, rfl⟩, z⟩
 ·refine ⟨its.toList, r, ⟨o, n, I.kIn a o hk, hc, hd, by simpa using hs⟩, ?_⟩
  have e := r.length
  simp only [Array.length_toList] at e
  omega
theorem Inv.tuple (I : Inv X pins σ H s) (h : SqT X.K H a xs) : ∃ its : List Value, Vals xs its /\ IsTup s.heap a its.toArray /\ xs.length <= sizeLine := by
 rcases h with h | ⟨o, its, n, hk, hc, hs, hz, r⟩
 ·obtain ⟨z, its, r, p⟩ := h.ok I.hok
  exact ⟨its, r, p, z⟩
 ·refine ⟨its.toList, r, ⟨o, I.kIn a o hk, hc, n, by simpa using hs⟩, ?_⟩
  have e := r.length
  simp only [Array.length_toList] at e
  omega
theorem Inv.list_inj (I : Inv X pins σ H s) (h : SqL X.K H a xs) (h' : SqL X.K H a ys) : xs = ys := by
 obtain ⟨its, r, ⟨o, n, e, _, _, d⟩, _⟩ := I.list h
 obtain ⟨its', r', ⟨o', n', e', _, _, d'⟩, _⟩ := I.list h'
 rw [e] at e'; cases e'
 rw [d] at d'
 injection d' with d1 _
 have : its = its' := by simpa using congrArg Array.toList d1
 subst this
 exact r.inj r'
theorem Inv.tuple_inj (I : Inv X pins σ H s) (h : SqT X.K H a xs) (h' : SqT X.K H a ys) : xs = ys := by
 obtain ⟨its, r, ⟨o, e, _, n, d⟩, _⟩ := I.tuple h
 obtain ⟨its', r', ⟨o', e', _, n', d'⟩, _⟩ := I.tuple h'
 rw [e] at e'; cases e'
 rw [d] at d'
 injection d' with d1 _
 have : its = its' := by simpa using congrArg Array.toList d1
 subst this
 exact r.inj r'
end
abbrev Cx.wish (X : Cx) (E : Value -> Shared -> Prop) : Cx := { X with xe := E }
abbrev Cx.nox (X : Cx) : Cx := X.wish fun _ _ => False
theorem Cx.Ok.wish {X : Cx} (ok : X.Ok) (E : Value -> Shared -> Prop) : (X.wish E).Ok :=
 ⟨ok.mod, ok.kind, ok.glob, ok.blt, ok.above, ok.inj, ok.has, ok.cab, ok.hd, ok.frames, ok.stk, ok.exf, ok.bs, ok.bsz, ok.noex, ok.exfs, ok.funs, ok.frf⟩
theorem Cx.Ok.unwish {X : Cx} {E : Value -> Shared -> Prop} (ok : (X.wish E).Ok) : X.Ok :=
 ⟨ok.mod, ok.kind, ok.glob, ok.blt, ok.above, ok.inj, ok.has, ok.cab, ok.hd, ok.frames, ok.stk, ok.exf, ok.bs, ok.bsz, ok.noex, ok.exfs, ok.funs, ok.frf⟩
section
variable {X : Cx} {pins : List (Addr × Obj)} {σ : St} {H : Hp} {s : Shared} {E : Value -> Shared -> Prop}
theorem Inv.wish (I : Inv X pins σ H s) (E : Value -> Shared -> Prop) : Inv (X.wish E) pins σ H s := ⟨I.ok.wish E, I.os, I.bare, I.base, I.loc, I.cell, I.free, I.freeC, I.pin, I.hok, I.len⟩
theorem Inv.unwish (I : Inv (X.wish E) pins σ H s) : Inv X pins σ H s := ⟨I.ok.unwish, I.os, I.bare, I.base, I.loc, I.cell, I.free, I.freeC, I.pin, I.hok, I.len⟩
theorem SP.unwish {D : Ends} {f : Flow} {s' : Shared} (h : SP (X.wish E) pins D f s') : SP X pins D f s' := by
 cases f with
 | next => obtain ⟨σ', H', I, q⟩ := h; exact ⟨σ', H', I.unwish, q⟩
 | brk => obtain ⟨σ', H', I, q⟩ := h; exact ⟨σ', H', I.unwish, q⟩
 | cont => obtain ⟨σ', H', I, q⟩ := h; exact ⟨σ', H', I.unwish, q⟩
 | ret u => obtain ⟨v, σ', H', I, r, q⟩ := h; exact ⟨v, σ', H', I.unwish, r, q⟩
theorem PSs.nox {st : List Stmt} {t : TS} (h : PSs X.nox st t) : PSs X st t := fun pins s σ H D I hw =>
 wpAny_mono (h pins s σ H D (I.wish _) hw) (fun _ _ q => q.unwish) fun _ _ z => False.elim z
end
section
variable {X : Cx} {st : Stmt} {rest : List Stmt} {t u : TS} {e : Expr} {te : TE} {pos : Pos}
def tNext : TS := fun D σ H => D.nx σ H
def tSeq (t u : TS) : TS := fun D σ H => t { D with nx := u D } σ H
theorem pss_nil : PSs X [] tNext := fun _ _ σ H _ I h => wpAny_execs_nil ⟨σ, H, I, h⟩
theorem pss_cons (h1 : PS X st t) (h2 : PSs X rest u) : PSs X (st :: rest) (tSeq t u) := by
 intro pins s σ H D I h
 refine wpAny_execs_cons (thn (h1 pins s σ H { D with nx := u D } I h) fun f s1 q => ?_)
 cases f with
 | next =>
  obtain ⟨σ', H', I', q⟩ := q
  exact h2 pins s1 σ' H' D I' q
 | ret v => exact q
 | brk => exact q
 | cont => exact q
theorem pss_one (h1 : PS X st t) : PSs X [st] t := by
 intro pins s σ H D I h
 refine wpAny_execs_cons (thn (h1 pins s σ H D I h) fun f s1 q => ?_)
 cases f with
 | next => exact wpAny_execs_nil q
 | ret v => exact q
 | brk => exact q
 | cont => exact q
theorem Inv.quiet {pins : List (Addr × Obj)} {σ : St} {H : Hp} {s : Shared} (I : Inv X pins σ H s) : interactive X.env = false := by simp [interactive, I.ok.kind]
def tDrop (te : TE) : TS := fun D σ H => te σ H fun _ H1 => D.nx σ H1
theorem ps_expr (he : PE X e te) (hs : swapsWith e none pos.line X.env = pure false := by rfl) : PS X (.Expr e pos) (tDrop te) := by
 intro pins s σ H D I h
 exact wpAny_Expr_any (thn (he pins s σ H _ I h) fun v s1 ⟨x, H1, I1, r1, q1⟩ => ⟨σ, H1, I1, q1⟩) I.quiet hs
def tRet (te : TE) : TS := fun D σ H => te σ H D.rt
theorem ps_ret (he : PE X e te) : PS X (.Return (some e) pos) (tRet te) := by
 intro pins s σ H D I h
 exact wpAny_Return_some (thn (he pins s σ H _ I h) fun v s1 ⟨x, H1, I1, r1, q1⟩ => ⟨x, σ, H1, I1, r1, q1⟩)
def tIfS (c : TT) (t u : TS) : TS := fun D σ H => c σ H fun b H1 => if b = true then t D σ H1 else u D σ H1
theorem ps_if {c : Expr} {a b : List Stmt} {tc : TT} (hc : PT X c tc) (ha : PSs X a t) (hb : PSs X b u) : PS X (.If c a b pos) (tIfS tc t u) := by
 intro pins s σ H D I h
 refine wpAny_If (thn (hc pins s σ H _ I h) fun d s1 ⟨H1, I1, q1⟩ => ?_)
 cases d with
 | true => exact ha pins s1 σ H1 D I1 q1
 | false => exact hb pins s1 σ H1 D I1 q1
def tNever : TS := fun _ _ _ => False
theorem ps_never : PS X st tNever := fun _ _ _ _ _ _ h => h.elim
end
abbrev TG := V -> St -> Hp -> (St -> Hp -> Prop) -> Prop
abbrev TGs := List V -> St -> Hp -> (St -> Hp -> Prop) -> Prop
def PG (X : Cx) (target : Expr) (t : TG) : Prop :=
 ∀ (pins : List (Addr × Obj)) (s : Shared) (σ : St) (H : Hp) (v : V) (u : Value) (Q : St -> Hp -> Prop), Inv X pins σ H s -> RelV v u -> t v σ H Q ->
  wpAny (model X.prog X.w) X.A (assign target X.env u) (fun _ s' => ∃ σ' H', Inv X pins σ' H' s' /\ Q σ' H') X.xe s
def PGs (X : Cx) (ts : List Expr) (t : TGs) : Prop :=
 ∀ (pins : List (Addr × Obj)) (s : Shared) (σ : St) (H : Hp) (vs : List V) (us : List Value) (Q : St -> Hp -> Prop), Inv X pins σ H s -> Vals vs us -> t vs σ H Q ->
  wpAny (model X.prog X.w) X.A (assignInOrder ((assignEach ts X.env).map (·.2)) us) (fun _ s' => ∃ σ' H', Inv X pins σ' H' s' /\ Q σ' H') X.xe s
abbrev TSet := V -> V -> V -> Hp -> (Hp -> Prop) -> Prop
def PSet (X : Cx) (t : TSet) : Prop :=
 ∀ (pins : List (Addr × Obj)) (s : Shared) (σ : St) (H : Hp) (o i v : V) (ov iv u : Value) (Q : Hp -> Prop), Inv X pins σ H s -> RelV o ov -> RelV i iv -> RelV v u -> t o i v H Q ->
  wpAny (model X.prog X.w) X.A (setItem ov iv u) (fun _ s' => ∃ H', Inv X pins σ H' s' /\ Q H') X.xe s
abbrev TIp := V -> V -> Hp -> VK -> Prop
def PIp (X : Cx) (op : Operator) (t : TIp) : Prop :=
 ∀ (pins : List (Addr × Obj)) (s : Shared) (σ : St) (H : Hp) (x y : V) (v u : Value) (Q : VK), Inv X pins σ H s -> RelV x v -> RelV y u -> t x y H Q ->
  wpAny (model X.prog X.w) X.A (inplaceOp op v u) (EP X pins σ Q) X.xe s
section
variable {X : Cx} {pos : Pos}
def gName (i : Nat) : TG := fun v σ H Q => Q (σ.set i (some v)) H
theorem pg_name {i : Nat} {x : Str} (hN : X.N.Nodup) (hi : X.N[i]? = some x) (hx : Loc X.env.scope x) (hf : X.fn x = true ∨ X.env.scope.names.lookup x = some .local := by first | exact .inl rfl | exact .inr rfl | assumption) : PG X (.Name x pos) (gName i) := by
 intro pins s σ H v u Q I r h
 exact wpAny_assign_Name (store_ok I hN hi hx r (fun s' I' => ⟨_, H, I', h⟩) hf)
def gNil : TGs := fun vs σ H Q => vs = [] /\ Q σ H
def gCons (t : TG) (u : TGs) : TGs := fun vs σ H Q => ∃ v r, vs = v :: r /\ t v σ H fun σ' H' => u r σ' H' Q
theorem pgs_nil : PGs X [] gNil := by
 intro pins s σ H vs us Q I r h
 obtain ⟨e, h⟩ := h
 subst e
 cases r
 exact assignInOrder_nil ⟨σ, H, I, h⟩
theorem pgs_cons {e : Expr} {es : List Expr} {t : TG} {u : TGs} (h1 : PG X e t) (h2 : PGs X es u)
  (hs : (assignEach (e :: es) X.env).map (·.2) = assign e X.env :: (assignEach es X.env).map (·.2) := by rfl) : PGs X (e :: es) (gCons t u) := by
 intro pins s σ H vs us Q I r h
 obtain ⟨v, vr, e1, h⟩ := h
 subst e1
 cases r with
 | cons r rr =>
  rw [hs]
  refine assignInOrder_cons (thn (h1 pins s σ H _ _ _ I r h) fun _ s1 ⟨σ1, H1, I1, q1⟩ => ?_)
  exact h2 pins s1 σ1 H1 _ _ Q I1 rr q1
def gTup (K : W.Frag) (n : Nat) (t : TGs) : TG := fun v σ H Q => ∃ a xs, v = .ref a /\ SqT K H a xs /\ xs.length = n /\ t xs σ H Q
theorem pg_tup {es : List Expr} {k : Nat} {t : TGs} {n : Nat} (hc : X.calm = true) (h : PGs X es t)
  (hn : (assignEach es X.env).length = n := by rfl) (hst : (assignEach es X.env).findIdx? (·.1) = none := by rfl) : PG X (.Tuple es k pos) (gTup X.K n t) := by
 intro pins s σ H v u Q I r hw
 obtain ⟨a, xs, e1, hq, hl, hw⟩ := hw
 subst e1
 cases r
 obtain ⟨its, rv, ht, hz⟩ := I.tuple hq
 refine assign_Tuple_tuple (I.ok.hd hc) ht (by simp [hn, <- hl, rv.length]) hst fun h' hx => ?_
 have I1 : Inv X pins σ H { s with heap := h' } := I.kept (t' := s.toks) fun b o e => hx b o (Nat.ne_of_lt (Heap.lt_size e)) e
 exact h pins _ σ H xs _ Q I1 (by simpa using rv) hw
def gSub (to ti : TE) (t : TSet) : TG := fun v σ H Q => to σ H fun o H1 => ti σ H1 fun i H2 => t o i v H2 fun H3 => Q σ H3
theorem pg_sub {o i : Expr} {to ti : TE} {t : TSet} (ho : PE X o to) (hi : PE X i ti) (hs : PSet X t)
  (ha : ∀ v, assign (.Subscript o i pos) X.env v = (do
   let ov <- holding [v] (eval o X.env)
   let iv <- holding [v, ov] (eval i X.env)
   standAt pos
   holding [v, ov, iv] (setItem ov iv v)
   release [v, ov, iv] []) := by intro _; rfl) : PG X (.Subscript o i pos) (gSub to ti t) := by
 intro pins s σ H v u Q I r h
 rw [ha]
 refine wpAny_bind (wpAny_holding (thn (ho pins s σ H _ I h) fun ov s1 ⟨x, H1, I1, r1, q1⟩ => ?_))
 refine wpAny_bind (wpAny_holding (thn (hi pins s1 σ H1 _ I1 q1) fun iv s2 ⟨y, H2, I2, r2, q2⟩ => ?_))
 refine wpAny_bind (wpAny_standAt (wpAny_bind (wpAny_holding (thn (hs pins s2 σ H2 x y v ov iv u _ I2 r1 r2 r q2) fun _ s3 ⟨H3, I3, q3⟩ => ?_))))
 exact wpAny_release ⟨σ, H3, I3, q3⟩
def tAsg (te : TE) (g : TG) : TS := fun D σ H => te σ H fun x H1 => g x σ H1 D.nx
theorem ps_asg {tg e : Expr} {te : TE} {g : TG} (he : PE X e te) (hg : PG X tg g) (hs : swapsWithSole [tg] e pos.line X.env = pure false := by rfl) (hw : swappedStores [tg] e X.env = pure none := by rfl)
  (h1 : (assignEach [tg] X.env).map (·.2) = [assign tg X.env] := by rfl) : PS X (.Assign [tg] e pos) (tAsg te g) := by
 intro pins s σ H D I h
 refine wpAny_Assign_stores (thn (he pins s σ H _ I h) fun v s1 ⟨x, H1, I1, r1, q1⟩ => ?_) hs hw
 rw [h1]
 exact thn (hg pins s1 σ H1 x v _ I1 r1 q1) fun _ s2 q => q
theorem ps_set {i : Nat} {x : Str} {e : Expr} {te : TE} {pos' : Pos} (hN : X.N.Nodup) (hi : X.N[i]? = some x) (hx : Loc X.env.scope x) (he : PE X e te) (hs : swapsWith e (some (.Name x pos')) pos.line X.env = pure false := by rfl) (hf : X.fn x = true ∨ X.env.scope.names.lookup x = some .local := by first | exact .inl rfl | exact .inr rfl | assumption) :
  PS X (.Assign [.Name x pos'] e pos) (tAsg te (gName i)) := by
 intro pins s σ H D I h
 refine wpAny_Assign_Name (thn (he pins s σ H _ I h) fun v s1 ⟨y, H1, I1, r1, q1⟩ => ?_) hs
 exact store_ok I1 hN hi hx r1 (fun s2 I2 => ⟨_, H1, I2, q1⟩) hf
def tAug (i : Nat) (te : TE) (ti : TIp) : TS := fun D σ H => ∃ x, σ[i]? = some (some x) /\ te σ H fun y H1 => ti x y H1 fun z H2 => D.nx (σ.set i (some z)) H2
theorem ps_aug {i : Nat} {x : Str} {e : Expr} {te : TE} {op : Operator} {ti : TIp} {pos' : Pos} (hN : X.N.Nodup) (hi : X.N[i]? = some x) (hx : Loc X.env.scope x) (he : PE X e te) (ho : PIp X op ti) (hf : X.fn x = true ∨ X.env.scope.names.lookup x = some .local := by first | exact .inl rfl | exact .inr rfl | assumption) :
  PS X (.AugAssign (.Name x pos') op e pos) (tAug i te ti) := by
 intro pins s σ H D I h
 obtain ⟨v, e1, h⟩ := h
 obtain ⟨m, hn, hl⟩ := I.loc
 have vis : Vis X.env.scope x := by rcases hx with k | k; exact .inl k; exact .inr (.inl k)
 obtain ⟨u, r, l⟩ := hl i x v hi e1 vis
 refine wpAny_AugAssign_Name ?_
 have go : wpAny (model X.prog X.w) X.A (eval e X.env) (fun w s₂ => wpAny (model X.prog X.w) X.A (inplaceOp op u w) (fun r s₃ => wpAny (model X.prog X.w) X.A (storeName X.env x r) (fun _ => SP X pins D .next) X.xe s₃) X.xe s₂) X.xe s := by
  refine thn (he pins s σ H _ I h) fun w s1 ⟨y, H1, I1, r1, q1⟩ => ?_
  refine thn (ho pins s1 σ H1 v y u w _ I1 r r1 q1) fun z s2 ⟨zv, H2, I2, r2, q2⟩ => ?_
  exact store_ok I2 hN hi hx r2 (fun s3 I3 => ⟨_, H2, I3, q2⟩) hf
 rcases l with ⟨hk, hm⟩ | ⟨hk, c, hc, hcell⟩
 ·exact wpAny_loadName_local I.ok.kind hk hn hm go
 ·rcases hk with hk | hk
  ·exact wpAny_loadName_cell I.ok.kind hk hc hcell go
  ·rcases hx with k | k
   ·have : X.env.scope.names.lookup x = some .free := hk
    rw [k] at this; cases this
   ·have : X.env.scope.names.lookup x = some .free := hk
    rw [k] at this; cases this
def ipI (f : Int -> Int -> Int) : TIp := fun x y H Q => ∃ i j, x = .int i /\ y = .int j /\ Q (.int (f i j)) H
theorem ip_add : PIp X .Add (ipI fun i j => i + j) := by
 intro pins s σ H x y v u Q I r1 r2 h
 obtain ⟨i, j, e1, e2, q⟩ := h
 subst e1; subst e2
 obtain ⟨t, rfl⟩ := r1
 obtain ⟨t', rfl⟩ := r2
 exact iadd_int ⟨.int _, H, I.tok _, ⟨_, rfl⟩, q⟩
end
section
variable {X : Cx} {pos : Pos}
def tWhile (c : TT) (tb : TS) : TS := fun D σ H => ∃ W : Nat -> St -> Hp -> Prop, (∃ m, W m σ H) /\ ∀ m σ H, W m σ H ->
 c σ H fun b H1 => if b = true then ∃ N : St -> Hp -> Prop, (∀ σ' H', N σ' H' -> ∃ m', m' < m /\ W m' σ' H') /\ tb { D with nx := N, ct := N, bk := D.nx } σ H1 else D.nx σ H1
theorem ps_while {c : Expr} {body : List Stmt} {tc : TT} {tb : TS} (hp : PassesOwn (model X.prog X.w) X.A X.env X.xe) (hc : PT X c tc) (hb : PSs X body tb) : PS X (.While c body [] pos) (tWhile tc tb) := by
 intro pins s σ H D I h
 obtain ⟨W, ⟨m0, w0⟩, turn⟩ := h
 refine wpAny_While (codeAny_whileLoop (fun n s' => ∃ σ' H', Inv X pins σ' H' s' /\ W n σ' H') ?_ m0 ⟨σ, H, I, w0⟩)
 rintro n s1 ⟨σ1, H1, I1, w1⟩
 refine wpAny_passesOwn hp (thn (hc pins s1 σ1 H1 _ I1 (turn n σ1 H1 w1)) fun b s2 ⟨H2, I2, q2⟩ => ?_)
 cases b with
 | true =>
  obtain ⟨N, hN, q2⟩ := q2
  rw [if_pos rfl]
  refine wpAny_passesOwn hp (thn (hb pins s2 σ1 H2 _ I2 q2) fun f s3 q3 => ?_)
  cases f with
  | next =>
   obtain ⟨σ3, H3, I3, n3⟩ := q3
   obtain ⟨m', hm, w3⟩ := hN σ3 H3 n3
   exact ⟨m', hm, σ3, H3, I3, w3⟩
  | cont =>
   obtain ⟨σ3, H3, I3, n3⟩ := q3
   obtain ⟨m', hm, w3⟩ := hN σ3 H3 n3
   exact ⟨m', hm, σ3, H3, I3, w3⟩
  | brk => exact q3
  | ret v => exact q3
 | false =>
  rw [if_neg Bool.false_ne_true]
  exact wpAny_execs_nil ⟨σ1, H2, I2, q2⟩
end
structure It where
 go : Nat -> Hp -> Prop
 yld : Nat -> Hp -> V -> Hp -> Prop
 stop : Nat -> Hp -> Prop
def FpOk (X : Cx) (pins : List (Addr × Obj)) (H : Hp) (b : Addr) : Prop :=
 H b = none /\ b ≠ X.env.locals /\ b ∉ X.fs /\ (b ∈ X.ex ∨ X.s_0.heap.objs.size <= b) /\ (∀ x c, X.env.cells.lookup x = some c -> c ≠ b) /\ ∀ p ∈ X.pn ++ pins, p.1 ≠ b
theorem Inv.fpOk {X : Cx} {pins : List (Addr × Obj)} {σ : St} {H H' : Hp} {s : Shared} {b : Addr} (I : Inv X pins σ H s) (hb : s.heap.objs.size <= b) (hn : H' b = none) : FpOk X pins H' b := by
 refine ⟨hn, Nat.ne_of_gt (Nat.lt_of_lt_of_le I.lt hb), I.nofs hb, .inr (Nat.le_trans I.sz hb), fun x c e z => ?_, fun p hp z => ?_⟩
 ·obtain ⟨v, q⟩ := I.cell x c e
  exact absurd (Nat.lt_of_lt_of_le q.lt (by rw [z]; exact hb)) (Nat.lt_irrefl _)
 ·exact absurd (Nat.lt_of_lt_of_le (Heap.lt_size (I.pin p hp).1) (by rw [z]; exact hb)) (Nat.lt_irrefl _)
structure Turn (P : Program) (w : World) (K : W.Frag) (tg : Expr) (J : It) (fp : List Addr) (it : Addr) (tn : Nat -> Heap -> Prop) : Prop where
 mem : it ∈ fp
 obj : ∀ i h, tn i h -> ∀ b ∈ fp, ∃ o, h.get? b = some o /\ ∀ v, o.data ≠ .cell v
 keep : ∀ i h h', tn i h -> (∀ b ∈ fp, ∀ o, h.get? b = some o -> h'.get? b = some o) -> tn i h'
 item : ∀ (X : Cx), X.prog = P -> X.w = w -> X.K = K -> X.calm = true -> ∀ (i : Nat) (pins : List (Addr × Obj)) (s : Shared) (σ : St) (H : Hp) (E : Value -> Shared -> Prop), Inv X pins σ H s -> (∀ b ∈ fp, FpOk X pins H b) -> tn i s.heap -> J.go i H ->
  wpAny (model P w) X.A (pyNext (.ref it)) (fun r s1 => ∃ u, r = some u /\
   wpAny (model P w) X.A (letOwnedTupleGo tg (.ref it) u) (fun _ s2 => ∃ x H', Inv X pins σ H' s2 /\ RelV x u /\ J.yld i H x H' /\ tn (i + 1) s2.heap /\ ∀ b ∈ fp, H' b = none) E s1) E s
 done : ∀ (X : Cx), X.prog = P -> X.w = w -> X.K = K -> X.calm = true -> ∀ (i : Nat) (pins : List (Addr × Obj)) (s : Shared) (σ : St) (H : Hp) (E : Value -> Shared -> Prop), Inv X pins σ H s -> (∀ b ∈ fp, FpOk X pins H b) -> tn i s.heap -> J.stop i H ->
  wpAny (model P w) X.A (pyNext (.ref it)) (fun r s1 => r = none /\ Inv X pins σ H s1) E s
 self : ∀ (A : Around) (i : Nat) (s : Shared) (Q : Value -> Shared -> Prop) (E : Value -> Shared -> Prop), tn i s.heap -> Q (.ref it) s -> wpAny (model P w) A (pyIter (.ref it)) Q E s
abbrev TI := St -> Hp -> (It -> Hp -> Prop) -> Prop
def PIE (X : Cx) (pins : List (Addr × Obj)) (σ : St) (tg : Expr) (R : It -> Hp -> Prop) (itv : Value) (s2 : Shared) : Prop :=
 ∃ (it : Addr) (fp : List Addr) (tn : Nat -> Heap -> Prop) (J : It) (H' : Hp), itv = .ref it /\ Inv X pins σ H' s2 /\ Turn X.prog X.w X.K tg J fp it tn /\ tn 0 s2.heap /\ (∀ b ∈ fp, FpOk X pins H' b) /\ R J H'
def PI (X : Cx) (tg iter : Expr) (wi : TI) : Prop :=
 ∀ (pins : List (Addr × Obj)) (s : Shared) (σ : St) (H : Hp) (R : It -> Hp -> Prop), Inv X pins σ H s -> wi σ H R ->
  wpAny (model X.prog X.w) X.A (eval iter X.env) (fun v s1 => wpAny (model X.prog X.w) X.A (pyIter v) (PIE X pins σ tg R) X.xe s1) X.xe s
theorem go_of {M : Model} {A : Around} {E : Value -> Shared -> Prop} {s : Shared} {tg : Expr} {it : Addr} {u : Value} {o : Obj} {n : String} {vs : Array Value} {Q : Unit -> Shared -> Prop} (ho : s.heap.get? it = some o) (hc : o.cls = .type n) (hd : o.data = .fields vs)
  (hn : ["enumerate", "zip", "dict_itemiterator", "dict_reverseitemiterator", "odict_iterator", "itertools.zip_longest", "itertools.pairwise"].contains n = false) (hQ : Q () s) : wpAny M A (letOwnedTupleGo tg (.ref it) u) Q E s := by
 unfold letOwnedTupleGo
 cases tg <;> first
  | exact wpAny_pure hQ
  | (cases u <;> first
    | exact wpAny_pure hQ
    | (refine wpAny_bind (wpAny_load ho ?_)
       rw [hc, hd]
       show wpAny M A (if (["enumerate", "zip", "dict_itemiterator", "dict_reverseitemiterator", "odict_iterator", "itertools.zip_longest", "itertools.pairwise"].contains n && vs[0]? == some (rawInt _)) = true then _ else _) Q E s
       rw [if_neg (by intro h; rw [hn, Bool.false_and] at h; cases h)]
       exact wpAny_pure hQ))
def Itl (K : W.Frag) (a : Addr) : It :=
 ⟨fun i H => ∃ xs x, SqL K H a xs /\ xs[i]? = some x, fun i H x H' => H' = H /\ ∀ xs, SqL K H a xs -> xs[i]? = some x, fun i H => ∃ xs, SqL K H a xs /\ xs.length <= i⟩
def Itt (K : W.Frag) (a : Addr) : It :=
 ⟨fun i H => ∃ xs x, SqT K H a xs /\ xs[i]? = some x, fun i H x H' => H' = H /\ ∀ xs, SqT K H a xs -> xs[i]? = some x, fun i H => ∃ xs, SqT K H a xs /\ xs.length <= i⟩
def Itr (lo : Int) (n : Nat) : It := ⟨fun i _ => i < n, fun i H x H' => H' = H /\ x = .int (lo + i), fun i _ => n <= i⟩
theorem turn_list {P : Program} {w : World} {K : W.Frag} {tg : Expr} (a it : Addr) : Turn P w K tg (Itl K a) [it] it (fun i h => h.IsListIter it a i) where
 mem := by simp
 obj := fun i h st b hb => by
  have e : b = it := by simpa using hb
  subst e
  obtain ⟨o, e, c, d⟩ := st
  exact ⟨o, e, fun v z => by rw [d] at z; cases z⟩
 keep := fun i h h' st k => st.at fun o e => k it (by simp) o e
 item := by
  intro X hP hw hK hc i pins s σ H E I hf st hg
  subst hP hw hK
  obtain ⟨xs, x, hq, hx⟩ := hg
  obtain ⟨its, rv, p, hz⟩ := I.list hq
  obtain ⟨u, hu, ru⟩ := rv.get hx
  obtain ⟨f0, f1, f2, f3, f4, f5⟩ := hf it (by simp)
  refine wpAny_pyNext_list_item st p.isList (x := u) (by simpa using hu) fun h' st' sb => ?_
  have I1 : Inv X pins σ H { s with heap := h' } := I.turned (t' := s.toks) (fun b o hb e => (sb.2 b hb).trans e) f0 f1 f3 f4 f5
  obtain ⟨o, e, c, d⟩ := id st'
  exact ⟨u, rfl, go_of (s := { s with heap := h' }) e c d (by decide) ⟨x, H, I1, ru, ⟨rfl, fun ys hy => by rw [I.list_inj hy hq]; exact hx⟩, st', fun b hb => (hf b hb).1⟩⟩
 done := by
  intro X hP hw hK hc i pins s σ H E I hf st hg
  subst hP hw hK
  obtain ⟨xs, hq, hx⟩ := hg
  obtain ⟨its, rv, p, hz⟩ := I.list hq
  obtain ⟨f0, f1, f2, f3, f4, f5⟩ := hf it (by simp)
  have hl := rv.length
  exact wpAny_pyNext_list_end (I.ok.hd hc) st p.isList (by simp; omega) fun h' eb => ⟨rfl, I.turned (t' := s.toks) (fun b o hb e => eb b o hb e) f0 f1 f3 f4 f5⟩
 self := fun _ _ _ _ _ st h => wpAny_pyIter_listiter st h
theorem turn_tuple {P : Program} {w : World} {K : W.Frag} {tg : Expr} (a it : Addr) : Turn P w K tg (Itt K a) [it] it (fun i h => h.IsTupleIter it a i) where
 mem := by simp
 obj := fun i h st b hb => by
  have e : b = it := by simpa using hb
  subst e
  obtain ⟨o, e, c, d⟩ := st
  exact ⟨o, e, fun v z => by rw [d] at z; cases z⟩
 keep := fun i h h' st k => st.at fun o e => k it (by simp) o e
 item := by
  intro X hP hw hK hc i pins s σ H E I hf st hg
  subst hP hw hK
  obtain ⟨xs, x, hq, hx⟩ := hg
  obtain ⟨its, rv, p, hz⟩ := I.tuple hq
  obtain ⟨u, hu, ru⟩ := rv.get hx
  obtain ⟨f0, f1, f2, f3, f4, f5⟩ := hf it (by simp)
  refine wpAny_pyNext_tuple_item st (show s.heap.IsTuple a its.toArray from p) (x := u) (by simpa using hu) fun h' st' sb => ?_
  have I1 : Inv X pins σ H { s with heap := h' } := I.turned (t' := s.toks) (fun b o hb e => (sb.2 b hb).trans e) f0 f1 f3 f4 f5
  obtain ⟨o, e, c, d⟩ := id st'
  exact ⟨u, rfl, go_of (s := { s with heap := h' }) e c d (by decide) ⟨x, H, I1, ru, ⟨rfl, fun ys hy => by rw [I.tuple_inj hy hq]; exact hx⟩, st', fun b hb => (hf b hb).1⟩⟩
 done := by
  intro X hP hw hK hc i pins s σ H E I hf st hg
  subst hP hw hK
  obtain ⟨xs, hq, hx⟩ := hg
  obtain ⟨its, rv, p, hz⟩ := I.tuple hq
  obtain ⟨f0, f1, f2, f3, f4, f5⟩ := hf it (by simp)
  have hl := rv.length
  exact wpAny_pyNext_tuple_end (I.ok.hd hc) st (show s.heap.IsTuple a its.toArray from p) (by simp; omega) fun h' eb => ⟨rfl, I.turned (t' := s.toks) (fun b o hb e => eb b o hb e) f0 f1 f3 f4 f5⟩
 self := fun _ _ _ _ _ st h => wpAny_pyIter_tupleiter st h
theorem turn_range {P : Program} {w : World} {K : W.Frag} {tg : Expr} (it : Addr) (lo : Int) (n : Nat) : Turn P w K tg (Itr lo n) [it] it (fun i h => IsRangeIter h it (lo + (i : Nat) * 1) ((n : Int) - (i : Nat)) 1) where
 mem := by simp
 obj := fun i h st b hb => by
  have e : b = it := by simpa using hb
  subst e
  exact ⟨_, st, fun v z => by
   have z' : Data.fields _ = Data.cell v := z
   cases z'⟩
 keep := fun i h h' st k => k it (by simp) _ st
 item := by
  intro X hP hw hK hc i pins s σ H E I hf st hg
  subst hP hw hK
  obtain ⟨f0, f1, f2, f3, f4, f5⟩ := hf it (by simp)
  have W := Walks.range (prog := X.prog) (w := X.w) (I.ok.hd hc) it lo 1 n
  refine W.item i s _ _ hg st fun v h' tk hv st' kk => ?_
  obtain ⟨t, rfl⟩ := hv
  have I1 : Inv X pins σ H { s with heap := h', toks := tk } := I.turned (fun b o hb e => kk b o (by simpa using hb) e) f0 f1 f3 f4 f5
  refine ⟨_, rfl, go_of (s := { s with heap := h', toks := tk }) (n := "range_iterator") st' rfl rfl (by decide) ⟨.int (lo + i), H, I1, ⟨t, ?_⟩, ⟨rfl, rfl⟩, st', fun b hb => (hf b hb).1⟩⟩
  rw [Int.mul_one]
 done := by
  intro X hP hw hK hc i pins s σ H E I hf st hg
  subst hP hw hK
  obtain ⟨f0, f1, f2, f3, f4, f5⟩ := hf it (by simp)
  exact wpAny_pyNext_range_end (I.ok.hd hc) st (by have : n <= i := hg; omega) fun h' eb => ⟨rfl, I.turned (t' := s.toks) (fun b o hb e => eb b o hb e) f0 f1 f3 f4 f5⟩
 self := fun _ _ _ _ _ st h => wpAny_pyIter_rangeiter st h
end L2
namespace L2
open PySem PySem.Spec PyProof.Rows
section
variable {X : Cx} {tg : Expr}
def iList (K : W.Frag) (tl : TE) : TI := fun σ H R => tl σ H fun x H1 => ∃ a, x = .ref a /\ (∃ xs, SqL K H1 a xs) /\ R (Itl K a) H1
def iTup (K : W.Frag) (tl : TE) : TI := fun σ H R => tl σ H fun x H1 => ∃ a, x = .ref a /\ (∃ xs, SqT K H1 a xs) /\ R (Itt K a) H1
theorem pi_list {l : Expr} {tl : TE} (hl : PE X l tl) : PI X tg l (iList X.K tl) := by
 intro pins s σ H R I h
 refine thn (hl pins s σ H _ I h) fun v s1 ⟨x, H1, I1, r1, q1⟩ => ?_
 obtain ⟨a, e, ⟨xs, hq⟩, q⟩ := q1
 subst e
 cases r1
 obtain ⟨its, rv, p, hz⟩ := I1.list hq
 refine wpAny_pyIter_list p.isList ?_
 refine ⟨s1.heap.objs.size, [s1.heap.objs.size], _, _, H1, rfl, I1.kept (t' := s1.toks) fun b o e => Heap.get?_push_of_some _ e, turn_list a _, ⟨_, Heap.get?_push_size _ rfl, rfl, rfl⟩, fun b hb => ?_, q⟩
 have e : b = s1.heap.objs.size := by simpa using hb
 subst e
 exact I1.fpOk (Nat.le_refl _) (I1.hok.fresh (Nat.le_refl _))
theorem pi_tup {l : Expr} {tl : TE} (hl : PE X l tl) : PI X tg l (iTup X.K tl) := by
 intro pins s σ H R I h
 refine thn (hl pins s σ H _ I h) fun v s1 ⟨x, H1, I1, r1, q1⟩ => ?_
 obtain ⟨a, e, ⟨xs, hq⟩, q⟩ := q1
 subst e
 cases r1
 obtain ⟨its, rv, p, hz⟩ := I1.tuple hq
 refine wpAny_pyIter_tuple (show s1.heap.IsTuple a its.toArray from p) ?_
 refine ⟨s1.heap.objs.size, [s1.heap.objs.size], _, _, H1, rfl, I1.kept (t' := s1.toks) fun b o e => Heap.get?_push_of_some _ e, turn_tuple a _, ⟨_, Heap.get?_push_size _ rfl, rfl, rfl⟩, fun b hb => ?_, q⟩
 have e : b = s1.heap.objs.size := by simpa using hb
 subst e
 exact I1.fpOk (Nat.le_refl _) (I1.hok.fresh (Nat.le_refl _))
theorem range_it {pins : List (Addr × Obj)} {σ : St} {H : Hp} {s : Shared} {R : It -> Hp -> Prop} {E : Value -> Shared -> Prop} {lo hi : Int} {t u v : Tok} {tk : Nat} (I : Inv X pins σ H s) (h1 : -(2 ^ 62) <= lo) (h2 : lo < 2 ^ 62) (h3 : -(2 ^ 62) <= hi) (h4 : hi < 2 ^ 62)
  (q : R (Itr lo (hi - lo).toNat) H) : wpAny (model X.prog X.w) X.A (pyIter (.ref s.heap.objs.size)) (PIE X pins σ tg R) E { s with heap := s.heap.push { cls := .type "range", data := .fields #[.int lo t, .int hi u, .int 1 v] }, toks := tk } := by
 refine wpAny_pyIter_range (IsRange.new ..) (small_one h1 h2 h3 h4) ?_
 have I1 : Inv X pins σ H { s with heap := s.heap.push { cls := .type "range", data := .fields #[.int lo t, .int hi u, .int 1 v] }, toks := tk } := I.kept fun b o e => Heap.get?_push_of_some _ e
 refine ⟨(s.heap.push { cls := .type "range", data := .fields #[.int lo t, .int hi u, .int 1 v] }).objs.size, [(s.heap.push { cls := .type "range", data := .fields #[.int lo t, .int hi u, .int 1 v] }).objs.size], _, _, H, rfl,
  I1.kept (t' := tk) fun b o e => Heap.get?_push_of_some _ e, turn_range _ lo (hi - lo).toNat, ?_, fun b hb => ?_, q⟩
 ·have e1 : lo + ((0 : Nat) : Int) * 1 = lo := by simp
  have e2 : (((hi - lo).toNat : Nat) : Int) - ((0 : Nat) : Int) = Builtin.Range.rangeSize lo hi 1 := by rw [rangeSize_one]; split <;> omega
  show IsRangeIter _ _ (lo + ((0 : Nat) : Int) * 1) ((((hi - lo).toNat : Nat) : Int) - ((0 : Nat) : Int)) 1
  rw [e1, e2]
  exact Heap.get?_push_size _ rfl
 ·have e : b = (s.heap.push { cls := .type "range", data := .fields #[.int lo t, .int hi u, .int 1 v] }).objs.size := by simpa using hb
  subst e
  exact I1.fpOk (Nat.le_refl _) (I1.hok.fresh (Nat.le_refl _))
def iRng1 (ta : TA) : TI := fun σ H R => ta σ H fun vs H1 => ∃ j : Int, vs = [.int j] /\ -(2 ^ 62) <= j /\ j < 2 ^ 62 /\ R (Itr 0 j.toNat) H1
theorem pi_range1 {a : Expr} {ta : TA} {p pos : Pos} (hg : Gl X "range") (hm : X.mg "range" = none) (ha : PA X [a] ta) (hs : starEach [a] X.env = [(false, eval a X.env)] := by rfl) : PI X tg (.Call (.Name "range" p) [a] [] pos) (iRng1 ta) := by
 intro pins s σ H R I h
 refine Call_ (ld_blt I hg hm boot_range (PyProof.Rows.callWith_type1 (thn (ha pos pins s σ H _ I h) fun us s1 ⟨vs, H1, I1, r1, q1⟩ => ?_) hs rfl))
 obtain ⟨j, e, q1, q2, q⟩ := q1
 subst e
 cases r1 with
 | cons r rr =>
  cases rr
  obtain ⟨t, rfl⟩ := r
  exact call_range_1 (range_it I1 (by omega) (by omega) q1 q2 (by simpa using q))
def tFor (wi : TI) (g : TG) (tb : TS) : TS := fun D σ H => wi σ H fun J H1 => ∃ W : Nat -> Nat -> St -> Hp -> Prop, (∃ m, W 0 m σ H1) /\ ∀ i m σ H, W i m σ H ->
 (J.stop i H /\ D.nx σ H) ∨ (J.go i H /\ ∃ N : St -> Hp -> Prop, (∀ σ' H', N σ' H' -> ∃ m', m' < m /\ W (i + 1) m' σ' H') /\ ∀ x H', J.yld i H x H' -> g x σ H' fun σ2 H2 => tb { D with nx := N, ct := N, bk := D.nx } σ2 H2)
def pinsAt (fp : List Addr) (h : Heap) : List (Addr × Obj) := fp.filterMap fun b => (h.get? b).map fun o => (b, o)
theorem mem_pinsAt {fp : List Addr} {h : Heap} {b : Addr} {o : Obj} (hb : b ∈ fp) (e : h.get? b = some o) : (b, o) ∈ pinsAt fp h := List.mem_filterMap.mpr ⟨b, hb, by rw [e]; rfl⟩
theorem of_pinsAt {fp : List Addr} {h : Heap} {p : Addr × Obj} (hp : p ∈ pinsAt fp h) : p.1 ∈ fp /\ h.get? p.1 = some p.2 := by
 obtain ⟨b, hb, e⟩ := List.mem_filterMap.mp hp
 cases q : h.get? b with
 | none => rw [q] at e; cases e
 | some o =>
  rw [q] at e
  have e' : (b, o) = p := Option.some.inj e
  subst e'
  exact ⟨hb, q⟩
theorem Inv.pinned {pins : List (Addr × Obj)} {σ : St} {H : Hp} {s : Shared} {fp : List Addr} (I : Inv X pins σ H s) (hf : ∀ b ∈ fp, FpOk X pins H b) (ho : ∀ b ∈ fp, ∃ o, s.heap.get? b = some o /\ ∀ v, o.data ≠ .cell v) : Inv X (pins ++ pinsAt fp s.heap) σ H s :=
 I.pins_of fun p hp => (List.mem_append.mp hp).elim (fun z => I.pin p (List.mem_append_right _ z)) fun z => by
  obtain ⟨hb, e⟩ := of_pinsAt z
  obtain ⟨f0, f1, f2, _⟩ := hf p.1 hb
  obtain ⟨o, e', d⟩ := ho p.1 hb
  rw [e] at e'; cases e'
  exact ⟨e, f0, f1, f2, d⟩
theorem Inv.unpinned {pins pl : List (Addr × Obj)} {σ : St} {H : Hp} {s : Shared} (I : Inv X (pins ++ pl) σ H s) : Inv X pins σ H s := I.pins_of fun p hp => I.pin p (List.mem_append_right _ (List.mem_append_left _ hp))
theorem ps_for {iter : Expr} {body : List Stmt} {wi : TI} {g : TG} {tb : TS} {pos : Pos} (hp : PassesOwn (model X.prog X.w) X.A X.env X.xe) (hc : X.calm = true) (hi : PI X tg iter wi) (hg : PG X tg g) (hb : PSs X body tb)
  (hs : ∀ x, foldedSetIterable iter X.env x = pure x := by intro _; rfl) : PS X (.For tg iter body [] pos) (tFor wi g tb) := by
 intro pins s σ H D I h
 refine wpAny_For (thn (hi pins s σ H _ I h) fun v s1 h1 => thn h1 fun itv s2 h2 => ?_) hs
 obtain ⟨it, fp, tn, J, H2, e, I2, T, st2, f2, W, ⟨m0, w0⟩, turn⟩ := h2
 subst e
 -- what stays true of the iterator's objects through the loop
 have stat : ∀ {H' : Hp}, (∀ b ∈ fp, H' b = none) -> ∀ b ∈ fp, FpOk X pins H' b := fun hn b hb => ⟨hn b hb, (f2 b hb).2⟩
 refine codeAny_forLoop_any (fun n s' => ∃ i σ' H', Inv X pins σ' H' s' /\ tn i s'.heap /\ (∀ b ∈ fp, H' b = none) /\ W i n σ' H') ?_ m0 ⟨0, σ, H2, I2, st2, fun b hb => (f2 b hb).1, w0⟩
 rintro n s3 ⟨i, σ3, H3, I3, st3, fr3, w3⟩
 rcases turn i n σ3 H3 w3 with ⟨stop, qn⟩ | ⟨go, N, hN, step⟩
 ·refine wpAny_passesOwn hp (thn (T.done X rfl rfl rfl hc i pins s3 σ3 H3 X.xe I3 (stat fr3) st3 stop) fun r s4 ⟨hr, I4⟩ => ?_)
  subst hr
  exact wpAny_execs_nil ⟨σ3, H3, I4, qn⟩
 ·refine wpAny_passesOwn hp (thn (T.item X rfl rfl rfl hc i pins s3 σ3 H3 X.xe I3 (stat fr3) st3 go) fun r s4 ⟨u, hr, h4⟩ => ?_)
  subst hr
  refine wpAny_passesOwn hp (thn h4 fun _ s5 ⟨x, H5, I5, r5, y5, st5, fr5⟩ => ?_)
  have I5' := I5.pinned (stat fr5) (T.obj _ _ st5)
  refine wpAny_passesOwn hp (thn (hg _ s5 σ3 H5 x u _ I5' r5 (step x H5 y5)) fun _ s6 ⟨σ6, H6, I6, q6⟩ => ?_)
  refine wpAny_passesOwn hp (thn (hb _ s6 σ6 H6 _ I6 q6) fun f s7 q7 => ?_)
  have again : ∀ {σ7 : St} {H7 : Hp}, Inv X (pins ++ pinsAt fp s5.heap) σ7 H7 s7 -> N σ7 H7 -> ∃ m, m < n /\ ∃ i σ' H', Inv X pins σ' H' s7 /\ tn i s7.heap /\ (∀ b ∈ fp, H' b = none) /\ W i m σ' H' := fun {σ7 H7} I7 n7 => by
   obtain ⟨m', hm, w7⟩ := hN σ7 H7 n7
   refine ⟨m', hm, i + 1, σ7, H7, I7.unpinned, T.keep _ _ _ st5 fun b hb o e => (I7.pin (b, o) (List.mem_append_right _ (List.mem_append_right _ (mem_pinsAt hb e)))).1, fun b hb => ?_, w7⟩
   obtain ⟨o, e, d⟩ := T.obj _ _ st5 b hb
   exact (I7.pin (b, o) (List.mem_append_right _ (List.mem_append_right _ (mem_pinsAt hb e)))).2.1
  cases f with
  | next => obtain ⟨σ7, H7, I7, n7⟩ := q7; exact again I7 n7
  | cont => obtain ⟨σ7, H7, I7, n7⟩ := q7; exact again I7 n7
  | brk => obtain ⟨σ7, H7, I7, q7⟩ := q7; exact ⟨σ7, H7, I7.unpinned, q7⟩
  | ret v => obtain ⟨x7, σ7, H7, I7, r7, q7⟩ := q7; exact ⟨x7, σ7, H7, I7.unpinned, r7, q7⟩
end
theorem for_list {K : W.Frag} {a : Addr} {xs : List V} {g : TG} {tb : TS} {D : Ends} {σ : St} {H : Hp} (Pv : Nat -> St -> Hp -> Prop) (h0 : Pv 0 σ H) (hl : ∀ i σ H, i <= xs.length -> Pv i σ H -> SqL K H a xs)
  (hs : ∀ i x σ H, xs[i]? = some x -> Pv i σ H -> g x σ H fun σ2 H2 => tb { D with nx := Pv (i + 1), ct := Pv (i + 1), bk := D.nx } σ2 H2) (hd : ∀ σ H, Pv xs.length σ H -> D.nx σ H) :
  ∃ W : Nat -> Nat -> St -> Hp -> Prop, (∃ m, W 0 m σ H) /\ ∀ i m σ H, W i m σ H ->
   ((Itl K a).stop i H /\ D.nx σ H) ∨ ((Itl K a).go i H /\ ∃ N : St -> Hp -> Prop, (∀ σ' H', N σ' H' -> ∃ m', m' < m /\ W (i + 1) m' σ' H') /\ ∀ x H', (Itl K a).yld i H x H' -> g x σ H' fun σ2 H2 => tb { D with nx := N, ct := N, bk := D.nx } σ2 H2) := by
 refine ⟨fun i m σ H => m = xs.length - i /\ i <= xs.length /\ Pv i σ H, ⟨xs.length, by simp, Nat.zero_le _, h0⟩, ?_⟩
 rintro i m σ H ⟨rfl, hi, p⟩
 have q := hl i σ H hi p
 by_cases hlt : i < xs.length
 ·refine .inr ⟨⟨xs, xs[i], q, by simp [hlt]⟩, Pv (i + 1), fun σ' H' p' => ⟨xs.length - (i + 1), by omega, rfl, hlt, p'⟩, fun x H' y => ?_⟩
  obtain ⟨e, y⟩ := y
  subst e
  exact hs i x σ _ (y xs q) p
 ·have e : i = xs.length := by omega
  subst e
  exact .inl ⟨⟨xs, q, Nat.le_refl _⟩, hd σ H p⟩
theorem for_tup {K : W.Frag} {a : Addr} {xs : List V} {g : TG} {tb : TS} {D : Ends} {σ : St} {H : Hp} (Pv : Nat -> St -> Hp -> Prop) (h0 : Pv 0 σ H) (hl : ∀ i σ H, i <= xs.length -> Pv i σ H -> SqT K H a xs)
  (hs : ∀ i x σ H, xs[i]? = some x -> Pv i σ H -> g x σ H fun σ2 H2 => tb { D with nx := Pv (i + 1), ct := Pv (i + 1), bk := D.nx } σ2 H2) (hd : ∀ σ H, Pv xs.length σ H -> D.nx σ H) :
  ∃ W : Nat -> Nat -> St -> Hp -> Prop, (∃ m, W 0 m σ H) /\ ∀ i m σ H, W i m σ H ->
   ((Itt K a).stop i H /\ D.nx σ H) ∨ ((Itt K a).go i H /\ ∃ N : St -> Hp -> Prop, (∀ σ' H', N σ' H' -> ∃ m', m' < m /\ W (i + 1) m' σ' H') /\ ∀ x H', (Itt K a).yld i H x H' -> g x σ H' fun σ2 H2 => tb { D with nx := N, ct := N, bk := D.nx } σ2 H2) := by
 refine ⟨fun i m σ H => m = xs.length - i /\ i <= xs.length /\ Pv i σ H, ⟨xs.length, by simp, Nat.zero_le _, h0⟩, ?_⟩
 rintro i m σ H ⟨rfl, hi, p⟩
 have q := hl i σ H hi p
 by_cases hlt : i < xs.length
 ·refine .inr ⟨⟨xs, xs[i], q, by simp [hlt]⟩, Pv (i + 1), fun σ' H' p' => ⟨xs.length - (i + 1), by omega, rfl, hlt, p'⟩, fun x H' y => ?_⟩
  obtain ⟨e, y⟩ := y
  subst e
  exact hs i x σ _ (y xs q) p
 ·have e : i = xs.length := by omega
  subst e
  exact .inl ⟨⟨xs, q, Nat.le_refl _⟩, hd σ H p⟩
end L2
namespace L2
open PySem PySem.Spec PyProof.Rows
abbrev R2 := V -> V -> Hp -> VK -> Prop
def OpR (X : Cx) (f : Value -> Value -> Sem Value) (r : R2) : Prop :=
 ∀ (pins : List (Addr × Obj)) (s : Shared) (σ : St) (H : Hp) (x y : V) (v u : Value) (Q : VK), Inv X pins σ H s -> RelV x v -> RelV y u -> r x y H Q ->
  wpAny (model X.prog X.w) X.A (f v u) (EP X pins σ Q) X.xe s
def CallR (X : Cx) (f : Value) (r : List V -> Hp -> VK -> Prop) : Prop :=
 ∀ (pins : List (Addr × Obj)) (s : Shared) (σ : St) (H : Hp) (xs : List V) (us : List Value) (Q : VK), Inv X pins σ H s -> Vals xs us -> r xs H Q ->
  wpAny (model X.prog X.w) X.A (call f us) (EP X pins σ Q) X.xe s
def TruR (X : Cx) (r : V -> Hp -> (Bool -> Hp -> Prop) -> Prop) : Prop :=
 ∀ (pins : List (Addr × Obj)) (s : Shared) (σ : St) (H : Hp) (x : V) (v : Value) (Q : Bool -> Hp -> Prop), Inv X pins σ H s -> RelV x v -> r x H Q ->
  wpAny (model X.prog X.w) X.A (truthy v) (TP X pins σ Q) X.xe s
def tOp (r : R2) (ta tb : TE) : TE := fun σ H Q => ta σ H fun x H1 => tb σ H1 fun y H2 => r x y H2 Q
def rI0 (g : Int -> Int -> V) : R2 := fun x y H Q => ∃ i j, x = .int i /\ y = .int j /\ Q (g i j) H
section
variable {X : Cx} {a b c : Expr} {ta tb tc : TE} {pos : Pos}
theorem binT (ha : PE X a ta) (hb : PE X b tb) {pins : List (Addr × Obj)} {s : Shared} {σ : St} {H : Hp} {R : V -> V -> Hp -> Prop} (I : Inv X pins σ H s)
  (h : ta σ H fun x H1 => tb σ H1 fun y H2 => R x y H2) {Q : Value -> Shared -> Prop} {f : Value -> Value -> Sem Value}
  (hf : ∀ v u s2 x y H2, Inv X pins σ H2 s2 -> RelV x v -> RelV y u -> R x y H2 -> wpAny (model X.prog X.w) X.A (f v u) Q X.xe s2) :
  wpAny (model X.prog X.w) X.A (eval a X.env) (fun v s₁ => wpAny (model X.prog X.w) X.A (eval b X.env) (fun u s₂ => wpAny (model X.prog X.w) X.A (f v u) Q X.xe s₂) X.xe s₁) X.xe s := by
 refine thn (ha pins s σ H _ I h) fun v s1 ⟨x, H1, I1, r1, q1⟩ => ?_
 refine thn (hb pins s1 σ H1 _ I1 q1) fun u s2 ⟨y, H2, I2, r2, q2⟩ => ?_
 exact hf v u s2 x y H2 I2 r1 r2 q2
theorem pe_op {op : Operator} {r : R2} (ho : OpR X (binaryOp op) r) (ha : PE X a ta) (hb : PE X b tb) : PE X (.BinOp a op b pos) (tOp r ta tb) := by
 intro pins s σ H Q I h
 exact wpAny_BinOp (binT ha hb I h fun v u s2 x y H2 I2 rx ry q => ho pins s2 σ H2 x y v u Q I2 rx ry q)
theorem opI0 {f : Value -> Value -> Sem Value} {g : Int -> Int -> Int}
  (rule : ∀ (i j : Int) (t u : Tok) (s : Shared) (Q : Value -> Shared -> Prop) (E : Value -> Shared -> Prop), Q (.int (g i j) s.toks) { s with toks := s.toks + 1 } -> wpAny (model X.prog X.w) X.A (f (.int i t) (.int j u)) Q E s) :
  OpR X f (rI0 fun i j => .int (g i j)) := by
 intro pins s σ H x y v u Q I rx ry h
 obtain ⟨i, j, rfl, rfl, q⟩ := h
 obtain ⟨t, rfl⟩ := rx
 obtain ⟨t', rfl⟩ := ry
 exact rule i j t t' s _ _ ⟨.int (g i j), H, I.tok _, ⟨_, rfl⟩, q⟩
theorem opB0 {f : Value -> Value -> Sem Value} {g : Int -> Int -> Bool}
  (rule : ∀ (i j : Int) (t u : Tok) (s : Shared) (Q : Value -> Shared -> Prop) (E : Value -> Shared -> Prop), Q (.bool (g i j)) s -> wpAny (model X.prog X.w) X.A (f (.int i t) (.int j u)) Q E s) :
  OpR X f (rI0 fun i j => .bl (g i j)) := by
 intro pins s σ H x y v u Q I rx ry h
 obtain ⟨i, j, rfl, rfl, q⟩ := h
 obtain ⟨t, rfl⟩ := rx
 obtain ⟨t', rfl⟩ := ry
 exact rule i j t t' s _ _ ⟨.bl (g i j), H, I, rfl, q⟩
theorem op_add : OpR X (binaryOp .Add) (rI0 fun i j => .int (i + j)) := opI0 fun _ _ _ _ _ _ _ q => add_int q
theorem op_sub : OpR X (binaryOp .Sub) (rI0 fun i j => .int (i - j)) := opI0 fun _ _ _ _ _ _ _ q => sub_int q
end
def scal : V -> V -> Bool
 | .non, .non => true | .non, .int _ => true | .int _, .non => true | .non, .bl _ => true | .bl _, .non => true | .non, .str _ => true | .str _, .non => true
 | .int _, .int _ => true | .bl _, .bl _ => true | .str _, .str _ => true | .byt _, .byt _ => true
 | .int _, .str _ => true | .str _, .int _ => true | .bl _, .str _ => true | .str _, .bl _ => true
 | _, _ => false
def rEq : R2 := fun x y H Q => scal x y = true /\ Q (.bl (decide (x = y))) H
def rNe : R2 := fun x y H Q => scal x y = true /\ Q (.bl (!decide (x = y))) H
theorem dec_int {i j : Int} : decide (V.int i = V.int j) = (i == j) := by
 rw [Bool.eq_iff_iff]
 simp
theorem dec_bl {i j : Bool} : decide (V.bl i = V.bl j) = (i == j) := by
 rw [Bool.eq_iff_iff]
 simp
theorem dec_str {i j : Str} : decide (V.str i = V.str j) = (i == j) := by
 rw [Bool.eq_iff_iff]
 simp
theorem dec_byt {i j : Array UInt8} : decide (V.byt i = V.byt j) = (i.toList == j.toList) := by
 rw [Bool.eq_iff_iff]
 cases i
 cases j
 simp
section
variable {X : Cx} {a b c : Expr} {ta tb tc : TE} {pos : Pos}
theorem fin_bl {pins : List (Addr × Obj)} {σ : St} {H : Hp} {s : Shared} {Q : VK} {k k' : Bool} (I : Inv X pins σ H s) (q : Q (.bl k) H) (e : k = k') : EP X pins σ Q (.bool k') s := by
 subst e
 exact ⟨.bl k, H, I, rfl, q⟩
theorem op_eq : OpR X (compareOp .Eq) rEq := by
 intro pins s σ H x y v u Q I rx ry h
 obtain ⟨hs, q⟩ := h
 cases x with
 | non =>
  cases rx
  cases y with
  | non => cases ry; exact PySem.EqNone.eq_none_none (fin_bl I q (by simp))
  | bl j => cases ry; exact PySem.EqNone.eq_none_bool (fin_bl I q (by simp))
  | int j => obtain ⟨t', rfl⟩ := ry; exact PySem.EqNone.eq_none_int (fin_bl I q (by simp))
  | str j => obtain ⟨t', rfl⟩ := ry; exact PySem.EqNone.eq_none_str (fin_bl I q (by simp))
  | _ => exact absurd (show false = true from hs) Bool.false_ne_true
 | bl i =>
  cases rx
  cases y with
  | non => cases ry; exact PySem.EqNone.eq_bool_none (fin_bl I q (by simp))
  | bl j => cases ry; exact eq_bool (fin_bl I q dec_bl)
  | str j => obtain ⟨t', rfl⟩ := ry; exact PySem.EqMixed.eq_bool_str (fin_bl I q (by simp))
  | _ => exact absurd (show false = true from hs) Bool.false_ne_true
 | int i =>
  obtain ⟨t, rfl⟩ := rx
  cases y with
  | non => cases ry; exact PySem.EqNone.eq_int_none (fin_bl I q (by simp))
  | int j => obtain ⟨t', rfl⟩ := ry; exact eq_int (fin_bl I q dec_int)
  | str j => obtain ⟨t', rfl⟩ := ry; exact PySem.EqMixed.eq_int_str (fin_bl I q (by simp))
  | _ => exact absurd (show false = true from hs) Bool.false_ne_true
 | str i =>
  obtain ⟨t, rfl⟩ := rx
  cases y with
  | non => cases ry; exact PySem.EqNone.eq_str_none (fin_bl I q (by simp))
  | bl j => cases ry; exact PySem.EqMixed.eq_str_bool (fin_bl I q (by simp))
  | int j => obtain ⟨t', rfl⟩ := ry; exact PySem.EqMixed.eq_str_int (fin_bl I q (by simp))
  | str j => obtain ⟨t', rfl⟩ := ry; exact eq_str (fin_bl I q dec_str)
  | _ => exact absurd (show false = true from hs) Bool.false_ne_true
 | byt i =>
  obtain ⟨t, rfl⟩ := rx
  cases y with
  | byt j => obtain ⟨t', rfl⟩ := ry; exact PySem.W.eq_bytes (fin_bl I q dec_byt)
  | _ => exact absurd (show false = true from hs) Bool.false_ne_true
 | _ => cases y <;> exact absurd (show false = true from hs) Bool.false_ne_true
theorem op_ne : OpR X (compareOp .NotEq) rNe := by
 intro pins s σ H x y v u Q I rx ry h
 obtain ⟨hs, q⟩ := h
 cases x with
 | non =>
  cases rx
  cases y with
  | non => cases ry; exact PySem.EqNone.ne_none_none (fin_bl I q (by simp))
  | bl j => cases ry; exact PySem.EqNone.ne_none_bool (fin_bl I q (by simp))
  | int j => obtain ⟨t', rfl⟩ := ry; exact PySem.EqNone.ne_none_int (fin_bl I q (by simp))
  | str j => obtain ⟨t', rfl⟩ := ry; exact PySem.EqNone.ne_none_str (fin_bl I q (by simp))
  | _ => exact absurd (show false = true from hs) Bool.false_ne_true
 | bl i =>
  cases rx
  cases y with
  | non => cases ry; exact PySem.EqNone.ne_bool_none (fin_bl I q (by simp))
  | bl j => cases ry; exact ne_bool (fin_bl I q (congrArg not dec_bl))
  | str j => obtain ⟨t', rfl⟩ := ry; exact PySem.EqMixed.ne_bool_str (fin_bl I q (by simp))
  | _ => exact absurd (show false = true from hs) Bool.false_ne_true
 | int i =>
  obtain ⟨t, rfl⟩ := rx
  cases y with
  | non => cases ry; exact PySem.EqNone.ne_int_none (fin_bl I q (by simp))
  | int j => obtain ⟨t', rfl⟩ := ry; exact ne_int (fin_bl I q (congrArg not dec_int))
  | str j => obtain ⟨t', rfl⟩ := ry; exact PySem.EqMixed.ne_int_str (fin_bl I q (by simp))
  | _ => exact absurd (show false = true from hs) Bool.false_ne_true
 | str i =>
  obtain ⟨t, rfl⟩ := rx
  cases y with
  | non => cases ry; exact PySem.EqNone.ne_str_none (fin_bl I q (by simp))
  | bl j => cases ry; exact PySem.EqMixed.ne_str_bool (fin_bl I q (by simp))
  | int j => obtain ⟨t', rfl⟩ := ry; exact PySem.EqMixed.ne_str_int (fin_bl I q (by simp))
  | str j => obtain ⟨t', rfl⟩ := ry; exact ne_str (fin_bl I q (congrArg not dec_str))
  | _ => exact absurd (show false = true from hs) Bool.false_ne_true
 | byt i =>
  obtain ⟨t, rfl⟩ := rx
  cases y with
  | byt j => obtain ⟨t', rfl⟩ := ry; exact PySem.W.ne_bytes (fin_bl I q (congrArg not dec_byt))
  | _ => exact absurd (show false = true from hs) Bool.false_ne_true
 | _ => cases y <;> exact absurd (show false = true from hs) Bool.false_ne_true
theorem op_lt : OpR X (compareOp .Lt) (rI0 fun i j => .bl (decide (i < j))) := opB0 fun _ _ _ _ _ _ _ q => lt_int q
theorem op_gt : OpR X (compareOp .Gt) (rI0 fun i j => .bl (decide (j < i))) := opB0 fun _ _ _ _ _ _ _ q => gt_int q
theorem op_ge : OpR X (compareOp .GtE) (rI0 fun i j => .bl (decide (j <= i))) := opB0 fun _ _ _ _ _ _ _ q => ge_int q
theorem op_isN : OpR X (compareOp .Is) (fun x y H Q => y = .non /\ Q (.bl (decide (x = .non))) H) := by
 intro pins s σ H x y v u Q I rx ry h
 obtain ⟨rfl, q⟩ := h
 cases ry
 refine is_none_gen (fin_bl I q ?_)
 cases x <;> first
  | (cases rx; rfl)
  | (obtain ⟨t, rfl⟩ := rx; rfl)
theorem op_notN : OpR X (compareOp .IsNot) (fun x y H Q => y = .non /\ Q (.bl (!decide (x = .non))) H) := by
 intro pins s σ H x y v u Q I rx ry h
 obtain ⟨rfl, q⟩ := h
 cases ry
 refine isnot_none_gen (fin_bl I q ?_)
 cases x <;> first
  | (cases rx; rfl)
  | (obtain ⟨t, rfl⟩ := rx; rfl)
theorem nomark (b : Expr) {op : CmpOp} (h : op ≠ .In := by decide) (h2 : op ≠ .NotIn := by decide) : behindInMarks op b = false := by
 have e1 : (op == CmpOp.In) = false := by cases op <;> first | rfl | exact absurd rfl h
 have e2 : (op == CmpOp.NotIn) = false := by cases op <;> first | rfl | exact absurd rfl h2
 cases b <;> simp [behindInMarks, e1, e2]
theorem pe_cmpR {op : CmpOp} {r : R2} (ho : OpR X (compareOp op) r) (ha : PE X a ta) (hb : PE X b tb) (hm : behindInMarks op b = false) : PE X (.Compare a [op] [b] pos) (tOp r ta tb) := by
 intro pins s σ H Q I h
 exact wpAny_Compare1 (binT ha hb I h fun v u s2 x y H2 I2 rx ry q => ho pins s2 σ H2 x y v u Q I2 rx ry q) hm
def tTest (t : TE) : TT := fun σ H Q => t σ H fun x H' => ∃ k, x = .bl k /\ Q k H'
theorem pt_cmpR {op : CmpOp} {r : R2} (ho : OpR X (compareOp op) r) (ha : PE X a ta) (hb : PE X b tb) (hm : behindInMarks op b = false) : PT X (.Compare a [op] [b] pos) (tTest (tOp r ta tb)) := by
 intro pins s σ H Q I h
 refine wpAny_isTrue_Compare1 (thn (ha pins s σ H _ I h) fun v s1 ⟨x, H1, I1, r1, q1⟩ => thn (hb pins s1 σ H1 _ I1 q1) fun u s2 ⟨y, H2, I2, r2, q2⟩ =>
  thn (ho pins s2 σ H2 x y v u _ I2 r1 r2 q2) fun c s3 ⟨z, H3, I3, r3, k, e, q3⟩ => ?_) hm
 subst e
 cases r3
 exact wpAny_truthy_bool ⟨H3, I3, q3⟩
def TruV (K : W.Frag) (x : V) (H : Hp) (k : Bool) : Prop :=
 match x with
 | .non => k = false
 | .bl b => k = b
 | .int i => k = (i != 0)
 | .str y => y.length <= sizeLine /\ k = ((y.length : Int) != 0)
 | .byt y => y.size <= sizeLine /\ k = ((y.size : Int) != 0)
 | .ref p => (∃ xs, SqL K H p xs /\ k = !xs.isEmpty) ∨ (∃ xs, SqT K H p xs /\ k = !xs.isEmpty) ∨ ∃ kvs, H p = some (.dK kvs) /\ k = !kvs.isEmpty
 | _ => False
theorem isEmpty_kv {κ : Type} {kvs : List (κ × V)} {vs : List (κ × Value)} (r : KV kvs vs) : (!vs.isEmpty) = !kvs.isEmpty := by
 cases r <;> rfl
theorem isEmpty_of {xs : List V} {its : List Value} (r : Vals xs its) : (!its.toArray.isEmpty) = !xs.isEmpty := by
 cases r <;> simp
theorem line63 : (sizeLine : Nat) < 2 ^ 63 := by rw [sizeLine_eq]; decide
theorem tru_ok : TruR X (fun x H Q => ∃ k, TruV X.K x H k /\ Q k H) := by
 intro pins s σ H x v Q I rx h
 obtain ⟨k, e, q⟩ := h
 have hl := line63
 have hs : sizeLine = 16777216 := sizeLine_eq
 cases x with
 | non =>
  cases rx
  have e' : k = false := e
  subst e'
  exact truthy_none ⟨H, I, q⟩
 | bl b =>
  cases rx
  have e' : k = b := e
  subst e'
  exact wpAny_truthy_bool ⟨H, I, q⟩
 | int i =>
  obtain ⟨t, rfl⟩ := rx
  have e' : k = (i != 0) := e
  subst e'
  exact PySem.P.truthy_int ⟨H, I, q⟩
 | str y =>
  obtain ⟨t, rfl⟩ := rx
  obtain ⟨hy, e'⟩ : y.length <= sizeLine /\ k = ((y.length : Int) != 0) := e
  subst e'
  exact PySem.P.truthy_str (by omega) ⟨H, I.tok _, q⟩
 | byt y =>
  obtain ⟨t, rfl⟩ := rx
  obtain ⟨hy, e'⟩ : y.size <= sizeLine /\ k = ((y.size : Int) != 0) := e
  subst e'
  exact PySem.W.truthy_bytes (by omega) ⟨H, I.tok _, q⟩
 | ref p =>
  cases rx
  have e' : (∃ xs, SqL X.K H p xs /\ k = !xs.isEmpty) ∨ (∃ xs, SqT X.K H p xs /\ k = !xs.isEmpty) ∨ ∃ kvs, H p = some (.dK kvs) /\ k = !kvs.isEmpty := e
  rcases e' with ⟨xs, hx, e'⟩ | ⟨xs, hx, e'⟩ | ⟨kvs, hx, e'⟩
  ·subst e'
   obtain ⟨its, r, pl, hz⟩ := I.list hx
   have hlen := r.length
   exact wpAny_truthy_list pl.isList (by simp only [List.size_toArray]; omega) ⟨H, I.tok _, by rw [isEmpty_of r]; exact q⟩
  ·subst e'
   obtain ⟨its, r, pl, hz⟩ := I.tuple hx
   have hlen := r.length
   exact truthy_tuple pl (by simp only [List.size_toArray]; omega) ⟨H, I.tok _, by rw [isEmpty_of r]; exact q⟩
  ·subst e'
   obtain ⟨hz, hS, vs, r, m⟩ : kvs.length <= sizeLine /\ (p == sysModules) = false /\ ∃ vs, KV kvs vs /\ s.heap.DictOf (mixKind X.prog X.w) p vs := I.hok p _ hx
   have hlen : kvs.length = vs.length := Paired.length r
   exact wpAny_truthy_dict hS m (by omega) ⟨H, I.tok _, by rw [isEmpty_kv r]; exact q⟩
 | _ => exact (show False from e).elim
theorem pt_truth (ha : PE X a ta) (he : ∀ whole, isTrue a X.env whole = (do let v <- whole; standAt a.pos; holding [v] (truthy v))) :
  PT X a (fun σ H Q => ta σ H fun x H' => ∃ k, TruV X.K x H' k /\ Q k H') := by
 intro pins s σ H Q I h
 exact isTrue_plain (thn (ha pins s σ H _ I h) fun v s1 ⟨x, H1, I1, r1, q1⟩ => tru_ok pins s1 σ H1 x v Q I1 r1 q1) (he _)
theorem vals1 {x : V} {us : List Value} (r : Vals [x] us) : ∃ u, us = [u] /\ RelV x u := by
 cases r with
 | cons r1 r2 => cases r2; exact ⟨_, rfl, r1⟩
end
end L2
namespace L2
open PySem PySem.Spec PyProof.Rows
structure ObjM (h : Heap) (x dx C : Addr) (mA : Str -> Option Value) : Prop where
 obj : h.get? x = some (PySem.W.instObj C dx)
 ns : h.Ns1 dx mA
 ne : dx ≠ x
theorem lookIn_ns {h : Heap} {dx : Addr} {mA : Str -> Option Value} (n : h.Ns1 dx mA) : ∃ od, h.get? dx = some od /\ ∀ name, PySem.W.lookIn name od = some (mA name) := by
 obtain ⟨o, es, ep, ho, hd, hk, _, hm⟩ := n
 refine ⟨o, ho, fun name => ?_⟩
 have e := hm name
 unfold nsFind findBy at e
 rw [<- Array.find?_toList] at e
 unfold PySem.W.lookIn
 rw [hd]
 dsimp only
 split
 ·rename_i y q
  rw [q] at e
  exact congrArg some e
 ·rename_i q
  rw [q] at e
  have a : es.toList.any (·.refKey) = false := by
   rw [List.any_eq_false]
   intro y hy
   obtain ⟨z, t, hkey⟩ := hk y (Array.mem_toList_iff.mp hy)
   simp [DictEntry.refKey, hkey]
  have a' : ¬ es.toList.any (·.refKey) = true := by rw [a]; exact Bool.false_ne_true
  rw [if_neg a']
  exact congrArg some e
theorem ObjM.look {h : Heap} {x dx C : Addr} {mA : Str -> Option Value} (I : ObjM h x dx C mA) : ∃ od, PySem.W.InstAt h x (PySem.W.instObj C dx) C (some od) /\ ∀ name, PySem.W.lookIn name od = some (mA name) :=
 let ⟨od, ho, hl⟩ := lookIn_ns I.ns
 ⟨od, ⟨I.obj, rfl, rfl, ho⟩, hl⟩
section
variable {prog : Program} {w : World} {A : Around} {E : Value -> Shared -> Prop} {s : Shared} {K : W.Frag} {x dx C f : Addr} {mA : Str -> Option Value} {name : Str} {v : Value}
theorem get_map {expr : Bool} {Q : Value -> Shared -> Prop} (X : K.In s.heap) (I : ObjM s.heap x dx C mA) (hg : PySem.W.plainGet K C name = true) (hh : PySem.W.hasDictIn K C = true)
  (ha : PySem.W.findIn K (.ref C) name = some none) (hv : mA name = some v) (hv' : PySem.W.handedIn v = true) (h : Q v { s with toks := s.toks + 1 }) :
  wpAny (model prog w) A (getAttr (.ref x) name expr) Q E s := by
 obtain ⟨od, J, hl⟩ := I.look
 exact PySem.W.get_value X J (PySem.W.plainGet_of hg).1 (PySem.W.findObj_own hh ha rfl (by rw [hl, hv])) hv' h
theorem get_meth {pl : Sem Bool} {Q : Value × List Value -> Shared -> Prop} (X : K.In s.heap) (I : ObjM s.heap x dx C mA) (hg : PySem.W.plainGet K C name = true)
  (hf : PySem.W.findIn K (.ref C) name = some (some (.ref f))) (ht : PySem.W.isFn K (.ref f) = true) (hv : mA name = none) (h : Q (.ref f, [.ref x]) s) :
  wpAny (model prog w) A (getMethod (.ref x) name pl) Q E s := by
 obtain ⟨od, J, hl⟩ := I.look
 exact PySem.W.method_fn X J (PySem.W.plainGet_of hg).1 (PySem.W.plainGet_of hg).2 hf (beq_iff_eq.mp ht) (by show (PySem.W.lookIn name od).map (·.isSome) = some false; rw [hl, hv]; rfl) h
theorem set_map {ns : List Str} {Q : Unit -> Shared -> Prop} (X : K.In s.heap) (I : ObjM s.heap x dx C mA)
  (hs : PySem.W.findIn K (.ref C) "__setattr__" = some (some (.builtin "object.__setattr__"))) (hp : PySem.W.plainOver K C = true) (ht : PySem.W.takerIn K C name = some none) (hh : PySem.W.hasDictIn K C = true)
  (hw : PySem.Within mA ns) (hsz : ns.length <= sizeLine)
  (h : ∀ h', ObjM h' x dx C (fun y => if y = name then some v else mA y) -> Heap.SameBut dx s.heap h' -> Q () { s with heap := h', toks := s.toks + 2 }) :
  wpAny (model prog w) A (setAttr (.ref x) name v) Q E s := by
 obtain ⟨od, J, hl⟩ := I.look
 refine PySem.W.set_plain X J hs (PySem.W.osa_open (s := { s with toks := s.toks + 1 }) (r := none) X J hp ht fun b => ?_)
 obtain ⟨cd, hc, hd'⟩ := PySem.W.any_some hh
 have hx : s.heap.get? x = some ⟨.ref C, some dx, .plain, #[]⟩ := I.obj
 refine wpAny_bind (wpAny_pure (wpAny_bind (wpAny_bind (wpAny_loadPart hx (wpAny_bind (PySem.W.Looks.here (s := { s with toks := s.toks + 1 }) (PySem.W.looks_clsIn X hc) ?_))))))
 rw [hd']
 refine wpAny_pure (a := some dx) (wpAny_bind (wpAny_pure (wpAny_bind ?_)))
 refine wpAny_nsSet1 (s := { s with toks := s.toks + 1 }) I.ns fun h' hn2 hs2 => ?_
 obtain ⟨oD, esD, epD, hoD, hdD, hcD⟩ := hn2.count (PySem.Within.cons name v hw)
 refine wpAny_bind (wpAny_lookBehind hoD (by rw [hdD]; exact pastItsLine_dict (Nat.le_trans hcD (by rw [List.length_cons]; omega))) ?_)
 exact wpAny_pure (h _ ⟨(hs2.2 _ (Ne.symm I.ne)).trans I.obj, hn2, I.ne⟩ hs2)
theorem make_map {R : Result -> Shared -> Prop} {vs : List Value} {kw : List (Str × Value)} (X : K.In s.heap) (hm : PySem.W.makesIn K C = true)
  (hi : PySem.W.findIn K (.ref C) "__init__" = some (some (.ref f))) (hf : PySem.W.typeIn K (.ref f) = some (.type "function"))
  (h : codeAny (model prog w) (A.under (.builtin "type.__call__" ⟨.ref C :: vs, kw⟩)) (.call (.ref f) ⟨.ref (s.heap.objs.size + 1) :: vs, kw⟩) (PySem.W.InitBack (s.heap.objs.size + 1) R)
   { s with heap := (s.heap.push PySem.W.emptyDict).push (PySem.W.instObj C s.heap.objs.size) }) :
  codeAny (model prog w) A (.call (.ref C) ⟨vs, kw⟩) R s := by
 obtain ⟨hh, g, d, t, os⟩ := s
 exact PySem.W.make_core (PySem.W.makes_of X hm) (PySem.W.looks_findIn X hi) (fun self => PySem.W.bind_fn X self hf) (.inl rfl) h
end
def putF (f : Str) (v : V) : List (Str × V) -> List (Str × V)
 | [] => [(f, v)]
 | (g, x) :: r => if g = f then (g, v) :: r else (g, x) :: putF f v r
theorem lookup_putF (f g : Str) (v : V) : ∀ fs : List (Str × V), (putF f v fs).lookup g = if g = f then some v else fs.lookup g
 | [] => by
  show List.lookup g [(f, v)] = _
  by_cases h : g = f
  ·have hb : (g == f) = true := beq_iff_eq.mpr h
   simp only [List.lookup, hb, if_pos h]
  ·have hb : (g == f) = false := beq_eq_false_iff_ne.mpr h
   simp only [List.lookup, hb, if_neg h]
 | (k, x) :: r => by
  have ih := lookup_putF f g v r
  rw [show putF f v ((k, x) :: r) = (if k = f then (k, v) :: r else (k, x) :: putF f v r) from rfl]
  by_cases hk : k = f
  ·rw [if_pos hk]
   by_cases h : g = k
   ·have hb : (g == k) = true := beq_iff_eq.mpr h
    simp only [List.lookup, hb, if_pos (h.trans hk)]
   ·have hb : (g == k) = false := beq_eq_false_iff_ne.mpr h
    simp only [List.lookup, hb, if_neg (fun e : g = f => h (e.trans hk.symm))]
  ·rw [if_neg hk]
   by_cases h : g = k
   ·have hb : (g == k) = true := beq_iff_eq.mpr h
    simp only [List.lookup, hb, if_neg (fun e : g = f => hk (h.symm.trans e))]
   ·have hb : (g == k) = false := beq_eq_false_iff_ne.mpr h
    simp only [List.lookup, hb]
    exact ih
theorem keys_putF (f : Str) (v : V) : ∀ fs : List (Str × V), f ∈ (putF f v fs).map (·.1) /\ ∀ g, g ∈ fs.map (·.1) -> g ∈ (putF f v fs).map (·.1)
 | [] => ⟨by simp [putF], fun g h => by simp at h⟩
 | (k, x) :: r => by
  obtain ⟨i1, i2⟩ := keys_putF f v r
  rw [show putF f v ((k, x) :: r) = (if k = f then (k, v) :: r else (k, x) :: putF f v r) from rfl]
  by_cases hk : k = f
  ·rw [if_pos hk]
   subst hk
   exact ⟨by simp, fun g h => by simpa using h⟩
  ·rw [if_neg hk]
   refine ⟨?_, fun g h => ?_⟩
   ·rw [List.map_cons]
    exact List.mem_cons_of_mem _ i1
   ·rw [List.map_cons] at h ⊢
    rcases List.mem_cons.mp h with e | e
    ·exact List.mem_cons.mpr (.inl e)
    ·exact List.mem_cons_of_mem _ (i2 g e)
theorem length_putF (f : Str) (v : V) : ∀ fs : List (Str × V), (putF f v fs).length <= fs.length + 1
 | [] => by simp [putF]
 | (k, x) :: r => by
  have ih := length_putF f v r
  rw [show putF f v ((k, x) :: r) = (if k = f then (k, v) :: r else (k, x) :: putF f v r) from rfl]
  by_cases hk : k = f
  ·rw [if_pos hk, List.length_cons, List.length_cons]; omega
  ·rw [if_neg hk, List.length_cons, List.length_cons]; omega
theorem RelO.some_of {v : V} {o : Option Value} (r : RelO (some v) o) : ∃ u, o = some u /\ RelV v u := by
 cases o with
 | none => exact (show False from r).elim
 | some u => exact ⟨u, rfl, r⟩
theorem RelO.none_of {o : Option Value} (r : RelO none o) : o = none := by
 cases o with
 | none => rfl
 | some u => exact (show False from r).elim
theorem handed_of {v : V} {u : Value} (r : RelV v u) : PySem.W.handedIn u = true := by
 cases v with
 | non => cases (show u = Value.none from r); rfl
 | bl b => cases (show u = Value.bool b from r); rfl
 | int i => obtain ⟨t, e⟩ := (show ∃ t, u = Value.int i t from r); cases e; rfl
 | str x => obtain ⟨t, e⟩ := (show ∃ t, u = Value.str x t from r); cases e; rfl
 | byt b => obtain ⟨t, e⟩ := (show ∃ t, u = Value.bytes b t from r); cases e; rfl
 | flt b => obtain ⟨t, e⟩ := (show ∃ t, u = Value.float b t from r); cases e; rfl
 | ref a => cases (show u = Value.ref a from r); rfl
 | ty n => cases (show u = Value.type n from r); rfl
section
variable {P : Program} {w : World} {H H' : Hp} {h h' : Heap} {a C dx : Addr} {fs fs' : List (Str × V)}
theorem ins_get (hok : HOk P w H h) (e : H a = some (.ins C dx fs)) : ∃ mA, ObjM h a dx C mA /\ (∀ f, RelO (fs.lookup f) (mA f)) /\ PySem.Within mA (fs.map (·.1)) /\ fs.length <= 1000 /\ H dx = some (.own a) := by
 obtain ⟨d, z, ne, ob, mA, n, r, q⟩ := (show ObjOk P w H h a (.ins C dx fs) from hok a _ e)
 exact ⟨mA, ⟨ob, n, ne⟩, r, q, z, d⟩
end
structure Cls (K : W.Frag) (C : Addr) : Prop where
 pg : PySem.W.plainGet K C Str.empty = true
 hd : PySem.W.hasDictIn K C = true
 po : PySem.W.plainOver K C = true
 sa : PySem.W.findIn K (.ref C) "__setattr__" = some (some (.builtin "object.__setattr__"))
theorem Cls.get {K : W.Frag} {C : Addr} (c : Cls K C) (f : Str) : PySem.W.plainGet K C f = true := c.pg
def NoAttr (K : W.Frag) (C : Addr) (f : Str) : Prop := PySem.W.findIn K (.ref C) f = some none
theorem NoAttr.taker {K : W.Frag} {C : Addr} {f : Str} (n : NoAttr K C f) : PySem.W.takerIn K C f = some none := by
 unfold PySem.W.takerIn
 rw [show PySem.W.findIn K (.ref C) f = some none from n]
 rfl
structure Meth (K : W.Frag) (C : Addr) (m : Str) (f : Addr) : Prop where
 at_ : PySem.W.findIn K (.ref C) m = some (some (.ref f))
 fn : PySem.W.isFn K (.ref f) = true
 kp : PySem.W.keepIn K (.ref f) = true
section
variable {X : Cx} {pins : List (Addr × Obj)} {σ : St} {H : Hp} {s : Shared} {a C dx : Addr} {fs : List (Str × V)} {f : Str} {v : V} {A : Around} {E : Value -> Shared -> Prop}
theorem getattr_ok {b : Bool} {Q : Value -> Shared -> Prop} (I : Inv X pins σ H s) (e : H a = some (.ins C dx fs)) (c : Cls X.K C) (n : NoAttr X.K C f) (l : fs.lookup f = some v)
  (h : ∀ u s', Inv X pins σ H s' -> RelV v u -> Q u s') : wpAny (model X.prog X.w) A (getAttr (.ref a) f b) Q E s := by
 obtain ⟨mA, O, r, _, _, _⟩ := ins_get I.hok e
 obtain ⟨u, hu, ru⟩ := RelO.some_of (v := v) (o := mA f) (by rw [<- l]; exact r f)
 exact get_map I.kIn O (c.get f) c.hd n hu (handed_of ru) (h u _ (I.tok _) ru)
theorem getmeth_ok {m : Str} {g : Addr} {pl : Sem Bool} {Q : Value × List Value -> Shared -> Prop} (I : Inv X pins σ H s) (e : H a = some (.ins C dx fs)) (c : Cls X.K C) (k : Meth X.K C m g) (l : fs.lookup m = none)
  (h : Q (.ref g, [.ref a]) s) : wpAny (model X.prog X.w) A (getMethod (.ref a) m pl) Q E s := by
 obtain ⟨mA, O, r, _, _, _⟩ := ins_get I.hok e
 have hn : mA m = none := RelO.none_of (by rw [<- l]; exact r m)
 exact get_meth I.kIn O (c.get m) k.at_ k.fn hn h
theorem setattr_ok {y : V} {u : Value} {Q : Unit -> Shared -> Prop} (I : Inv X pins σ H s) (e : H a = some (.ins C dx fs)) (c : Cls X.K C) (n : NoAttr X.K C f) (hl : fs.length < 1000) (ry : RelV y u)
  (h : ∀ s', Inv X pins σ (upd H a (.ins C dx (putF f y fs))) s' -> Q () s') : wpAny (model X.prog X.w) A (setAttr (.ref a) f u) Q E s := by
 obtain ⟨mA, O, r, wi, _, ho⟩ := ins_get I.hok e
 have hz : (fs.map (·.1)).length <= sizeLine := by rw [List.length_map, sizeLine_eq]; omega
 refine set_map I.kIn O c.sa c.po n.taker c.hd wi hz fun h' O' sb => h _ ?_
 have hd : ∃ o, h'.get? dx = some o := let ⟨o, _, _, e', _⟩ := O'.ns; ⟨o, e'⟩
 refine I.write (x := a) (e := dx) (by rw [e]; exact True.intro) (.inr ho) (fun b q hb z => (sb.2 b hb).trans z) hd ?_
 refine ⟨by rw [upd_ne O.ne]; exact ho, ?_, O.ne, O'.obj, _, O'.ns, fun g => ?_, fun g hg => ?_⟩
 ·have := length_putF f y fs; omega
 ·show RelO ((putF f y fs).lookup g) (if g = f then some u else mA g)
  rw [lookup_putF]
  by_cases q : g = f
  ·rw [if_pos q, if_pos q]; exact ry
  ·rw [if_neg q, if_neg q]; exact r g
 ·by_cases q : g = f
  ·rw [q]; exact (keys_putF f y fs).1
  ·refine (keys_putF f y fs).2 g (wi g fun z => hg ?_)
   show (if g = f then some u else mA g) = none
   rw [if_neg q]; exact z
theorem Inv.made (I : Inv X pins σ H s) : Inv X pins σ (upd (upd H s.heap.objs.size (.own (s.heap.objs.size + 1))) (s.heap.objs.size + 1) (.ins C s.heap.objs.size []))
  { s with heap := (s.heap.push PySem.W.emptyDict).push (PySem.W.instObj C s.heap.objs.size) } := by
 have e1 : (s.heap.push PySem.W.emptyDict).get? s.heap.objs.size = some PySem.W.emptyDict := Heap.get?_push_size s.heap rfl
 have e2 : ((s.heap.push PySem.W.emptyDict).push (PySem.W.instObj C s.heap.objs.size)).get? (s.heap.objs.size + 1) = some (PySem.W.instObj C s.heap.objs.size) := by
  have := Heap.get?_push_size (s.heap.push PySem.W.emptyDict) (o := PySem.W.instObj C s.heap.objs.size) rfl
  rwa [Heap.size_push] at this
 have e3 : (s.heap.push PySem.W.emptyDict).Ns s.heap.objs.size (fun _ => none) := ⟨PySem.W.emptyDict, #[], _, e1, rfl, (fun e he => absurd he (by simp)), fun _ => rfl⟩
 have I1 := I.laid (a := s.heap.objs.size) (o := .own (s.heap.objs.size + 1)) (h' := s.heap.push PySem.W.emptyDict) (t' := s.toks) (fun b u q => Heap.get?_push_of_some _ q) (Nat.le_refl _) ⟨_, e1⟩
 refine I1.laid (a := s.heap.objs.size + 1) (o := .ins C s.heap.objs.size []) (t' := s.toks) (fun b u q => Heap.get?_push_of_some _ q) (Nat.le_of_eq (Heap.size_push _ _)) ?_
 have ne : s.heap.objs.size ≠ s.heap.objs.size + 1 := Nat.ne_of_lt (Nat.lt_succ_self _)
 refine ⟨by rw [upd_ne ne, upd_same], Nat.zero_le _, ne, e2, fun _ => none, (Heap.Ns1.of_empty e3).at fun o q => Heap.get?_push_of_some _ q, fun _ => True.intro, fun y hy => absurd rfl hy⟩
theorem attr_of {prog : Program} {w : World} {env : Env} {e : Expr} {f : Str} {pos : Pos} {s : Shared} {Q : Value -> Shared -> Prop} (hb : attributeBase e f env (eval e env) = eval e env)
  (h : wpAny (model prog w) A (eval e env) (fun o s₁ => wpAny (model prog w) A (getAttr o f true) Q E s₁) E s) : wpAny (model prog w) A (eval (.Attribute e f pos) env) Q E s :=
 Attribute_any_ h (by rw [arm_eval_Attribute, hb])
end
def tFld (K : W.Frag) (ta : TE) (f : Str) : TE := fun σ H Q => ta σ H fun x H1 => ∃ a C dx fs v, x = .ref a /\ H1 a = some (.ins C dx fs) /\ Cls K C /\ NoAttr K C f /\ fs.lookup f = some v /\ Q v H1
def sFld (K : W.Frag) (ta tv : TE) (f : Str) : TS := fun D σ H => tv σ H fun y H1 => ta σ H1 fun x H2 => ∃ a C dx fs, x = .ref a /\ H2 a = some (.ins C dx fs) /\ Cls K C /\ NoAttr K C f /\ fs.length < 1000 /\
 D.nx σ (upd H2 a (.ins C dx (putF f y fs)))
def InOp (X : Cx) (op : Operator) (rd : V -> V -> Hp -> VK -> Prop) : Prop :=
 ∀ (pins : List (Addr × Obj)) (s : Shared) (σ : St) (H : Hp) (x y : V) (u v : Value) (Q : VK), Inv X pins σ H s -> RelV x u -> RelV y v -> rd x y H Q -> wpAny (model X.prog X.w) X.A (inplaceOp op u v) (EP X pins σ Q) X.xe s
def sFldAug (K : W.Frag) (ta tv : TE) (rd : V -> V -> Hp -> VK -> Prop) (f : Str) : TS := fun D σ H => ta σ H fun x H1 => ∃ a C dx fs v, x = .ref a /\ H1 a = some (.ins C dx fs) /\ Cls K C /\ NoAttr K C f /\ fs.lookup f = some v /\
 tv σ H1 fun y H2 => rd v y H2 fun z H3 => ∃ dx' fs', H3 a = some (.ins C dx' fs') /\ fs'.length < 1000 /\ D.nx σ (upd H3 a (.ins C dx' (putF f z fs')))
section
variable {X : Cx} {o e value : Expr} {f : Str} {pos pos' tpos : Pos} {ta tv : TE}
theorem pe_fld (he : PE X e ta) (hb : attributeBase e f X.env (eval e X.env) = eval e X.env) : PE X (.Attribute e f pos) (tFld X.K ta f) := by
 intro pins s σ H Q I h
 refine attr_of hb (thn (he pins s σ H _ I h) fun u s1 ⟨x, H1, I1, rx, a, C, dx, fs, v, ex, ea, c, n, l, q⟩ => ?_)
 subst ex
 obtain rfl : u = Value.ref a := rx
 exact getattr_ok I1 ea c n l fun u' s2 I2 ru => ⟨v, H1, I2, ru, q⟩
theorem ps_fld (ha : PE X o ta) (hv : PE X value tv) (hs : swapsWith value (some (.Attribute o f pos')) pos.line X.env = pure false) : PS X (.Assign [.Attribute o f pos'] value pos) (sFld X.K ta tv f) := by
 intro pins s σ H D I h
 refine plainObj_wpAny_Assign_Attribute (thn (hv pins s σ H _ I h) fun u s1 ⟨y, H1, I1, ry, q⟩ => thn (ha pins s1 σ H1 _ I1 q) fun ov s2 ⟨x, H2, I2, rx, a, C, dx, fs, ex, ea, c, n, l, q2⟩ => ?_) hs
 subst ex
 obtain rfl : ov = Value.ref a := rx
 exact setattr_ok I2 ea c n l ry fun s3 I3 => ⟨σ, _, I3, q2⟩
theorem ps_fldaug {op : Operator} {rd : V -> V -> Hp -> VK -> Prop} (ha : PE X o ta) (hv : PE X value tv) (hop : InOp X op rd) : PS X (.AugAssign (.Attribute o f tpos) op value pos) (sFldAug X.K ta tv rd f) := by
 intro pins s σ H D I h
 refine wpAny_AugAssign_AttributeAny (thn (ha pins s σ H _ I h) fun ov s1 ⟨x, H1, I1, rx, a, C, dx, fs, v, ex, ea, c, n, l, q⟩ => ?_)
 subst ex
 obtain rfl : ov = Value.ref a := rx
 refine getattr_ok I1 ea c n l fun u s2 I2 ru => thn (hv pins s2 σ H1 _ I2 q) fun w3 s3 ⟨y, H2, I3, ry, q3⟩ => thn (hop pins s3 σ H2 v y u w3 _ I3 ru ry q3) fun w4 s4 ⟨z, H3, I4, rz, dx', fs', ea', l', q4⟩ => ?_
 exact setattr_ok I4 ea' c n l' rz fun s5 I5 => ⟨σ, _, I5, q4⟩
def rAdd : V -> V -> Hp -> VK -> Prop := fun x y H Q => ∃ i j, x = .int i /\ y = .int j /\ Q (.int (i + j)) H
theorem in_add : InOp X .Add rAdd := by
 rintro pins s σ H x y u v Q I rx ry ⟨i, j, rfl, rfl, q⟩
 obtain ⟨t, rfl⟩ := (show ∃ t, u = Value.int i t from rx)
 obtain ⟨t', rfl⟩ := (show ∃ t', v = Value.int j t' from ry)
 exact PyProof.Rows.iadd_int ⟨.int (i + j), H, I.tok _, ⟨_, rfl⟩, q⟩
end
end L2
namespace L2
open PySem PySem.Spec PyProof.Rows
structure Room (k : Nat) (A : Around) : Prop where
 hd : A.handled = none
 dp : A.depth + 3 * k + 5 < recursionLimit
 un : A.units + 16 * k + 200 < cLine
theorem Room.mono {j k : Nat} {A : Around} (r : Room k A) (h : j <= k) : Room j A := ⟨r.hd, by have := r.dp; omega, by have := r.un; omega⟩
theorem Room.deeper {k : Nat} {A : Around} (r : Room (k + 1) A) (env : Env) : Room k (A.deeper env) :=
 ⟨r.hd, by have := r.dp; show A.depth + 1 + 3 * k + 5 < _; omega, by have := r.un; show A.units + 3 + 16 * k + 200 < _; omega⟩
theorem make_depth {A : Around} {C : Addr} {us : List Value} {kw : List (Str × Value)} : (A.under (.builtin "type.__call__" ⟨.ref C :: us, kw⟩)).depth = A.depth + 1 := by
 first | rfl | simp [Around.under, Code.weight, Code.isCreation, Code.isGuard, Code.isCaller, Code.frames, Code.isFrame, guardIds]
theorem make_units {A : Around} {C : Addr} {us : List Value} {kw : List (Str × Value)} : (A.under (.builtin "type.__call__" ⟨.ref C :: us, kw⟩)).units = A.units + 1 := by
 first | rfl | simp [Around.under, Code.cUnits, Code.frames, Code.isFrame]
theorem Room.make {k : Nat} {A : Around} (r : Room (k + 1) A) (C : Addr) (us : List Value) (kw : List (Str × Value)) : Room k (A.under (.builtin "type.__call__" ⟨.ref C :: us, kw⟩)) :=
 ⟨r.hd, by have := r.dp; rw [make_depth]; omega, by have := r.un; rw [make_units]; omega⟩
theorem Room.depth {k : Nat} {A : Around} (r : Room k A) : A.depth < recursionLimit := by have := r.dp; omega
theorem Room.units {k : Nat} {A : Around} (r : Room k A) : A.units + 64 < cLine := by have := r.un; omega
def tNil : TA := fun _ H Q => Q [] H
def tCons (ta : TE) (tr : TA) : TA := fun σ H Q => ta σ H fun x H1 => tr σ H1 fun xs H2 => Q (x :: xs) H2
section
variable {X : Cx} {e : Expr} {es : List Expr} {te : TE} {t : TA} {pos : Pos}
theorem pa_nil : PA X [] tNil := fun _ _ _ _ H Q I h => Calls.spliced_nil ⟨[], H, I, .nil, h⟩
theorem pa_cons (ha : PE X e te) (hr : PA X es t) (hs : starEach (e :: es) X.env = (false, eval e X.env) :: starEach es X.env := by rfl) : PA X (e :: es) (tCons te t) := by
 intro pos pins s σ H Q I h
 rw [hs]
 show wpAny _ _ (spliced ((false, eval e X.env) :: backTo pos (starEach es X.env))) _ _ s
 refine Calls.spliced_cons (thn (ha pins s σ H _ I h) fun u s1 ⟨x, H1, I1, r1, q1⟩ => ?_)
 exact thn (hr pos pins s1 σ H1 _ I1 q1) fun us s2 ⟨xs, H2, I2, r2, q2⟩ => ⟨x :: xs, H2, I2, .cons r1 r2, q2⟩
def tTup (t : TA) : TE := fun σ H Q => t σ H fun xs H1 => xs.length <= sizeLine /\ ∀ p, H1 p = none -> Q (.ref p) (upd H1 p (.tup xs))
def tLst (t : TA) : TE := fun σ H Q => t σ H fun xs H1 => xs.length <= sizeLine /\ ∀ p, H1 p = none -> Q (.ref p) (upd H1 p (.lst xs))
theorem pe_tup {x1} (h : PA X es t) : PE X (.Tuple es x1 pos) (tTup t) := by
 intro pins s σ H Q I hq
 refine wpAny_Tuple_spliced (thn (h pos pins s σ H _ I hq) fun us s1 ⟨xs, H1, I1, r, z, q⟩ => ⟨by rw [<- r.length]; exact z, ?_⟩)
 have hf : H1 s1.heap.objs.size = none := I1.hok.fresh (Nat.le_refl _)
 refine ⟨.ref s1.heap.objs.size, upd H1 s1.heap.objs.size (.tup xs), I1.laid (t' := s1.toks) (fun b u e => Heap.get?_push_of_some _ e) (Nat.le_refl _) ?_, rfl, q _ hf⟩
 exact ⟨z, us, r, ⟨_, Heap.get?_push_size _ rfl, rfl, _, rfl⟩⟩
theorem pe_lst (h : PA X es t) : PE X (.List es pos) (tLst t) := by
 intro pins s σ H Q I hq
 refine wpAny_List_spliced (thn (h pos pins s σ H _ I hq) fun us s1 ⟨xs, H1, I1, r, z, q⟩ => ⟨by rw [<- r.length]; exact z, ?_⟩)
 have hf : H1 s1.heap.objs.size = none := I1.hok.fresh (Nat.le_refl _)
 refine ⟨.ref s1.heap.objs.size, upd H1 s1.heap.objs.size (.lst xs), I1.laid (t' := s1.toks) (fun b u e => Heap.get?_push_of_some _ e) (Nat.le_refl _) ?_, rfl, q _ hf⟩
 exact ⟨z, us, 0, r, Heap.get?_push_size _ rfl⟩
end
abbrev Sp := List V -> Hp -> VK -> XK -> Prop
abbrev CXT := List Env -> Hp -> Shared -> XK -> Value -> Shared -> Prop
structure Env0 (P : Program) (w : World) (K : W.Frag) (mg : Str -> Option Value) (base : Heap) (A : Around) (outer : List Env) (s : Shared) (H : Hp) : Prop where
 frames : A.frames = some outer
 mod : Mod K mg base
 bs : ∀ b o, base.get? b = some o -> s.heap.get? b = some o /\ H b = none
 bsz : base.objs.size <= s.heap.objs.size
 funs : s.heap.FunFrames base outer
 frf : ∀ b ∈ frs outer, H b = none
 hok : HOk P w H s.heap
 bare : AllBare s.gens
def CE (outer : List Env) (P : Program) (w : World) (H : Hp) (s : Shared) (Q : VK) (u : Value) (s' : Shared) : Prop :=
 ∃ v H', s'.os = s.os /\ AllBare s'.gens /\ Un (frs outer) [] H H' s.heap s'.heap /\ HOk P w H' s'.heap /\ RelV v u /\ Q v H'
def CR (CX : CXT) (outer : List Env) (P : Program) (w : World) (H : Hp) (s : Shared) (Q : VK) (E : XK) (r : Result) (s' : Shared) : Prop :=
 match r with
 | .ok (.ret u) => CE outer P w H s Q u s'
 | .ok _ => False
 | .error e => CX outer H s E e s'
structure FnOk (P : Program) (w : World) (K : W.Frag) (mg : Str -> Option Value) (base : Heap) (CX : CXT) (k : Nat) (f : Addr) (fd : FuncData) (ps : List Str) (sp : Sp) : Prop where
 len : ∀ vs H Q E, sp vs H Q E -> vs.length = ps.length
 run : ∀ (A : Around) (outer : List Env) (s : Shared) (H : Hp) (args : Args) (us : List Value) (vs : List V) (Q : VK) (E : XK), Room k A -> Env0 P w K mg base A outer s H -> BindsTo s fd args (ps.zip us) -> Vals vs us -> sp vs H Q E ->
  codeAny (model P w) A (.call (.ref f) args) (CR CX outer P w H s Q E) s
theorem Env0.make {P : Program} {w : World} {K : W.Frag} {mg : Str -> Option Value} {base : Heap} {A : Around} {outer : List Env} {s : Shared} {H : Hp} (e : Env0 P w K mg base A outer s H) (C : Addr) (us : List Value) (kw : List (Str × Value)) :
  Env0 P w K mg base (A.under (.builtin "type.__call__" ⟨.ref C :: us, kw⟩)) outer s H := ⟨by first | exact e.frames | (simpa [Around.under, Code.envs, Code.isFrame, pushEnvs] using e.frames), e.mod, e.bs, e.bsz, e.funs, e.frf, e.hok, e.bare⟩
section
variable {X : Cx} {pins : List (Addr × Obj)} {σ : St} {H : Hp} {s s' : Shared}
theorem Inv.env0 (I : Inv X pins σ H s) : Env0 X.prog X.w X.K X.mg X.base X.A X.stack s H :=
 ⟨I.ok.frames, I.ok.mod, I.bs, Nat.le_trans I.ok.bsz I.sz, I.stack, I.stkFree, I.hok, I.bare⟩
theorem Inv.after {Q : VK} {u : Value} (I : Inv X pins σ H s) (h : CE X.stack X.prog X.w H s Q u s') : EP X pins σ Q u s' := by
 obtain ⟨v, H', os, bare, un, hok, r, q⟩ := h
 obtain ⟨hh, g, d, t, os'⟩ := s'
 obtain rfl : os' = s.os := os
 exact ⟨v, H', I.call (h' := hh) (g' := g) (d' := d) (t' := t) (ch := []) un hok bare (fun b z => absurd z (by simp)), r, q⟩
end
def tCall (sp : Sp) (dvs : List V) (E : XK) (t : TA) : TE := fun σ H Q => t σ H fun vs H1 => sp (vs ++ dvs) H1 Q E
def tMeth (C : Addr) (m : Str) (sp : Sp) (dvs : List V) (E : XK) (ta : TE) (t : TA) : TE := fun σ H Q => ta σ H fun x H1 => ∃ a dx fs, x = .ref a /\ H1 a = some (.ins C dx fs) /\ fs.lookup m = none /\
 t σ H1 fun vs H2 => sp (x :: (vs ++ dvs)) H2 Q E
def tMake (C : Addr) (sp : Sp) (dvs : List V) (E : XK) (t : TA) : TE := fun σ H Q => t σ H fun vs H1 => ∀ x dx, H1 x = none -> H1 dx = none -> dx ≠ x ->
 sp (.ref x :: (vs ++ dvs)) (upd (upd H1 dx (.own x)) x (.ins C dx [])) (fun v H2 => v = .non /\ Q (.ref x) H2) E
def Binds (K : W.Frag) (fd : FuncData) (ps : List Str) (ds : List Value) : Prop :=
 ∀ (s : Shared) (us : List Value), K.In s.heap -> (us ++ ds).length = ps.length -> BindsTo s fd ⟨us, []⟩ (ps.zip (us ++ ds))
theorem Binds.all {K : W.Frag} {fd : FuncData} {ps : List Str} (h : ∀ us : List Value, us.length = ps.length -> bindArgs fd ⟨us, []⟩ = pure (ps.zip us)) : Binds K fd ps [] := fun s us _ hl => by
 rw [List.append_nil] at hl ⊢
 exact .of_eq (h us hl)
def Passes (CX : CXT) (X : Cx) (E : XK) : Prop := ∀ (pins : List (Addr × Obj)) (σ : St) (H : Hp) (s : Shared) (e : Value) (s' : Shared), Inv X pins σ H s -> CX X.stack H s E e s' -> X.xe e s'
section
variable {X : Cx} {CX : CXT} {k : Nat} {f C : Addr} {fd : FuncData} {ps : List Str} {sp : Sp} {dvs : List V} {ds : List Value} {E : XK} {x m : Str} {p pos apos : Pos} {e o : Expr} {es : List Expr} {ta : TE} {t : TA}
theorem run_fn {pins : List (Addr × Obj)} {σ : St} {H : Hp} {s : Shared} {Q : VK} {us : List Value} {vs : List V} (F : FnOk X.prog X.w X.K X.mg X.base CX k f fd ps sp) (hr : Room k X.A) (hb : Binds X.K fd ps ds) (hd : Vals dvs ds) (hx : Passes CX X E)
  (I : Inv X pins σ H s) (r : Vals vs us) (h : sp (vs ++ dvs) H Q E) : wpAny (model X.prog X.w) X.A (call (.ref f) us) (EP X pins σ Q) X.xe s := by
 have r2 : Vals (vs ++ dvs) (us ++ ds) := r.append hd
 have hl : (us ++ ds).length = ps.length := by rw [<- r2.length]; exact F.len _ _ _ _ h
 refine wpAny_call (codeAny_mono (F.run X.A X.stack s H ⟨us, []⟩ (us ++ ds) (vs ++ dvs) Q E hr I.env0 (hb s us I.kIn hl) r2 h) fun r s' hq => ?_)
 cases r with
 | error e => exact hx pins σ H s e s' I hq
 | ok fl =>
  cases fl with
  | ret u => exact I.after hq
  | next => exact False.elim hq
  | brk => exact False.elim hq
  | cont => exact False.elim hq
theorem pe_call (F : FnOk X.prog X.w X.K X.mg X.base CX k f fd ps sp) (hr : Room k X.A) (hg : Gl X x) (hm : X.mg x = some (.ref f)) (hk : PySem.W.keepIn X.K (.ref f) = true) (hb : Binds X.K fd ps ds) (hd : Vals dvs ds) (hx : Passes CX X E)
  (ha : PA X (e :: es) t) (hdb : (x == ("__debug__" : Str)) = false := by decide) (he : starEach (e :: es) X.env = (false, eval e X.env) :: starEach es X.env := by rfl) (hpl : (backTo pos (starEach es X.env)).any (·.1) = false := by rfl) :
  PE X (.Call (.Name x p) (e :: es) [] pos) (tCall sp dvs E t) := by
 intro pins s σ H Q I h
 refine wpAny_Call_Name_kw (ld_glob I hg hm ?_ hdb)
 refine PySem.W.callWith_K (h₀ := X.base) I.ok.mod.kin hk (thn (ha pos pins s σ H _ I h) fun us s1 ⟨vs, H1, I1, r, q⟩ => ⟨I1.kIn, ?_⟩) he hpl
 exact run_fn F hr hb hd hx I1 r q
theorem pe_meth {pl : Sem Bool} (he : PE X o ta) (c : Cls X.K C) (hm : Meth X.K C m f) (F : FnOk X.prog X.w X.K X.mg X.base CX k f fd ps sp) (hr : Room k X.A) (hb : Binds X.K fd ps ds) (hd : Vals dvs ds) (hx : Passes CX X E) (ha : PA X (e :: es) t)
  (hst : starEach (e :: es) X.env = (false, eval e X.env) :: starEach es X.env := by rfl) (hpl : (backTo pos (starEach es X.env)).any (·.1) = false := by rfl)
  (ht : eval (.Call (.Attribute o m apos) (e :: es) [] pos) X.env = (do
   let ov <- eval o X.env
   standAt apos.atName
   let (f, first) <- holding [ov] (getMethod ov m pl)
   callWith pos f first (backTo pos (starEach (e :: es) X.env)) (backToKw pos (keywordEach [] X.env))) := by rfl) :
  PE X (.Call (.Attribute o m apos) (e :: es) [] pos) (tMeth C m sp dvs E ta t) := by
 intro pins s σ H Q I h
 refine PySem.W.methodCall_KW (pl := pl) (thn (he pins s σ H _ I h) fun u s1 ⟨x, H1, I1, rx, a, dx, fs, ex, ea, l, q⟩ => ?_) ht
 subst ex
 obtain rfl : u = Value.ref a := rx
 refine getmeth_ok I1 ea c hm l ?_
 refine PySem.W.callWith_K (first := [.ref a]) (h₀ := X.base) I.ok.mod.kin hm.kp (thn (ha pos pins s1 σ H1 _ I1 q) fun us s2 ⟨vs, H2, I2, r, q2⟩ => ⟨I2.kIn, ?_⟩) hst hpl
 exact run_fn (us := .ref a :: us) (vs := .ref a :: vs) F hr hb hd hx I2 (.cons rfl r) q2
theorem pe_meth0 {pl : Sem Bool} (he : PE X o ta) (c : Cls X.K C) (hm : Meth X.K C m f) (F : FnOk X.prog X.w X.K X.mg X.base CX k f fd ps sp) (hr : Room k X.A) (hb : Binds X.K fd ps ds) (hd : Vals dvs ds) (hx : Passes CX X E)
  (ht : eval (.Call (.Attribute o m apos) [] [] pos) X.env = (do
   let ov <- eval o X.env
   standAt apos.atName
   let (f, first) <- holding [ov] (getMethod ov m pl)
   callWith pos f first (backTo pos (starEach [] X.env)) (backToKw pos (keywordEach [] X.env))) := by rfl) :
  PE X (.Call (.Attribute o m apos) [] [] pos) (tMeth C m sp dvs E ta tNil) := by
 intro pins s σ H Q I h
 refine PySem.W.methodCall_KW (pl := pl) (thn (he pins s σ H _ I h) fun u s1 ⟨x, H1, I1, rx, a, dx, fs, ex, ea, l, q⟩ => ?_) ht
 subst ex
 obtain rfl : u = Value.ref a := rx
 refine getmeth_ok I1 ea c hm l ?_
 exact PySem.W.callWith_K0 (first := [.ref a]) I1.kIn hm.kp (run_fn (us := [.ref a]) (vs := [.ref a]) F hr hb hd hx I1 (.cons rfl .nil) q)
structure Mk (K : W.Frag) (C f : Addr) : Prop where
 makes : PySem.W.makesIn K C = true
 init : PySem.W.findIn K (.ref C) "__init__" = some (some (.ref f))
 fn : PySem.W.isFn K (.ref f) = true
 kp : PySem.W.keepIn K (.ref C) = true
theorem run_make {pins : List (Addr × Obj)} {σ : St} {H : Hp} {s : Shared} {Q : VK} {us : List Value} {vs : List V} (M : Mk X.K C f) (F : FnOk X.prog X.w X.K X.mg X.base CX k f fd ps sp) (hr : Room (k + 1) X.A) (hb : Binds X.K fd ps ds) (hd : Vals dvs ds)
  (hx : Passes CX X E) (I : Inv X pins σ H s) (r : Vals vs us)
  (h : ∀ x dx, H x = none -> H dx = none -> dx ≠ x -> sp (.ref x :: (vs ++ dvs)) (upd (upd H dx (.own x)) x (.ins C dx [])) (fun v H2 => v = .non /\ Q (.ref x) H2) E) :
  wpAny (model X.prog X.w) X.A (call (.ref C) us) (EP X pins σ Q) X.xe s := by
 have hq := h (s.heap.objs.size + 1) s.heap.objs.size (I.hok.fresh (Nat.le_succ _)) (I.hok.fresh (Nat.le_refl _)) (Nat.ne_of_lt (Nat.lt_succ_self _))
 have I2 := Inv.made (C := C) I
 have r2 : Vals (V.ref (s.heap.objs.size + 1) :: (vs ++ dvs)) (Value.ref (s.heap.objs.size + 1) :: (us ++ ds)) := .cons rfl (r.append hd)
 have hl : (Value.ref (s.heap.objs.size + 1) :: us ++ ds).length = ps.length := by
  have e := r2.length
  rw [F.len _ _ _ _ hq] at e
  exact e.symm
 refine wpAny_call (make_map (f := f) I.kIn M.makes M.init (beq_iff_eq.mp M.fn) (codeAny_mono (F.run _ X.stack _ _ ⟨Value.ref (s.heap.objs.size + 1) :: us, []⟩ (Value.ref (s.heap.objs.size + 1) :: (us ++ ds)) _ _ E (hr.make C us [])
  (I2.env0.make C us []) (hb _ (Value.ref (s.heap.objs.size + 1) :: us) I2.kIn hl) r2 hq) fun r s' hq' => ?_))
 cases r with
 | error e => exact hx pins σ _ _ e s' I2 hq'
 | ok fl =>
  cases fl with
  | ret u =>
   obtain ⟨v, H', I3, rv, ev, q3⟩ := I2.after hq'
   subst ev
   exact ⟨rv, ⟨V.ref (s.heap.objs.size + 1), H', I3, rfl, q3⟩⟩
  | next => exact False.elim hq'
  | brk => exact False.elim hq'
  | cont => exact False.elim hq'
theorem pe_make (M : Mk X.K C f) (F : FnOk X.prog X.w X.K X.mg X.base CX k f fd ps sp) (hr : Room (k + 1) X.A) (hg : Gl X x) (hm : X.mg x = some (.ref C)) (hb : Binds X.K fd ps ds) (hd : Vals dvs ds) (hx : Passes CX X E)
  (ha : PA X (e :: es) t) (hdb : (x == ("__debug__" : Str)) = false := by decide) (he : starEach (e :: es) X.env = (false, eval e X.env) :: starEach es X.env := by rfl) (hpl : (backTo pos (starEach es X.env)).any (·.1) = false := by rfl) :
  PE X (.Call (.Name x p) (e :: es) [] pos) (tMake C sp dvs E t) := by
 intro pins s σ H Q I h
 refine wpAny_Call_Name_kw (ld_glob I hg hm ?_ hdb)
 refine PySem.W.callWith_K (h₀ := X.base) I.ok.mod.kin M.kp (thn (ha pos pins s σ H _ I h) fun us s1 ⟨vs, H1, I1, r, q⟩ => ⟨I1.kIn, ?_⟩) he hpl
 exact run_make M F hr hb hd hx I1 r q
theorem pe_make0 (M : Mk X.K C f) (F : FnOk X.prog X.w X.K X.mg X.base CX k f fd ps sp) (hr : Room (k + 1) X.A) (hg : Gl X x) (hm : X.mg x = some (.ref C)) (hb : Binds X.K fd ps ds) (hd : Vals dvs ds) (hx : Passes CX X E)
  (hdb : (x == ("__debug__" : Str)) = false := by decide) : PE X (.Call (.Name x p) [] [] pos) (tMake C sp dvs E tNil) := by
 intro pins s σ H Q I h
 refine wpAny_Call_Name_kw (ld_glob I hg hm ?_ hdb)
 exact PySem.W.callWith_K0 I.kIn M.kp (run_make (us := []) M F hr hb hd hx I .nil h)
end
structure FnScope (N P : List Str) (sc : Scope) : Prop where
 kind : sc.kind = .function
 co : sc.isCoroutine = false
 gen : sc.isGenerator = false
 nd : N.Nodup
 pre : N.take P.length = P
 par : ∀ x ∈ P, sc.names.lookup x = some .local ∨ sc.names.lookup x = some .cell
 nofree : ∀ y ∈ sc.names, y.2 ≠ .free
theorem bindL_out {kindOf : Str -> Option NameKind} {x : Str} : ∀ {binds : List (Str × Value)} {m : Str -> Option Value}, (∀ v, (x, v) ∉ binds) -> bindL kindOf binds m x = m x
 | [], _, _ => rfl
 | (n, v) :: r, m, h => by
  unfold bindL
  rw [bindL_out fun w hw => h w (List.mem_cons_of_mem _ hw)]
  split
  ·have : x ≠ n := by rintro rfl; exact h v List.mem_cons_self
   simp [this]
  ·rfl
theorem bindC_out {kindOf : Str -> Option NameKind} {x : Str} : ∀ {binds : List (Str × Value)} {m : Str -> Option Value}, (∀ v, (x, v) ∉ binds) -> bindC kindOf binds m x = m x
 | [], _, _ => rfl
 | (n, v) :: r, m, h => by
  unfold bindC
  rw [bindC_out fun w hw => h w (List.mem_cons_of_mem _ hw)]
  split
  ·rfl
  ·have : x ≠ n := by rintro rfl; exact h v List.mem_cons_self
   simp [this]
theorem bindL_get {kindOf : Str -> Option NameKind} {x : Str} {v : Value} : ∀ {P : List Str} {vs : List Value} {i : Nat} {m : Str -> Option Value}, P.Nodup -> P[i]? = some x -> vs[i]? = some v -> kindOf x = some .local ->
  bindL kindOf (P.zip vs) m x = some v
 | [], _, _, _, _, h, _, _ => by simp at h
 | _ :: _, [], _, _, _, _, h, _ => by simp at h
 | p :: P, w :: vs, 0, m, nd, h1, h2, hk => by
  simp at h1 h2; subst h1; subst h2
  show bindL kindOf ((p, w) :: P.zip vs) m p = _
  unfold bindL
  rw [bindL_out fun v hv => (List.nodup_cons.mp nd).1 (List.of_mem_zip hv).1, if_pos hk]
  simp
 | p :: P, w :: vs, i + 1, m, nd, h1, h2, hk => by
  show bindL kindOf ((p, w) :: P.zip vs) m x = _
  unfold bindL
  exact bindL_get (i := i) (List.nodup_cons.mp nd).2 (by simpa using h1) (by simpa using h2) hk
theorem bindC_get {kindOf : Str -> Option NameKind} {x : Str} {v : Value} : ∀ {P : List Str} {vs : List Value} {i : Nat} {m : Str -> Option Value}, P.Nodup -> P[i]? = some x -> vs[i]? = some v -> kindOf x ≠ some .local ->
  bindC kindOf (P.zip vs) m x = some v
 | [], _, _, _, _, h, _, _ => by simp at h
 | _ :: _, [], _, _, _, _, h, _ => by simp at h
 | p :: P, w :: vs, 0, m, nd, h1, h2, hk => by
  simp at h1 h2; subst h1; subst h2
  show bindC kindOf ((p, w) :: P.zip vs) m p = _
  unfold bindC
  rw [bindC_out fun v hv => (List.nodup_cons.mp nd).1 (List.of_mem_zip hv).1, if_neg hk]
  simp
 | p :: P, w :: vs, i + 1, m, nd, h1, h2, hk => by
  show bindC kindOf ((p, w) :: P.zip vs) m x = _
  unfold bindC
  exact bindC_get (i := i) (List.nodup_cons.mp nd).2 (by simpa using h1) (by simpa using h2) hk
def start (N : List Str) (vs : List V) : St := vs.map some ++ List.replicate (N.length - vs.length) none
def cxOf (CX : CXT) (P : Program) (w : World) (K : W.Frag) (mg : Str -> Option Value) (base : Heap) (N : List Str) (qual : Str) (scope : Scope) (f : Addr) (cd : Value) (A : Around) (outer : List Env) (s : Shared) (H : Hp) (E : XK) : Cx where
 prog := P
 w := w
 K := K
 mg := mg
 base := base
 A := A.deeper (envOfC qual scope s.heap.objs.size f cd)
 N := N
 s_0 := s
 H_0 := H
 env := envOfC qual scope s.heap.objs.size f cd
 outer := outer
 stack := envOfC qual scope s.heap.objs.size f cd :: outer
 ex := []
 calm := true
 fn := fun _ => true
 pn := []
 xe := fun e s' => wpAny (model P w) (A.deeper (envOfC qual scope s.heap.objs.size f cd)) (leaving (envOfC qual scope s.heap.objs.size f cd) e) (fun _ s'' => CX outer H s E e s'') (fun e' s'' => CX outer H s E e' s'') s'
theorem cell_has {sc : Scope} {n : Nat} {x : Str} (h : sc.names.lookup x = some .cell) : ∃ c, (cellsFrom n sc.names []).lookup x = some c := by
 have q := PySem.W.cellsFrom_some sc.names n [] (.inl h)
 exact Option.isSome_iff_exists.mp q
theorem inv_start {CX : CXT} {P : Program} {w : World} {K : W.Frag} {mg : Str -> Option Value} {base : Heap} {N ps : List Str} {qual : Str} {scope : Scope} {f : Addr} {cd : Value} {A : Around} {outer : List Env} {s s1 : Shared} {H : Hp} {E : XK} {us : List Value} {vs : List V}
  (S : FnScope N ps scope) (hd : A.handled = none) (e0 : Env0 P w K mg base A outer s H) (hl : vs.length = ps.length) (r : Vals vs us)
  (x : InCallC s s.heap.objs.size (bindL (envOfC qual scope s.heap.objs.size f cd).kindOf (ps.zip us) fun _ => none) (cellsFrom (s.heap.objs.size + 1) scope.names []) (bindC (envOfC qual scope s.heap.objs.size f cd).kindOf (ps.zip us) fun _ => none) s1) :
  Inv (cxOf CX P w K mg base N qual scope f cd A outer s H E) [] (start N vs) H s1 := by
 have hpl : ps.length <= N.length := by have := congrArg List.length S.pre; rw [List.length_take] at this; omega
 obtain ⟨h1, tk, rfl, hk⟩ := x.done
 have noA : ∀ b : Addr, b ∉ (cxOf CX P w K mg base N qual scope f cd A outer s H E).ex := fun b z => absurd (show b ∈ ([] : List Addr) from z) (by simp)
 refine ⟨⟨e0.mod, S.kind, rfl, rfl, Nat.le_refl _, fun y z c h1 h2 => ?_, fun y hy => ?_, fun y c _ h => ?_, fun _ => hd, Around.frames_deeper e0.frames, .inr ⟨rfl, rfl⟩, fun b z => absurd z (noA b), e0.bs, e0.bsz, fun b _ _ => noA b, fun b z => absurd z (noA b), e0.funs, e0.frf⟩,
  rfl, e0.bare, Un.kept hk, ⟨_, x.toInCall.ns, fun i y v h1 h2 h3 => ?_⟩, fun y c h => ⟨_, x.cell y c h⟩, e0.hok.fresh (Nat.le_refl _), fun y c h => ?_, fun p hp => absurd (show p ∈ ([] : List (Addr × Obj)) from hp) (by simp), e0.hok.kept hk, ?_⟩
 ·exact name_of_addr x.apart (PySem.mem_of_lookup h1) (PySem.mem_of_lookup h2)
 ·have hy : scope.names.lookup y = some .cell ∨ scope.names.lookup y = some .free := hy
  rcases hy with hy | hy
  ·exact cell_has hy
  ·exact absurd rfl (S.nofree _ (PySem.mem_of_lookup hy))
 ·exact Nat.le_of_lt (x.above y c (PySem.mem_of_lookup h))
 ·have hi : i < vs.length := by
   unfold start at h2
   by_cases hi : i < vs.length
   ·exact hi
   ·rw [List.getElem?_append_right (by simpa using hi)] at h2
    rw [List.getElem?_replicate] at h2
    split at h2 <;> cases h2
  have ha : vs[i]? = some v := by
   unfold start at h2
   rw [List.getElem?_append_left (by simpa using hi), List.getElem?_map] at h2
   cases e : vs[i]? with
   | none => rw [e] at h2; cases h2
   | some a => rw [e] at h2; cases h2; rfl
  obtain ⟨u, hu, rv⟩ := r.get ha
  have hp : ps[i]? = some y := by
   rw [<- S.pre, List.getElem?_take_of_lt (by omega)]; exact h1
  have ndP : ps.Nodup := by rw [<- S.pre]; exact S.nd.sublist (List.take_sublist _ _)
  refine ⟨u, rv, ?_⟩
  rcases S.par y (List.mem_of_getElem? hp) with k | k
  ·exact .inl ⟨k, bindL_get ndP hp hu k⟩
  ·obtain ⟨c, e⟩ := cell_has (n := s.heap.objs.size + 1) k
   refine .inr ⟨.inl k, c, e, ?_⟩
   have q := x.cell y c e
   rw [bindC_get ndP hp hu (by show scope.names.lookup y ≠ _; rw [k]; decide)] at q
   exact q
 ·exact e0.hok.fresh (Nat.le_of_lt (x.above y c (PySem.mem_of_lookup h)))
 ·unfold start
  show _ = N.length
  rw [List.length_append, List.length_map, List.length_replicate]
  omega
theorem fn_of {CX : CXT} {P : Program} {w : World} {K : W.Frag} {mg : Str -> Option Value} {base : Heap} {k : Nat} {f : Addr} {name qual : Str} {params : Arguments} {body : List Stmt} {scope : Scope} {dV kV doc pm cdv ct oc : Value} {an od : Option Addr}
  {osl : Array (Option Value)} {N ps : List Str} {sp : Sp} (lk : K.lookup f = some ⟨oc, od, .func (PySem.W.fnOf name qual params body scope dV kV doc pm an cdv ct), osl⟩) (hcd : PySem.W.codeIn K cdv qual = true) (S : FnScope N ps scope)
  (len : ∀ vs H Q E, sp vs H Q E -> vs.length = ps.length)
  (hbody : ∀ (A : Around) (outer : List Env) (s : Shared) (H : Hp) (vs : List V) (Q : VK) (E : XK), Room k (A.deeper (envOfC qual scope s.heap.objs.size f cdv)) -> sp vs H Q E ->
   ∃ t, PSs (cxOf CX P w K mg base N qual scope f cdv A outer s H E) body t /\ t { nx := fun _ H' => Q .non H', rt := Q } (start N vs) H) :
  FnOk P w K mg base CX (k + 1) f (PySem.W.fnOf name qual params body scope dV kV doc pm an cdv ct) ps sp := by
 refine ⟨len, fun A outer s H args us vs Q E hr e0 hb r hsp => ?_⟩
 have hl := len _ _ _ _ hsp
 have KX : K.In s.heap := e0.mod.kin.keeps fun b o e => (e0.bs b o e).1
 have lim : s.heap.NoLimit := e0.mod.nolimit.keeps fun b o e => (e0.bs b o e).1
 have hkind : ∀ y ∈ ps.zip us, scope.names.lookup y.1 = some .local ∨ (scope.names.lookup y.1 = some .cell /\ ((cellsFrom (s.heap.objs.size + 1) scope.names []).lookup y.1).isSome = true) := fun ⟨n, v⟩ hy => by
  rcases S.par n (List.of_mem_zip hy).1 with q | q
  ·exact .inl q
  ·exact .inr ⟨q, PySem.W.cellsFrom_some _ _ _ (.inl q)⟩
 refine codeAny_call_function hr.depth (KX _ _ lk) rfl S.co S.gen rfl (PySem.W.codeRec_of KX hcd) (hb _ _ _ _ ?_)
 refine wpAny_newFunctionEnv_cells S.kind hkind fun env he s1 x => ?_
 subst he
 refine ⟨lim.keeps x.toInCall.keep, codeAny_func ?_⟩
 obtain ⟨t, ht, hq⟩ := hbody A outer s H vs Q E (hr.deeper _) hsp
 have I : Inv (cxOf CX P w K mg base N qual scope f cdv A outer s H E) [] (start N vs) H s1 := inv_start S hr.hd e0 hl r x
 refine wpAny_mono (ht [] s1 (start N vs) H _ I hq) (fun fl s' hs => ?_) fun e s' hs => hs
 have fin : ∀ {σ' : St} {H' : Hp} {v : V} {u : Value}, Inv (cxOf CX P w K mg base N qual scope f cdv A outer s H E) [] σ' H' s' -> RelV v u -> Q v H' -> CE outer P w H s Q u s' :=
  fun {σ' H' v u} J rv q => ⟨v, H', J.os, J.bare, J.base, J.hok, rv, q⟩
 cases fl with
 | ret u =>
  obtain ⟨v, σ', H', J, rv, q⟩ := hs
  exact fin J rv q
 | next =>
  obtain ⟨σ', H', J, q⟩ := hs
  exact fin (v := V.non) (u := Value.none) J rfl q
 | brk =>
  obtain ⟨_, _, _, q⟩ := hs
  exact False.elim q
 | cont =>
  obtain ⟨_, _, _, q⟩ := hs
  exact False.elim q
end L2
namespace L2
open PySem PySem.Spec PyProof.Rows
section
variable {X : Cx} {x : Str} {p pos : Pos} {e : Expr} {es : List Expr} {t : TA} {id T : String} {r : List V -> Hp -> VK -> Prop}
def tCB (r : List V -> Hp -> VK -> Prop) (t : TA) : TE := fun σ H Q => t σ H fun vs H1 => r vs H1 Q
theorem pe_callB (hc : CallR X (.builtin id) r) (hg : Gl X x) (hm : X.mg x = none) (hv : bootBuiltins x = some (.builtin id)) (ha : PA X (e :: es) t) (hn : x ≠ "__name__" := by decide) (hdb : (x == ("__debug__" : Str)) = false := by decide)
  (he : starEach (e :: es) X.env = (false, eval e X.env) :: starEach es X.env := by rfl) (hpl : (backTo pos (starEach es X.env)).any (·.1) = false := by rfl) : PE X (.Call (.Name x p) (e :: es) [] pos) (tCB r t) := by
 intro pins s σ H Q I h
 refine wpAny_Call_Name_kw (ld_blt I hg hm hv ?_ hn hdb)
 exact PyProof.Rows.callWith_builtin1 (thn (ha pos pins s σ H _ I h) fun us s1 ⟨vs, H1, I1, r1, q1⟩ => hc pins s1 σ H1 vs us Q I1 r1 q1) he hpl
theorem pe_callTy (hc : CallR X (.type T) r) (hg : Gl X x) (hm : X.mg x = none) (hv : bootBuiltins x = some (.type T)) (ha : PA X (e :: es) t) (hn : x ≠ "__name__" := by decide) (hdb : (x == ("__debug__" : Str)) = false := by decide)
  (he : starEach (e :: es) X.env = (false, eval e X.env) :: starEach es X.env := by rfl) (hpl : (backTo pos (starEach es X.env)).any (·.1) = false := by rfl) : PE X (.Call (.Name x p) (e :: es) [] pos) (tCB r t) := by
 intro pins s σ H Q I h
 refine wpAny_Call_Name_kw (ld_blt I hg hm hv ?_ hn hdb)
 exact PyProof.Rows.callWith_type1 (thn (ha pos pins s σ H _ I h) fun us s1 ⟨vs, H1, I1, r1, q1⟩ => hc pins s1 σ H1 vs us Q I1 r1 q1) he hpl
end
end L2
namespace HT
open PySem PyProof.Rows
section
variable {prog : Program} {w : World} {A : Around} {E : Value -> Shared -> Prop} {s : Shared}
theorem cat_tup {t b : Addr} {vs ws : List Value} {Q : Value -> Shared -> Prop} (ht : IsTup s.heap t vs.toArray) (hb : IsTup s.heap b ws.toArray) (hv : vs ≠ [])
  (h1 : ws = [] -> Q (.ref t) s) (h2 : ws ≠ [] -> Q (.ref s.heap.objs.size) { s with heap := s.heap.push { cls := .type "tuple", data := .seq (vs ++ ws).toArray } })
  (hsz : vs.length + ws.length <= sizeLine) : wpAny (model prog w) A (binaryOp .Add (.ref t) (.ref b)) Q E s := by
 obtain ⟨⟨cls, dd, data, sl⟩, ho, hc, n, hd⟩ := id ht
 obtain ⟨⟨cls2, dd2, data2, sl2⟩, ho2, hc2, n2, hd2⟩ := id hb
 simp only at hc hd hc2 hd2
 subst hc hd hc2 hd2
 have e : vs.toArray ++ ws.toArray = (vs ++ ws).toArray := by simp
 by_cases hw : ws = []
 ·exact concat_meets ⟨_, ho, rfl⟩ ⟨_, ho2, rfl⟩ noFill_tuple_add seq_tuple_add PySem.F.slot_tuple_add PySem.F.entry_tuple_add (PySem.F.args_tuple_add_2 _ _)
   (tuple_addW1 t b vs.toArray ws.toArray n n2 dd dd2 sl sl2 (by simpa using hv) (by simp [hw])) ⟨ho, ho2, h1 hw⟩
 ·refine concat_meets ⟨_, ho, rfl⟩ ⟨_, ho2, rfl⟩ noFill_tuple_add seq_tuple_add PySem.F.slot_tuple_add PySem.F.entry_tuple_add (PySem.F.args_tuple_add_2 _ _)
   (tuple_addW2 t b vs.toArray ws.toArray n n2 dd dd2 sl sl2 (by simpa using hv) (by simpa using hw) (by rw [List.size_toArray, List.size_toArray]; exact hsz)) ⟨ho, ho2, ?_⟩
  rw [e]
  exact h2 hw
def sIx (n d : Nat) : Option Int -> Nat
 | none => d
 | some v => if v < 0 then (v + (n : Int)).toNat else min v.toNat n
theorem sIx_none (n d : Nat) : sIx n d none = d := rfl
theorem sIx_nat (n d k : Nat) : sIx n d (some (k : Int)) = min k n := by
 show (if (k : Int) < 0 then ((k : Int) + (n : Int)).toNat else min (k : Int).toNat n) = min k n
 rw [if_neg (by omega), Int.toNat_natCast]
theorem sIx_le (n d : Nat) (hd : d <= n) (o : Option Int) : sIx n d o <= n := by
 cases o with
 | none => exact hd
 | some v =>
  show (if v < 0 then (v + (n : Int)).toNat else min v.toNat n) <= n
  by_cases hv : v < 0
  ·rw [if_pos hv]; omega
  ·rw [if_neg hv]; exact Nat.min_le_right _ _
theorem clip_eq (v : Int) (n d : Nat) : (if v < 0 then max (v + (n : Int)) 0 else min v (n : Int)) = ((sIx n d (some v) : Nat) : Int) := by
 show (if v < 0 then max (v + (n : Int)) 0 else min v (n : Int)) = (((if v < 0 then (v + (n : Int)).toNat else min v.toNat n) : Nat) : Int)
 by_cases hv : v < 0
 ·simp only [if_pos hv]; omega
 ·simp only [if_neg hv]; omega
theorem adjust_gen (lo hi : Option Int) (n : Nat) : Builtin.Slice.sliceAdjust lo hi 1 (n : Int) = (((sIx n 0 lo : Nat) : Int), ((sIx n n hi : Nat) : Int)) := by
 have h1 : ¬ ((1 : Int) < 0) := by omega
 unfold Builtin.Slice.sliceAdjust
 simp only [h1, if_false]
 refine Prod.ext ?_ ?_
 ·cases lo with
  | none => rfl
  | some v => exact clip_eq v n 0
 ·cases hi with
  | none => rfl
  | some v => exact clip_eq v n n
theorem places_gen (i j : Nat) : Builtin.Slice.slicePlaces (i : Int) (j : Int) 1 = j - i := by
 unfold Builtin.Slice.slicePlaces
 have h1 : (1 : Int) > 0 := by omega
 simp only [h1, if_true, Int.ediv_one]
 split <;> omega
theorem slicePart_ {v : Value} {o : Option Int} {Q : Option Int -> Shared -> Prop} (p : IsPart v o) (h : Q o s) : wpAny (model prog w) A (Builtin.Slice.slicePartIndex v) Q E s := by
 cases p with
 | none => exact slicePart_none h
 | int i t => exact slicePart_int h
theorem sliceApplied_gen {sl : Addr} {vl vu : Value} {lo hi : Option Int} {n : Nat} {Q : Int × Int × Nat -> Shared -> Prop} (hs : s.heap.IsSliceOf sl vl vu .none) (pl : IsPart vl lo) (pu : IsPart vu hi)
  (h : Q (((sIx n 0 lo : Nat) : Int), 1, sIx n n hi - sIx n 0 lo) s) : wpAny (model prog w) A (Builtin.Slice.sliceApplied (.ref sl) (pure (n : Int))) Q E s := by
 obtain ⟨os, hos, hcs, hds⟩ := id hs
 unfold Builtin.Slice.sliceApplied Builtin.Slice.sliceFields
 refine wpAny_bind (wpAny_bind (wpAny_field hos hds (x := vl) rfl (wpAny_bind (wpAny_field hos hds (x := vu) rfl (wpAny_bind (wpAny_field hos hds (x := .none) rfl (wpAny_pure ?_)))))))
 refine wpAny_bind (slicePart_none ?_)
 show wpAny _ _ (if ((1 : Int) == 0) = true then _ else _) _ _ s
 rw [if_neg (by decide)]
 refine wpAny_bind (slicePart_ pl (wpAny_bind (slicePart_ pu (wpAny_bind (wpAny_pure ?_)))))
 show wpAny _ _ (match Builtin.Slice.sliceAdjust lo hi 1 (n : Int) with | (lo, hi) => pure (lo, (1 : Int), Builtin.Slice.slicePlaces lo hi 1)) _ _ s
 rw [adjust_gen lo hi n]
 show wpAny _ _ (pure (((sIx n 0 lo : Nat) : Int), (1 : Int), Builtin.Slice.slicePlaces ((sIx n 0 lo : Nat) : Int) ((sIx n n hi : Nat) : Int) 1)) _ _ s
 rw [places_gen]
 exact wpAny_pure h
theorem pick_gen (xs : Array Value) (i k : Nat) : ((List.range k).filterMap fun (m : Nat) => xs[((i : Int) + (m : Int) * 1).toNat]?).toArray = ((xs.toList.drop i).take k).toArray := by
 have e : (fun (m : Nat) => xs[((i : Int) + (m : Int) * 1).toNat]?) = fun m => xs[i + m]? := by
  funext m
  have : ((i : Int) + (m : Int) * 1).toNat = i + m := by omega
  rw [this]
 rw [e]
 have := pick_run xs i k
 rw [List.filterMap_map] at this
 have e2 : ((fun x => xs[x]?) ∘ fun x => i + x) = fun m => xs[i + m]? := rfl
 rw [e2] at this
 rw [this]
theorem getItem_tuple_cut {t sl : Addr} {items : Array Value} {vl vu : Value} {lo hi : Option Int} {Q : Value -> Shared -> Prop} (ht : IsTup s.heap t items) (hs : s.heap.IsSliceOf sl vl vu .none) (pl : IsPart vl lo) (pu : IsPart vu hi)
  (hw : ¬ (sIx items.size 0 lo = 0 /\ sIx items.size items.size hi = items.size))
  (h : Q (.ref s.heap.objs.size) { s with heap := s.heap.push { cls := .type "tuple", data := .seq ((items.toList.drop (sIx items.size 0 lo)).take (sIx items.size items.size hi - sIx items.size 0 lo)).toArray } })
  (hsz : items.size <= sizeLine) : wpAny (model prog w) A (getItem (.ref t) (.ref sl)) Q E s := by
 have htake : sizeOk (.seq ((items.toList.drop (sIx items.size 0 lo)).take (sIx items.size items.size hi - sIx items.size 0 lo)).toArray) := by
  show ((items.toList.drop (sIx items.size 0 lo)).take (sIx items.size items.size hi - sIx items.size 0 lo)).toArray.size <= sizeLine
  rw [List.size_toArray, List.length_take, List.length_drop, Array.length_toList]
  omega
 have hj : sIx items.size items.size hi <= items.size := sIx_le _ _ (Nat.le_refl _) hi
 obtain ⟨os, hos, hcs, hds⟩ := id hs
 have hTs : s.TypeIs (.ref sl) "slice" := ⟨os, hos, hcs⟩
 unfold getItem
 try with_reducible refine wpAny_holding ?_
 first | refine wpAny_bind (wpAny_pure ?_) | skip
 refine wpAny_bind (wpAny_sequenceKey ht.typeIs (by decide) ?_)
 refine wpAny_bind (wpAny_callSpecial?_slot (name := Str.ofString "__getitem__") ht.typeIs PyProof.Rows.slot_tuple_getitem
  (wpAny_call_entry PyProof.Rows.slot_tuple_getitem ht.typeIs entry_tuple_getitem ?_ (args_tuple_getitem _ _)))
 show wpAny _ _ (Builtin.Tuple.tupleItemsOf (.ref t) >>= _) _ _ s
 refine wpAny_bind (tupleItemsOf_ ht ?_)
 refine wpAny_bind (wpAny_typeOf hTs ?_)
 rw [if_pos (by decide)]
 refine wpAny_bind (sliceApplied_gen hs pl pu ?_)
 have hno : ¬ ((((sIx items.size 0 lo : Nat) : Int) == 0 && (1 : Int) == 1 && (sIx items.size items.size hi - sIx items.size 0 lo) == items.size) = true) := by
  intro q
  rw [Bool.and_eq_true, Bool.and_eq_true] at q
  have q1 : ((sIx items.size 0 lo : Nat) : Int) = 0 := eq_of_beq q.1.1
  have q2 : sIx items.size items.size hi - sIx items.size 0 lo = items.size := eq_of_beq q.2
  exact hw ⟨by omega, by omega⟩
 show wpAny _ _ (if (((sIx items.size 0 lo : Nat) : Int) == 0 && (1 : Int) == 1 && (sIx items.size items.size hi - sIx items.size 0 lo) == items.size) = true then _ else _) _ _ s
 rw [if_neg hno, pick_gen]
 first
  | exact wpAny_bind (m := Builtin.Tuple.tupleExact _) (wpAny_newObj_type (wpAny_pure ⟨_, rfl, wpAny_pure h⟩) htake)
  | exact wpAny_bind (m := Builtin.Tuple.tupleExact _) (wpAny_newObj_type (wpAny_bind (wpAny_pure (wpAny_pure ⟨_, rfl, wpAny_pure h⟩))) htake)
  | exact wpAny_bind (wpAny_bind (m := Builtin.Tuple.tupleExact _) (wpAny_newObj_type (wpAny_pure (wpAny_pure ⟨_, rfl, wpAny_pure h⟩)) htake))
  | exact wpAny_bind (wpAny_bind (m := Builtin.Tuple.tupleExact _) (wpAny_newObj_type (wpAny_pure ⟨_, rfl, wpAny_pure h⟩) htake))
end
end HT
namespace L2
open PySem PySem.Spec PyProof.Rows
abbrev TO := St -> Hp -> (Option Int -> Hp -> Prop) -> Prop
def PO (X : Cx) (e : Option Expr) (t : TO) : Prop :=
 ∀ (pins : List (Addr × Obj)) (s : Shared) (σ : St) (H : Hp) (Q : Option Int -> Hp -> Prop), Inv X pins σ H s -> t σ H Q ->
  wpAny (model X.prog X.w) X.A (evalPart e X.env) (fun u s' => ∃ o H', Inv X pins σ H' s' /\ IsPart u o /\ Q o H') X.xe s
def tNoPart : TO := fun _ H Q => Q none H
def tPart (t : TE) : TO := fun σ H Q => t σ H fun x H1 => ∃ i, x = .int i /\ Q (some i) H1
theorem intsAre_of {ns : List Int} : ∀ {us : List Value}, Vals (ns.map V.int) us -> IntsAre us ns := by
 induction ns with
 | nil => intro us r; rw [List.map_nil] at r; cases r; exact .nil
 | cons n ns ih =>
  intro us r
  rw [List.map_cons] at r
  cases r with
  | cons r1 r2 =>
   obtain ⟨t, e⟩ := r1
   subst e
   exact .cons n t (ih r2)
section
variable {X : Cx} {e : Expr} {te : TE} {lo hi : Option Expr} {tl th : TO} {pos p2 : Pos}
theorem po_none : PO X none tNoPart := by
 intro pins s σ H Q I h
 rw [evalPart_none]
 exact wpAny_pure ⟨none, H, I, .none, h⟩
theorem po_some (h : PE X e te) : PO X (some e) (tPart te) := by
 intro pins s σ H Q I hw
 rw [evalPart_some]
 refine thn (h pins s σ H _ I hw) fun u s1 ⟨x, H1, I1, r1, q1⟩ => ?_
 obtain ⟨i, rfl, q⟩ := q1
 obtain ⟨t, rfl⟩ := r1
 exact ⟨some i, H1, I1, .int i t, q⟩
def SlR (X : Cx) (r : V -> Option Int -> Option Int -> Hp -> VK -> Prop) : Prop :=
 ∀ (pins : List (Addr × Obj)) (s : Shared) (σ : St) (H : Hp) (x : V) (v vl vu : Value) (lo hi : Option Int) (sl : Addr) (Q : VK), Inv X pins σ H s -> RelV x v -> s.heap.IsSliceOf sl vl vu .none -> IsPart vl lo -> IsPart vu hi -> r x lo hi H Q ->
  ∃ T id, typeLookup (.type T) "__getitem__" = pure (some (.builtin id)) /\ s.TypeIs v T /\ wpAny (model X.prog X.w) X.A (getItem v (.ref sl)) (EP X pins σ Q) X.xe s
def tSl (r : V -> Option Int -> Option Int -> Hp -> VK -> Prop) (te : TE) (tl th : TO) : TE := fun σ H Q => te σ H fun x H1 => tl σ H1 fun l H2 => th σ H2 fun u H3 => r x l u H3 Q
theorem pe_slice {r : V -> Option Int -> Option Int -> Hp -> VK -> Prop} (hr : SlR X r) (he : PE X e te) (hl : PO X lo tl) (hu : PO X hi th) : PE X (.Subscript e (.Slice lo hi none p2) pos) (tSl r te tl th) := by
 intro pins s σ H Q I h
 refine Subscript_ (thn (he pins s σ H _ I h) fun v s1 ⟨x, H1, I1, r1, q1⟩ => ?_)
 refine wpAny_Slice (thn (hl pins s1 σ H1 _ I1 q1) fun vl s2 ⟨l, H2, I2, pl, q2⟩ => thn (hu pins s2 σ H2 _ I2 q2) fun vu s3 ⟨u, H3, I3, pu, q3⟩ => ?_)
 rw [evalPart_none]
 refine wpAny_pure ?_
 have I4 : Inv X pins σ H3 { s3 with heap := s3.heap.push { cls := .type "slice", data := .fields #[vl, vu, .none] } } := I3.kept (t' := s3.toks) fun b ob q => Heap.get?_push_of_some _ q
 obtain ⟨T, id, hT, ht, hg⟩ := hr pins { s3 with heap := s3.heap.push { cls := .type "slice", data := .fields #[vl, vu, .none] } } σ H3 x v vl vu l u s3.heap.objs.size Q I4 r1 (Heap.IsSliceOf.new ..) pl pu q3
 show wpAny (model X.prog X.w) X.A (subscriptTail e (.Slice lo hi none p2) v (.ref s3.heap.objs.size)) (EP X pins σ Q) X.xe { s3 with heap := s3.heap.push { cls := .type "slice", data := .fields #[vl, vu, .none] } }
 exact tail_any (ops := [.ref s3.heap.objs.size, v]) ht hT hg (by with_unfolding_all rfl)
def cutV (xs : List V) (lo hi : Option Int) : List V := (xs.drop (HT.sIx xs.length 0 lo)).take (HT.sIx xs.length xs.length hi - HT.sIx xs.length 0 lo)
theorem cutV_length (xs : List V) (lo hi : Option Int) : (cutV xs lo hi).length <= xs.length := by
 unfold cutV
 rw [List.length_take, List.length_drop]
 omega
def rSlT (K : W.Frag) : V -> Option Int -> Option Int -> Hp -> VK -> Prop := fun x lo hi H Q => ∃ a xs, x = .ref a /\ SqT K H a xs /\
 ¬ (HT.sIx xs.length 0 lo = 0 /\ HT.sIx xs.length xs.length hi = xs.length) /\ ∀ p, H p = none -> Q (.ref p) (upd H p (.tup (cutV xs lo hi)))
theorem sl_tup : SlR X (rSlT X.K) := by
 intro pins s σ H x v vl vu lo hi sl Q I rx hs pl pu h
 obtain ⟨a, xs, rfl, hx, hw, q⟩ := h
 cases rx
 obtain ⟨its, r, ht, hz⟩ := I.tuple hx
 have hlen : its.toArray.size = xs.length := by rw [List.size_toArray]; exact r.length.symm
 refine ⟨"tuple", _, PyProof.Rows.slot_tuple_getitem.lookup, ht.typeIs, ?_⟩
 refine HT.getItem_tuple_cut ht hs pl pu (by rw [hlen]; exact hw) ?_ (by rw [hlen]; exact hz)
 rw [hlen]
 refine ⟨.ref s.heap.objs.size, _, I.laid (t' := s.toks) (o := .tup (cutV xs lo hi)) (fun b ob q => Heap.get?_push_of_some _ q) (Nat.le_refl _) ?_, rfl, q _ (I.hok.fresh (Nat.le_refl _))⟩
 exact ⟨Nat.le_trans (cutV_length xs lo hi) hz, _, (r.drop (HT.sIx xs.length 0 lo)).take (HT.sIx xs.length xs.length hi - HT.sIx xs.length 0 lo), IsTup.new _ _⟩
def rCatT (K : W.Frag) : R2 := fun x y H Q => ∃ a b xs ys, x = .ref a /\ y = .ref b /\ SqT K H a xs /\ SqT K H b ys /\ xs ≠ [] /\ xs.length + ys.length <= sizeLine /\
 (ys = [] -> Q (.ref a) H) /\ (ys ≠ [] -> ∀ p, H p = none -> Q (.ref p) (upd H p (.tup (xs ++ ys))))
theorem Vals.nil_iff {xs : List V} {us : List Value} (r : Vals xs us) : us = [] ↔ xs = [] := by
 cases r with
 | nil => simp
 | cons _ _ => simp
theorem op_catT : OpR X (binaryOp .Add) (rCatT X.K) := by
 intro pins s σ H x y v u Q I rx ry h
 obtain ⟨a, b, xs, ys, rfl, rfl, ha, hb, hx, hz, q1, q2⟩ := h
 cases rx
 cases ry
 obtain ⟨its, r1, p1, _⟩ := I.tuple ha
 obtain ⟨its2, r2, p2, _⟩ := I.tuple hb
 refine HT.cat_tup p1 p2 (fun z => hx (r1.nil_iff.mp z)) (fun z => ⟨.ref a, H, I, rfl, q1 (r2.nil_iff.mp z)⟩) (fun z => ?_) (by rw [<- r1.length, <- r2.length]; exact hz)
 refine ⟨.ref s.heap.objs.size, _, I.laid (t' := s.toks) (o := .tup (xs ++ ys)) (fun b ob q => Heap.get?_push_of_some _ q) (Nat.le_refl _) ?_, rfl, q2 (fun w => z (r2.nil_iff.mpr w)) _ (I.hok.fresh (Nat.le_refl _))⟩
 exact ⟨by rw [List.length_append]; exact hz, _, r1.append r2, IsTup.new _ _⟩
end
end L2
namespace L2
open PySem PySem.Spec PyProof.Rows
def ixN (n : Nat) (i : Int) : Option Nat := if 0 <= i then (if i < n then some i.toNat else none) else if -(n : Int) <= i then some (i + n).toNat else none
def atI {α : Type} (xs : List α) (i : Int) : Option α := (ixN xs.length i).bind fun j => xs[j]?
theorem ixN_seq {n : Nat} {i : Int} {j : Nat} (h : ixN n i = some j) : seqIndex? i n = some j /\ j < n /\ -(n : Int) <= i /\ i < n := by
 unfold ixN at h
 by_cases h0 : 0 <= i
 ·rw [if_pos h0] at h
  by_cases h1 : i < n
  ·rw [if_pos h1] at h
   have e : i.toNat = j := Option.some.inj h
   exact ⟨by rw [seqIndex_of h0 h1, e], by omega, by omega, h1⟩
  ·rw [if_neg h1] at h; cases h
 ·rw [if_neg h0] at h
  by_cases h1 : -(n : Int) <= i
  ·rw [if_pos h1] at h
   have e : (i + n).toNat = j := Option.some.inj h
   exact ⟨by rw [seqIndex_neg (by omega) h1, e], by omega, h1, by omega⟩
  ·rw [if_neg h1] at h; cases h
theorem atI_get {α : Type} {xs : List α} {i : Int} {v : α} (h : atI xs i = some v) : ∃ j, seqIndex? i xs.length = some j /\ xs[j]? = some v /\ j < xs.length /\ -(xs.length : Int) <= i /\ i < xs.length := by
 unfold atI at h
 cases e : ixN xs.length i with
 | none => rw [e] at h; cases h
 | some j =>
  rw [e] at h
  obtain ⟨h1, h2, h3, h4⟩ := ixN_seq e
  exact ⟨j, h1, h, h2, h3, h4⟩
theorem atI_nat {α : Type} {xs : List α} {j : Nat} {v : α} (h : xs[j]? = some v) : atI xs (j : Int) = some v := by
 have hj : j < xs.length := (List.getElem?_eq_some_iff.mp h).1
 have e : ixN xs.length (j : Int) = some j := by
  unfold ixN
  rw [if_pos (by omega), if_pos (by omega)]; simp
 unfold atI; rw [e]; exact h
def PlainIx (b : Expr) : Prop := ∀ o i, subscripted b false o i = operate [o, i] (getItem o i)
def IxR (X : Cx) (r : R2) : Prop :=
 ∀ (value slice : Expr) (pins : List (Addr × Obj)) (s : Shared) (σ : St) (H : Hp) (x y : V) (v u : Value) (Q : VK), Inv X pins σ H s -> RelV x v -> RelV y u -> r x y H Q ->
  subscripted slice false v u = operate [v, u] (getItem v u) -> wpAny (model X.prog X.w) X.A (subscriptTail value slice v u) (EP X pins σ Q) X.xe s
def MtR (X : Cx) (id : String) (r : V -> List V -> Hp -> VK -> Prop) : Prop :=
 ∀ (pins : List (Addr × Obj)) (s : Shared) (σ : St) (H : Hp) (x : V) (xs : List V) (v : Value) (us : List Value) (Q : VK), Inv X pins σ H s -> RelV x v -> Vals xs us -> r x xs H Q ->
  wpAny (model X.prog X.w) X.A (call (.builtin id) (v :: us)) (EP X pins σ Q) X.xe s
section
variable {X : Cx} {a b : Expr} {ta tb : TE} {pos : Pos}
theorem pe_ix {r : R2} (hr : IxR X r) (ha : PE X a ta) (hb : PE X b tb) (hs : PlainIx b) : PE X (.Subscript a b pos) (tOp r ta tb) := by
 intro pins s σ H Q I h
 exact Subscript_ (binT ha hb I h fun v u s2 x y H2 I2 rx ry q => hr a b pins s2 σ H2 x y v u Q I2 rx ry q (hs _ _))
def rIxL (K : W.Frag) : R2 := fun x y H Q => ∃ p xs i v, x = .ref p /\ y = .int i /\ SqL K H p xs /\ atI xs i = some v /\ Q v H
def rIxT (K : W.Frag) : R2 := fun x y H Q => ∃ p xs i v, x = .ref p /\ y = .int i /\ SqT K H p xs /\ atI xs i = some v /\ Q v H
theorem ix_list : IxR X (rIxL X.K) := by
 intro value slice pins s σ H x y v u Q I rx ry h hs
 obtain ⟨p, xs, i, z, rfl, rfl, hq, he, q⟩ := h
 cases rx
 obtain ⟨t, rfl⟩ := ry
 obtain ⟨its, r, pl, hz⟩ := I.list hq
 obtain ⟨j, h1, h2, h3, h4, h5⟩ := atI_get he
 obtain ⟨w, ew, rw'⟩ := r.get h2
 have hl := r.length
 have hn := line63
 have fin : EP X pins σ Q w s := ⟨z, H, I, rw', q⟩
 by_cases h0 : 0 <= i
 ·have hj : i.toNat = j := by
   rw [seqIndex_of h0 h5] at h1
   exact Option.some.inj h1
  exact item_listR pl.isList h0 (by omega) (by rw [hj]; simpa using ew) fin hs
 ·have hj : (i + (its.toArray.size : Int)).toNat = j := by
   rw [seqIndex_neg (by omega) h4] at h1
   rw [List.size_toArray, <- hl]
   exact Option.some.inj h1
  exact subscriptTail_builtinR (x := w) pl.isList.typeIs slot_list_getitem.lookup
   (wpAny_getItem_list_neg (Q := fun r s' => r = w /\ EP X pins σ Q r s') pl.isList (by omega) (by rw [List.size_toArray] <;> omega) (by omega) (by rw [hj]; simpa using ew) ⟨rfl, fin⟩) hs
theorem ix_tup : IxR X (rIxT X.K) := by
 intro value slice pins s σ H x y v u Q I rx ry h hs
 obtain ⟨p, xs, i, z, rfl, rfl, hq, he, q⟩ := h
 cases rx
 obtain ⟨t, rfl⟩ := ry
 obtain ⟨its, r, pl, hz⟩ := I.tuple hq
 obtain ⟨j, h1, h2, h3, h4, h5⟩ := atI_get he
 obtain ⟨w, ew, rw'⟩ := r.get h2
 have hl := r.length
 have hn := line63
 have fin : EP X pins σ Q w s := ⟨z, H, I, rw', q⟩
 exact subscriptTail_builtinR (x := w) pl.typeIs slot_tuple_getitem.lookup
  (getItem_tuple (j := j) (Q := fun r s' => r = w /\ EP X pins σ Q r s') pl (by omega) (by omega) (by rw [List.size_toArray, <- hl]; exact h1) (by simpa using ew) ⟨rfl, fin⟩) hs
theorem mapSeq_set (its : List Value) (n j : Nat) (u : Value) : Obj.mapSeq (·.setIfInBounds j u) { cls := .type "list", data := .seq its.toArray n } = { cls := .type "list", data := .seq (its.set j u).toArray n } := by
 simp [Obj.mapSeq]
theorem Inv.lst {pins : List (Addr × Obj)} {σ : St} {H : Hp} {s : Shared} {p : Addr} {xs : List V} (I : Inv X pins σ H s) (h : H p = some (.lst xs)) :
  ∃ (its : List Value) (n : Nat), Vals xs its /\ s.heap.get? p = some { cls := .type "list", data := .seq its.toArray n } /\ xs.length <= sizeLine := by
 obtain ⟨z, its, n, r, e⟩ := I.hok p _ h
 exact ⟨its, n, r, e, z⟩
theorem Inv.lstUpd {pins : List (Addr × Obj)} {σ : St} {H : Hp} {s : Shared} {p : Addr} {xs ys : List V} {its its' : List Value} {n n' : Nat} {f : Obj -> Obj} (I : Inv X pins σ H s) (h : H p = some (.lst xs))
  (ho : s.heap.get? p = some { cls := .type "list", data := .seq its.toArray n }) (hf : f { cls := .type "list", data := .seq its.toArray n } = { cls := .type "list", data := .seq its'.toArray n' }) (r : Vals ys its') (hz : ys.length <= sizeLine) (t : Nat) :
  Inv X pins σ (upd H p (.lst ys)) { s with heap := s.heap.update p f, toks := t } := by
 have e : (s.heap.update p f).get? p = some { cls := .type "list", data := .seq its'.toArray n' } := by
  rw [Heap.get?_update_self f ho (by rw [hf] <;> rfl), hf]
 refine I.write (x := p) (e := p) (by rw [h]; trivial) (.inl rfl) (fun b u hb q => (Heap.get?_update_other _ _ (Ne.symm hb)).trans q) ⟨_, e⟩ ?_
 exact ⟨hz, its', n', r, e⟩
def rSetL : V -> V -> V -> Hp -> (Hp -> Prop) -> Prop := fun o i v H Q => ∃ p xs k j, o = .ref p /\ i = .int k /\ H p = some (.lst xs) /\ ixN xs.length k = some j /\ Q (upd H p (.lst (xs.set j v)))
theorem set_list : PSet X rSetL := by
 intro pins s σ H o i v ov iv u Q I ro ri rv h
 obtain ⟨p, xs, k, j, rfl, rfl, hp, hj, q⟩ := h
 cases ro
 obtain ⟨t, rfl⟩ := ri
 obtain ⟨its, n, r, ho, hz⟩ := I.lst hp
 obtain ⟨h1, h2, h3, h4⟩ := ixN_seq hj
 have hl := r.length
 have hn := line63
 have I' : Inv X pins σ (upd H p (.lst (xs.set j v))) { s with heap := s.heap.update p (Obj.mapSeq (·.setIfInBounds j u)) } :=
  I.lstUpd hp ho (mapSeq_set its n j u) (r.set rv j) (by rw [List.length_set]; exact hz) s.toks
 by_cases h0 : 0 <= k
 ·have hk : k.toNat = j := by
   rw [seqIndex_of h0 h4] at h1
   exact Option.some.inj h1
  exact PySem.W.ki_setAt ho h0 (by omega) (by rw [List.size_toArray, <- hl]; exact h4) (by rw [hk]; exact ⟨_, I', q⟩)
 ·have hk : (k + (its.toArray.size : Int)).toNat = j := by
   rw [seqIndex_neg (by omega) h3] at h1
   rw [List.size_toArray, <- hl]
   exact Option.some.inj h1
  exact PySem.W.ki_setBack ho (by omega) (by rw [List.size_toArray, <- hl]; exact h3) (by omega) (by rw [hk]; exact ⟨_, I', q⟩)
theorem slice_bounds (lo hi : Option Int) (n : Nat) : (sliceBounds lo hi none n).1 = ((HT.sIx n 0 lo : Nat) : Int) /\ (sliceBounds lo hi none n).2.1 = ((HT.sIx n n hi : Nat) : Int) /\ (sliceBounds lo hi none n).2.2 = 1 := by
 refine ⟨?_, ?_, rfl⟩
 ·cases lo with
  | none => simp [sliceBounds, HT.sIx]
  | some i =>
   simp only [sliceBounds, HT.sIx, Option.getD_none, show (1 : Int) > 0 by decide, if_true]
   by_cases h : i < 0
   ·simp only [h, if_true] <;> omega
   ·simp only [h, if_false] <;> omega
 ·cases hi with
  | none => simp [sliceBounds, HT.sIx]
  | some i =>
   simp only [sliceBounds, HT.sIx, Option.getD_none, show (1 : Int) > 0 by decide, if_true]
   by_cases h : i < 0
   ·simp only [h, if_true] <;> omega
   ·simp only [h, if_false] <;> omega
theorem slicePick_cut (its : List Value) (lo hi : Option Int) : slicePick its.toArray lo hi none = ((its.drop (HT.sIx its.length 0 lo)).take (HT.sIx its.length its.length hi - HT.sIx its.length 0 lo)).toArray := by
 obtain ⟨h1, h2, h3⟩ := slice_bounds lo hi its.toArray.size
 unfold slicePick
 rw [h1, h2, h3]
 simp only [sliceRange_one, pick_run, List.size_toArray] <;> rfl
def rSlL (K : W.Frag) : V -> Option Int -> Option Int -> Hp -> VK -> Prop := fun x lo hi H Q => ∃ a xs, x = .ref a /\ SqL K H a xs /\ ∀ p, H p = none -> Q (.ref p) (upd H p (.lst (cutV xs lo hi)))
theorem sl_list : SlR X (rSlL X.K) := by
 intro pins s σ H x v vl vu lo hi sl Q I rx hs pl pu h
 obtain ⟨a, xs, rfl, hx, q⟩ := h
 cases rx
 obtain ⟨its, r, ht, hz⟩ := I.list hx
 have hlen := r.length
 refine ⟨"list", _, slot_list_getitem.lookup, ht.isList.typeIs, ?_⟩
 refine wpAny_getItem_list_slice ht.isList hs pl pu .none (by simp) ?_ (by rw [List.size_toArray] <;> omega)
 rw [slicePick_cut, <- hlen]
 refine ⟨.ref s.heap.objs.size, _, I.laid (t' := s.toks) (o := .lst (cutV xs lo hi)) (fun b ob q => Heap.get?_push_of_some _ q) (Nat.le_refl _) ?_, rfl, q _ (I.hok.fresh (Nat.le_refl _))⟩
 exact ⟨Nat.le_trans (cutV_length xs lo hi) hz, _, 0, (r.drop (HT.sIx xs.length 0 lo)).take (HT.sIx xs.length xs.length hi - HT.sIx xs.length 0 lo), Heap.get?_push_size _ rfl⟩
def flatV : V -> Bool
 | .non => true
 | .bl _ => true
 | .int _ => true
 | .str _ => true
 | _ => false
def eqV : V -> V -> Bool
 | .non, .non => true
 | .bl a, .bl b => a == b
 | .bl a, .int b => (if a then 1 else 0) == b
 | .int a, .bl b => a == (if b then 1 else 0)
 | .int a, .int b => a == b
 | .str a, .str b => a == b
 | _, _ => false
theorem eqAt_V {A : Around} {s : Shared} {y x : V} {u v : Value} (ry : RelV y u) (rx : RelV x v) (fy : flatV y = true) (fx : flatV x = true) : SeqAt.EqAt A s u v (eqV y x) := by
 cases y with
 | non =>
  cases ry
  cases x with
  | non => cases rx; exact SeqAt.EqAt.same _
  | bl b => cases rx; exact SeqAt.EqAt.none_bool b
  | int b => obtain ⟨t, rfl⟩ := rx; exact SeqAt.EqAt.none_int b t
  | str b => obtain ⟨t, rfl⟩ := rx; exact SeqAt.EqAt.none_str b t
  | _ => exact absurd (show false = true from fx) Bool.false_ne_true
 | bl a =>
  cases ry
  cases x with
  | non => cases rx; exact SeqAt.EqAt.bool_none a
  | bl b => cases rx; exact SeqAt.EqAt.bool_bool a b
  | int b => obtain ⟨t, rfl⟩ := rx; exact SeqAt.EqAt.bool_int a b t
  | str b => obtain ⟨t, rfl⟩ := rx; exact SeqAt.EqAt.bool_str a b t
  | _ => exact absurd (show false = true from fx) Bool.false_ne_true
 | int a =>
  obtain ⟨t', rfl⟩ := ry
  cases x with
  | non => cases rx; exact SeqAt.EqAt.int_none a t'
  | bl b => cases rx; exact SeqAt.EqAt.int_bool a t' b
  | int b => obtain ⟨t, rfl⟩ := rx; exact SeqAt.EqAt.int_int a t' b t
  | str b => obtain ⟨t, rfl⟩ := rx; exact SeqAt.EqAt.int_str a t' b t
  | _ => exact absurd (show false = true from fx) Bool.false_ne_true
 | str a =>
  obtain ⟨t', rfl⟩ := ry
  cases x with
  | non => cases rx; exact SeqAt.EqAt.str_none a t'
  | bl b => cases rx; exact SeqAt.EqAt.str_bool a t' b
  | int b => obtain ⟨t, rfl⟩ := rx; exact SeqAt.EqAt.str_int a t' b t
  | str b => obtain ⟨t, rfl⟩ := rx; exact SeqAt.EqAt.str_str a t' b t
  | _ => exact absurd (show false = true from fx) Bool.false_ne_true
 | _ => exact absurd (show false = true from fy) Bool.false_ne_true
def eqU (x : V) (u : Value) : Bool := match u with
 | .none => eqV .non x
 | .bool b => eqV (.bl b) x
 | .int i _ => eqV (.int i) x
 | .str z _ => eqV (.str z) x
 | _ => false
theorem eqU_of {x y : V} {u : Value} (r : RelV y u) (f : flatV y = true) : eqU x u = eqV y x := by
 cases y with
 | non => cases r; rfl
 | bl b => cases r; rfl
 | int i => obtain ⟨t, rfl⟩ := r; rfl
 | str z => obtain ⟨t, rfl⟩ := r; rfl
 | _ => exact absurd (show false = true from f) Bool.false_ne_true
theorem any_eqU {x : V} : ∀ {xs : List V} {us : List Value}, Vals xs us -> xs.all flatV = true -> us.any (eqU x) = xs.any fun y => eqV y x
 | _, _, .nil, _ => rfl
 | y :: xs, u :: us, .cons r t, f => by
  rw [List.all_cons, Bool.and_eq_true] at f
  rw [List.any_cons, List.any_cons, eqU_of r f.1, any_eqU t f.2]
theorem mem_eqAt {A : Around} {s : Shared} {x : V} {v : Value} (rx : RelV x v) (fx : flatV x = true) : ∀ {xs : List V} {us : List Value}, Vals xs us -> xs.all flatV = true -> ∀ u ∈ us, SeqAt.EqAt A s u v (eqU x u)
 | _, _, .nil, _ => fun u hu => by cases hu
 | y :: xs, u :: us, .cons r t, f => fun u' hu => by
  rw [List.all_cons, Bool.and_eq_true] at f
  rcases List.mem_cons.mp hu with rfl | hu
  ·rw [eqU_of r f.1]; exact eqAt_V r rx f.1 fx
  ·exact mem_eqAt rx fx t f.2 u' hu
def inV (x : V) (xs : List V) : Bool := xs.any fun y => eqV y x
def rIn (K : W.Frag) (neg : Bool) : R2 := fun x y H Q => ∃ p xs, y = .ref p /\ (SqL K H p xs ∨ SqT K H p xs) /\ flatV x = true /\ xs.all flatV = true /\ Q (.bl (if neg then !inV x xs else inV x xs)) H
theorem op_in_seq : OpR X (compareOp .In) (rIn X.K false) := by
 intro pins s σ H x y v u Q I rx ry h
 obtain ⟨p, xs, rfl, hq, fx, fs, q⟩ := h
 cases ry
 rcases hq with hq | hq
 ·obtain ⟨its, r, pl, hz⟩ := I.list hq
  refine SeqAt.in_listAt (eqU x) pl.isList (fun w hw => mem_eqAt rx fx r fs w (by simpa using hw)) ⟨.bl _, H, I, rfl, ?_⟩
  rw [show its.toArray.any (eqU x) = its.any (eqU x) by simp, any_eqU r fs]
  exact q
 ·obtain ⟨its, r, pl, hz⟩ := I.tuple hq
  refine SeqAt.in_tupleAt (eqU x) pl (fun w hw => mem_eqAt rx fx r fs w (by simpa using hw)) ⟨.bl _, H, I, rfl, ?_⟩
  rw [show its.toArray.any (eqU x) = its.any (eqU x) by simp, any_eqU r fs]
  exact q
theorem op_notIn_seq : OpR X (compareOp .NotIn) (rIn X.K true) := by
 intro pins s σ H x y v u Q I rx ry h
 obtain ⟨p, xs, rfl, hq, fx, fs, q⟩ := h
 cases ry
 rcases hq with hq | hq
 ·obtain ⟨its, r, pl, hz⟩ := I.list hq
  refine SeqAt.notIn_listAt (eqU x) pl.isList (fun w hw => mem_eqAt rx fx r fs w (by simpa using hw)) ⟨.bl _, H, I, rfl, ?_⟩
  rw [show its.toArray.any (eqU x) = its.any (eqU x) by simp, any_eqU r fs]
  exact q
 ·obtain ⟨its, r, pl, hz⟩ := I.tuple hq
  refine SeqAt.notIn_tupleAt (eqU x) pl (fun w hw => mem_eqAt rx fx r fs w (by simpa using hw)) ⟨.bl _, H, I, rfl, ?_⟩
  rw [show its.toArray.any (eqU x) = its.any (eqU x) by simp, any_eqU r fs]
  exact q
theorem call_len_seq : CallR X (.builtin "len") (fun xs H Q => ∃ p ys, xs = [.ref p] /\ (SqL X.K H p ys ∨ SqT X.K H p ys) /\ Q (.int ys.length) H) := by
 intro pins s σ H xs us Q I r h
 obtain ⟨p, ys, rfl, hq, q⟩ := h
 obtain ⟨u, rfl, rx⟩ := vals1 r
 cases rx
 have hn := line63
 rcases hq with hq | hq
 ·obtain ⟨its, r', pl, hz⟩ := I.list hq
  have hlen := r'.length
  exact Calls.call_len_list pl.isList (by simp only [List.size_toArray] <;> omega) ⟨.int ys.length, H, I.tok _, ⟨s.toks + 1, by rw [List.size_toArray, hlen]⟩, q⟩
 ·obtain ⟨its, r', pl, hz⟩ := I.tuple hq
  have hlen := r'.length
  exact len_tuple pl (by simp only [List.size_toArray] <;> omega) ⟨.int ys.length, H, I.tok _, ⟨s.toks + 1, by rw [List.size_toArray, hlen]⟩, q⟩
theorem call_list_of : CallR X (.type "list") (fun xs H Q => ∃ p ys, xs = [.ref p] /\ (SqL X.K H p ys ∨ SqT X.K H p ys) /\ ∀ l, H l = none -> Q (.ref l) (upd H l (.lst ys))) := by
 intro pins s σ H xs us Q I r h
 obtain ⟨p, ys, rfl, hq, q⟩ := h
 obtain ⟨u, rfl, rx⟩ := vals1 r
 cases rx
 have fin : ∀ (its : List Value), Vals ys its -> ys.length <= sizeLine -> ∀ (h' : Heap) (c' : Nat), (∀ b o', s.heap.get? b = some o' -> h'.get? b = some o') ->
   h'.get? s.heap.objs.size = some { cls := .type "list", dict := none, data := .seq its.toArray c', slots := #[] } -> EP X pins σ Q (.ref s.heap.objs.size) { s with heap := h' } := fun its r' hz h' c' kp e =>
  ⟨.ref s.heap.objs.size, _, I.laid (t' := s.toks) kp (Nat.le_refl _) (show ObjOk X.prog X.w _ h' _ (.lst ys) from ⟨hz, its, c', r', e⟩), rfl, q _ (I.hok.fresh (Nat.le_refl _))⟩
 rcases hq with hq | hq
 ·obtain ⟨its, r', pl, hz⟩ := I.list hq
  have hlen := r'.length
  obtain ⟨o, ho, hc, n, hd⟩ := pl.isList
  exact call_list_seq p (.inl rfl) ho hc hd (fun h' c' kp e => fin its r' hz h' c' kp e) (by simp only [List.size_toArray] <;> omega)
 ·obtain ⟨its, r', pl, hz⟩ := I.tuple hq
  have hlen := r'.length
  obtain ⟨o, ho, hc, n, hd⟩ := pl
  exact call_list_seq p (.inr rfl) ho hc hd (fun h' c' kp e => fin its r' hz h' c' kp e) (by simp only [List.size_toArray] <;> omega)
theorem call_tuple_of : CallR X (.type "tuple") (fun xs H Q => ∃ p ys, xs = [.ref p] /\ ((SqL X.K H p ys /\ ∀ l, H l = none -> Q (.ref l) (upd H l (.tup ys))) ∨ (SqT X.K H p ys /\ Q (.ref p) H))) := by
 intro pins s σ H xs us Q I r h
 obtain ⟨p, ys, rfl, h⟩ := h
 obtain ⟨u, rfl, rx⟩ := vals1 r
 cases rx
 rcases h with ⟨hq, q⟩ | ⟨hq, q⟩
 ·obtain ⟨its, r', pl, hz⟩ := I.list hq
  have hlen := r'.length
  refine call_tuple_list pl.isList (fun h' kp => ?_) (by simp only [List.size_toArray] <;> omega)
  have I1 : Inv X pins σ H { s with heap := h' } := I.kept (t' := s.toks) kp
  have I2 : Inv X pins σ (upd H h'.objs.size (.tup ys)) { s with heap := h'.push { cls := .type "tuple", data := .seq its.toArray } } :=
   I1.laid (t' := s.toks) (fun b o e => Heap.get?_push_of_some _ e) (Nat.le_refl _) (show ObjOk X.prog X.w _ _ _ (.tup ys) from ⟨hz, its, r', IsTup.new _ _⟩)
  exact ⟨.ref h'.objs.size, _, I2, rfl, q _ (I1.hok.fresh (Nat.le_refl _))⟩
 ·obtain ⟨its, r', pl, hz⟩ := I.tuple hq
  exact call_tuple_same pl ⟨.ref p, H, I, rfl, q⟩
def tyV (K : W.Frag) (T : String) (x : V) (H : Hp) : Prop := match x with
 | .str _ => T = "str"
 | .int _ => T = "int"
 | .ref p => (T = "list" /\ ∃ xs, SqL K H p xs) ∨ (T = "tuple" /\ ∃ o, K.lookup p = some o /\ o.cls = .type "tuple" /\ o.dict = none) ∨
   (T = "dict" /\ ((∃ kvs, H p = some (.dK kvs)) ∨ ∃ kvs, H p = some (.dT kvs))) ∨ (T = "set" /\ ∃ S n, H p = some (.set S n))
 | _ => False
theorem tyV_is {pins : List (Addr × Obj)} {σ : St} {H : Hp} {s : Shared} {T : String} {x : V} {v : Value} (I : Inv X pins σ H s) (r : RelV x v) (ty : tyV X.K T x H) :
  s.TypeIs v T /\ ∀ a, v = .ref a -> ∃ ob, s.heap.get? a = some ob /\ ob.dict = none := by
 cases x with
 | str z =>
  obtain ⟨t, rfl⟩ := r
  cases (show T = "str" from ty)
  exact ⟨typeIs_str s z t, fun _ e => nomatch e⟩
 | int i =>
  obtain ⟨t, rfl⟩ := r
  cases (show T = "int" from ty)
  exact ⟨typeIs_int s i t, fun _ e => nomatch e⟩
 | ref p =>
  cases r
  rcases ty with ⟨rfl, xs, hq⟩ | ⟨rfl, o, hk, hc, hd⟩ | ⟨rfl, hk⟩ | ⟨rfl, S, n, hk⟩
  ·obtain ⟨its, _, pl, _⟩ := I.list hq
   refine ⟨pl.isList.typeIs, fun a e => ?_⟩
   cases e
   obtain ⟨o, n, e, c, hd, _⟩ := pl
   exact ⟨o, e, hd⟩
  ·refine ⟨⟨o, I.kIn p o hk, hc⟩, fun a e => ?_⟩
   cases e
   exact ⟨o, I.kIn _ o hk, hd⟩
  ·have z : ∃ o, s.heap.get? p = some o /\ o.ExactDict := by
    rcases hk with ⟨kvs, hk⟩ | ⟨kvs, hk⟩
    ·obtain ⟨_, _, _, _, o, _, _, e, ex, _⟩ := I.hok p _ hk
     exact ⟨o, e, ex⟩
    ·obtain ⟨_, _, _, _, o, _, _, e, ex, _⟩ := I.hok p _ hk
     exact ⟨o, e, ex⟩
   obtain ⟨o, e, ex⟩ := z
   refine ⟨⟨o, e, ex.1⟩, fun a e2 => ?_⟩
   cases e2
   exact ⟨o, e, ex.2.1⟩
  ·obtain ⟨o, _, _, _, e, ex, _⟩ := I.hok p _ hk
   refine ⟨⟨o, e, ex.1⟩, fun a e2 => ?_⟩
   cases e2
   exact ⟨o, e, ex.2.1⟩
 | _ => exact False.elim ty
def tBM0 (K : W.Frag) (T : String) (r : V -> List V -> Hp -> VK -> Prop) (to : TE) : TE := fun σ H Q => to σ H fun x H1 => tyV K T x H1 /\ r x [] H1 Q
def tBM (K : W.Frag) (T : String) (r : V -> List V -> Hp -> VK -> Prop) (to : TE) (t : TA) : TE := fun σ H Q => to σ H fun x H1 => tyV K T x H1 /\ t σ H1 fun xs H2 => r x xs H2 Q
variable {o e : Expr} {es : List Expr} {to : TE} {t : TA} {name : Str} {apos cpos : Pos} {T id : String} {r : V -> List V -> Hp -> VK -> Prop}
theorem pe_bm0 (pa : PlainAttrs T) (slot : Slot T name id) (hty : typeOf (.builtin id) = pure (.type "method_descriptor")) (hm : MtR X id r) (ho : PE X o to)
  (hbase : attributeBase o name X.env (eval o X.env) = eval o X.env := by rfl) (hline : (apos.endLine == cpos.line) = true := by rfl) : PE X (.Call (.Attribute o name apos) [] [] cpos) (tBM0 X.K T r to) := by
 intro pins s σ H Q I h
 refine wpAny_Call_method0_late hbase hline (thn (ho pins s σ H _ I h) fun v s1 ⟨x, H1, I1, r1, ty, q1⟩ => ?_)
 obtain ⟨h1, h2⟩ := tyV_is I1 r1 ty
 exact ⟨T, id, pa, slot, hty, h1, h2, Calls.callWith_builtin rfl (PySem.evalArgs_none (hm pins s1 σ H1 x [] v [] Q I1 r1 .nil q1))⟩
theorem pe_bm (pa : PlainAttrs T) (slot : Slot T name id) (hty : typeOf (.builtin id) = pure (.type "method_descriptor")) (hm : MtR X id r) (ho : PE X o to) (ha : PA X (e :: es) t)
  (hbase : attributeBase o name X.env (eval o X.env) = eval o X.env := by rfl)
  (hfew : ((backTo cpos (starEach (e :: es) X.env)).all (fun x => !x.1) && (backToKw cpos (keywordEach [] X.env)).all (fun x => x.1.isSome)
   && decide ((e :: es).length + ([] : List Keyword).length + (if ([] : List Keyword).isEmpty then 0 else 1) < 30)) = true := by rfl)
  (hline : (apos.endLine == cpos.line) = true := by rfl) (hs : starEach (e :: es) X.env = (false, eval e X.env) :: starEach es X.env := by rfl) (hplain : (backTo cpos (starEach es X.env)).any (·.1) = false := by rfl) :
  PE X (.Call (.Attribute o name apos) (e :: es) [] cpos) (tBM X.K T r to t) := by
 intro pins s σ H Q I h
 refine wpAny_Call_method_late hbase hfew hline rfl (thn (ho pins s σ H _ I h) fun v s1 ⟨x, H1, I1, r1, ty, q1⟩ => ?_)
 obtain ⟨h1, h2⟩ := tyV_is I1 r1 ty
 refine ⟨T, id, pa, slot, hty, h1, h2, ?_⟩
 have hA := ha cpos pins s1 σ H1 _ I1 q1
 rw [hs] at hA ⊢
 refine Calls.callWith_builtin (by show (false || (backTo cpos (starEach es X.env)).any (·.1)) = false; rw [hplain] <;> rfl) (Calls.evalArgs_plain ?_)
 exact thn hA fun us s2 ⟨vs, H2, I2, r2, q2⟩ => hm pins s2 σ H2 x vs v us Q I2 r1 r2 q2
end
end L2
namespace L2
open PySem PySem.Spec PyProof.Rows
def MtM (X : Cx) (id : String) (r : V -> List V -> Hp -> VK -> Prop) : Prop :=
 ∀ (pins : List (Addr × Obj)) (s : Shared) (σ : St) (H : Hp) (x : V) (xs : List V) (v : Value) (us : List Value) (Q : VK), Inv X pins σ H s -> RelV x v -> Vals xs us -> r x xs H Q ->
  wpAny (model X.prog X.w) X.A (call (.builtin id) (v :: us)) (EP X pins σ Q) X.xe s
theorem Vals.one : ∀ {x : V} {us : List Value}, Vals [x] us -> ∃ u, us = [u] /\ RelV x u
 | _, _, .cons r .nil => ⟨_, rfl, r⟩
theorem Vals.zero : ∀ {us : List Value}, Vals [] us -> us = []
 | _, .nil => rfl
theorem Vals.dropLast {xs : List V} {us : List Value} (h : Vals xs us) : Vals xs.dropLast us.dropLast := by
 induction h with
 | nil => exact .nil
 | cons r t ih =>
  cases t with
  | nil => exact .nil
  | cons q t' => exact .cons r ih
theorem Vals.eraseIdx : ∀ {xs : List V} {us : List Value} (i : Nat), Vals xs us -> Vals (xs.eraseIdx i) (us.eraseIdx i)
 | _, _, _, .nil => .nil
 | _, _, 0, .cons _ t => t
 | _, _, i + 1, .cons r t => .cons r (Vals.eraseIdx i t)
theorem Vals.reverse {xs : List V} {us : List Value} (h : Vals xs us) : Vals xs.reverse us.reverse := by
 induction h with
 | nil => exact .nil
 | cons r t ih => rw [List.reverse_cons, List.reverse_cons]; exact Vals.append ih (.cons r .nil)
theorem erase_last {α : Type} (l : List α) : l.eraseIdx (l.length - 1) = l.dropLast := by
 induction l with
 | nil => rfl
 | cons a r ih =>
  cases r with
  | nil => rfl
  | cons b r =>
   have e : (a :: b :: r).length - 1 = ((b :: r).length - 1) + 1 := by
    have h1 : (a :: b :: r).length = r.length + 2 := rfl
    have h2 : (b :: r).length = r.length + 1 := rfl
    omega
   rw [e, List.eraseIdx_cons_succ, ih]
   all_goals rfl
theorem len_erase {α : Type} : ∀ (l : List α) (i : Nat), (l.eraseIdx i).length <= l.length
 | [], _ => Nat.le_refl _
 | _ :: _, 0 => Nat.le_succ _
 | _ :: r, i + 1 => Nat.succ_le_succ (len_erase r i)
section
variable {X : Cx} {pins : List (Addr × Obj)} {σ : St} {H : Hp} {s : Shared} {l b : Addr} {xs ys zs : List V}
theorem Inv.lset {its its' : List Value} {n : Nat} {f : Array Value -> Array Value} {t' : Nat} (I : Inv X pins σ H s) (hH : H l = some (.lst xs))
  (e : s.heap.get? l = some { cls := .type "list", data := .seq its.toArray n }) (hf : f its.toArray = its'.toArray) (hv : Vals ys its') (hz : ys.length <= sizeLine) :
  Inv X pins σ (upd H l (.lst ys)) { s with heap := s.heap.update l (Obj.mapSeq f), toks := t' } := by
 have q := PySem.IsL.update e f
 rw [hf] at q
 refine I.write (x := l) (e := l) (by rw [hH]; exact trivial) (.inl rfl) (fun b' u hb hu => (Heap.get?_update_other s.heap (Obj.mapSeq f) (Ne.symm hb)).trans hu) ⟨_, q⟩ ?_
 exact ⟨hz, its', _, hv, q⟩
theorem Inv.lnew {its : List Value} {t' : Nat} (I : Inv X pins σ H s) (hv : Vals ys its) (hz : ys.length <= sizeLine) :
  Inv X pins σ (upd H s.heap.objs.size (.lst ys)) { s with heap := s.heap.push { cls := .type "list", data := .seq its.toArray }, toks := t' } :=
 I.laid (fun _ _ q => Heap.get?_push_of_some _ q) (Nat.le_refl _) ⟨hz, its, 0, hv, Heap.get?_push_size _ rfl⟩
theorem Inv.fresh (I : Inv X pins σ H s) : H s.heap.objs.size = none := I.hok.fresh (Nat.le_refl _)
theorem Inv.lstM (I : Inv X pins σ H s) (hH : H l = some (.lst xs)) : xs.length <= sizeLine /\ ∃ (its : List Value) (n : Nat), Vals xs its /\ xs.length = its.length /\ s.heap.get? l = some { cls := .type "list", data := .seq its.toArray n } := by
 obtain ⟨z, its, n, r, e⟩ := I.hok l _ hH
 exact ⟨z, its, n, r, r.length, e⟩
theorem notLongL {n : Nat} (h : n <= sizeLine) : Builtin.List.listTooLong n = false := by
 unfold Builtin.List.listTooLong
 exact decide_eq_false (by omega)
end
section
variable {X : Cx}
def rAppend : V -> List V -> Hp -> VK -> Prop := fun x vs H Q => ∃ l xs y, x = .ref l /\ vs = [y] /\ H l = some (.lst xs) /\ xs.length < sizeLine /\ Q .non (upd H l (.lst (xs ++ [y])))
theorem mt_append : MtM X "list.append" rAppend := by
 intro pins s σ H x vs v us Q I rx rv h
 obtain ⟨l, xs, y, rfl, rfl, hH, hz, q⟩ := h
 cases rx
 obtain ⟨u, rfl, ru⟩ := rv.one
 obtain ⟨z, its, n, r, hl, e⟩ := I.lstM hH
 refine call_meets F.slot_list_append ⟨_, e, rfl⟩ F.entry_list_append (F.args_list_append_2 _ _) (PySem.list_append l its.toArray n u (by rw [List.size_toArray]; omega)) ⟨e, ?_⟩
 refine ⟨.non, _, I.lset (its' := its ++ [u]) hH e (by simp) (r.append (.cons ru .nil)) ?_, rfl, q⟩
 rw [List.length_append, List.length_singleton]
 omega
def rExtend : V -> List V -> Hp -> VK -> Prop := fun x vs H Q => ∃ l b xs zs, x = .ref l /\ vs = [.ref b] /\ H l = some (.lst xs) /\ H b = some (.lst zs) /\ xs.length + zs.length <= sizeLine /\ Q .non (upd H l (.lst (xs ++ zs)))
theorem mt_extend : MtM X "list.extend" rExtend := by
 intro pins s σ H x vs v us Q I rx rv h
 obtain ⟨l, b, xs, zs, rfl, rfl, hH, hB, hz, q⟩ := h
 cases rx
 obtain ⟨u, rfl, ru⟩ := rv.one
 cases ru
 obtain ⟨z, its, n, r, hl, e⟩ := I.lstM hH
 obtain ⟨z2, its2, n2, r2, hl2, e2⟩ := I.lstM hB
 have hsz : its.toArray.size + its2.toArray.size <= sizeLine := by rw [List.size_toArray, List.size_toArray]; omega
 have hlong : ¬ (!its.toArray.isEmpty && Builtin.List.listTooLong (its.toArray.size + its2.toArray.size)) = true := by
  rw [notLongL hsz, Bool.and_false]
  exact Bool.false_ne_true
 refine call_meets F.slot_list_extend ⟨_, e, rfl⟩ F.entry_list_extend (F.args_list_extend_2 _ _)
  (AutoSeq1.list_extend_list_list_0 l its.toArray n b its2.toArray n2 hlong (by rw [List.size_toArray]; omega) (by omega)) ⟨e, e2, ?_⟩
 refine ⟨.non, _, I.lset (its' := its ++ its2) hH e (by simp) (r.append r2) ?_, rfl, q⟩
 rw [List.length_append]
 omega
def rPop : V -> List V -> Hp -> VK -> Prop := fun x vs H Q => ∃ l xs y, x = .ref l /\ vs = [] /\ H l = some (.lst xs) /\ xs[xs.length - 1]? = some y /\ Q y (upd H l (.lst xs.dropLast))
theorem mt_pop : MtM X "list.pop" rPop := by
 intro pins s σ H x vs v us Q I rx rv h
 obtain ⟨l, xs, y, rfl, rfl, hH, hy, q⟩ := h
 cases rx
 have hus := rv.zero
 subst hus
 obtain ⟨z, its, n, r, hl, e⟩ := I.lstM hH
 obtain ⟨u, hu, ru⟩ := r.get hy
 have hy' : its.toArray[its.toArray.size - 1]? = some u := by
  show its.toArray[its.length - 1]? = some u
  rw [<- Array.getElem?_toList, <- hl]
  exact hu
 refine call_meets F.slot_list_pop ⟨_, e, rfl⟩ F.entry_list_pop (F.args_list_pop_1 _) (MeetsSeq.list_pop_last l its.toArray n u hy' (by rw [List.size_toArray]; omega)) ⟨e, ?_⟩
 refine ⟨y, _, I.lset (its' := its.dropLast) hH e ?_ r.dropLast ?_, ru, q⟩
 ·show its.toArray.eraseIdxIfInBounds (its.toArray.size - 1) = its.dropLast.toArray
  rw [List.size_toArray, List.eraseIdxIfInBounds_toArray, erase_last]
 ·rw [List.length_dropLast]
  omega
def rPopAt : V -> List V -> Hp -> VK -> Prop := fun x vs H Q => ∃ l xs i k y, x = .ref l /\ vs = [.int i] /\ H l = some (.lst xs) /\ -(2 ^ 63) <= i /\ i < 2 ^ 63 /\ seqIndex? i xs.length = some k /\ xs[k]? = some y /\ Q y (upd H l (.lst (xs.eraseIdx k)))
theorem mt_popAt : MtM X "list.pop" rPopAt := by
 intro pins s σ H x vs v us Q I rx rv h
 obtain ⟨l, xs, i, k, y, rfl, rfl, hH, h1, h2, hk, hy, q⟩ := h
 cases rx
 obtain ⟨u, rfl, ru⟩ := rv.one
 obtain ⟨t, rfl⟩ := ru
 obtain ⟨z, its, n, r, hl, e⟩ := I.lstM hH
 obtain ⟨w, hw, rw'⟩ := r.get hy
 refine call_meets F.slot_list_pop ⟨_, e, rfl⟩ F.entry_list_pop (F.args_list_pop_2 _ _)
  (MeetsSeq.list_pop_at l its.toArray n i t k w (fitsIndex_both h1 h2) (by rw [List.size_toArray, <- hl]; exact hk) (by rw [<- Array.getElem?_toList]; exact hw) (by rw [List.size_toArray]; omega)) ⟨e, ?_⟩
 refine ⟨y, _, I.lset (its' := its.eraseIdx k) hH e ?_ (r.eraseIdx k) ?_, rw', q⟩
 ·show its.toArray.eraseIdxIfInBounds k = (its.eraseIdx k).toArray
  rw [List.eraseIdxIfInBounds_toArray]
 ·have := len_erase xs k
  omega
def rCat : R2 := fun x y H Q => ∃ l b xs zs, x = .ref l /\ y = .ref b /\ H l = some (.lst xs) /\ H b = some (.lst zs) /\ xs.length + zs.length <= sizeLine /\ ∀ p, H p = none -> Q (.ref p) (upd H p (.lst (xs ++ zs)))
theorem op_cat : OpR X (binaryOp .Add) rCat := by
 intro pins s σ H x y v u Q I rx ry h
 obtain ⟨l, b, xs, zs, rfl, rfl, hH, hB, hz, q⟩ := h
 cases rx
 cases ry
 obtain ⟨z, its, n, r, hl, e⟩ := I.lstM hH
 obtain ⟨z2, its2, n2, r2, hl2, e2⟩ := I.lstM hB
 refine PySem.P.add_list e e2 ?_ (by rw [List.size_toArray, List.size_toArray]; omega)
 have ea : its.toArray ++ its2.toArray = (its ++ its2).toArray := by simp
 rw [ea]
 exact ⟨.ref _, _, I.lnew (t' := s.toks) (r.append r2) (by rw [List.length_append]; omega), rfl, q _ I.fresh⟩
end
end L2
namespace L2
open PySem PySem.Spec PyProof.Rows
theorem Vals.ints : ∀ {ns : List Int} {us : List Value}, Vals (ns.map V.int) us -> IntsAre us ns
 | [], us, h => by
  rw [List.map_nil] at h
  cases h
  exact IntsAre.nil
 | n :: ns, us, h => by
  rw [List.map_cons] at h
  cases h with
  | cons r t =>
   obtain ⟨k, rfl⟩ := r
   exact IntsAre.cons n k (Vals.ints t)
theorem Vals.bls : ∀ {bs : List Bool} {us : List Value}, Vals (bs.map V.bl) us -> us = bs.map Value.bool
 | [], us, h => by
  rw [List.map_nil] at h
  cases h
  rfl
 | b :: bs, us, h => by
  rw [List.map_cons] at h
  cases h with
  | cons r t =>
   cases r
   rw [Vals.bls t, List.map_cons]
theorem Vals.ref1 {a : Addr} {us : List Value} (r : Vals [V.ref a] us) : us = [Value.ref a] := by
 cases r with
 | cons r t =>
  cases t
  cases r
  rfl
section
variable {prog : Program} {w : World} {A : Around} {E : Value -> Shared -> Prop} {s : Shared} {l : Addr} {its : List Value} {ns : List Int} {Q : Value -> Shared -> Prop}
theorem sum_raw (hh : A.handled = none) (hl : s.heap.IsList l its.toArray) (hi : IntsAre its ns)
  (h : ∀ h' tk t', (∀ b o, s.heap.get? b = some o -> h'.get? b = some o) -> Q (.int ns.sum t') { s with heap := h', toks := tk }) : wpAny (model prog w) A (call (.builtin "sum") [.ref l]) Q E s := by
 obtain ⟨xs, e⟩ := hi.allInts.items
 have hn : numsOf (intItems xs).toList = ns := by rw [<- e]; exact hi.numsOf
 rw [nums_intItems] at hn
 rw [e] at hl
 refine PySem.sum_intListG hh hl fun h' tk t' hk => ?_
 have := h h' tk t' hk
 rw [preSum_eq, List.take_of_length_le (by simp), hn]; exact this
end
section
variable {X : Cx}
def rSum (K : W.Frag) : List V -> Hp -> VK -> Prop := fun vs H Q => ∃ (a : Addr) (ns : List Int), vs = [V.ref a] /\ SqL K H a (ns.map V.int) /\ Q (.int ns.sum) H
theorem cr_sum (hc : X.calm = true) : CallR X (.builtin "sum") (rSum X.K) := by
 intro pins s σ H vs us Q I r h
 obtain ⟨a, ns, rfl, hs, q⟩ := h
 obtain ⟨its, rv, hl, _⟩ := I.list hs
 rw [Vals.ref1 r]
 exact sum_raw (I.ok.hd hc) hl.isList rv.ints fun h' tk t' hk => ⟨.int _, H, I.kept hk, ⟨_, rfl⟩, q⟩
end
theorem iter_any {prog : Program} {w : World} {A : Around} {E : Value -> Shared -> Prop} {s : Shared} {l : Addr} {items : Array Value} {Q : Value -> Shared -> Prop} (hl : s.heap.IsList l items)
  (h : ∀ s₂ : Shared, s₂ = { s with heap := s.heap.push { cls := .type "list_iterator", data := .fields #[.ref l, .int 0 0] } } ->
   (s₂.heap.IsListIter s.heap.objs.size l 0 /\ s₂.heap.IsList l items) -> l ≠ s.heap.objs.size -> Q (.ref s.heap.objs.size) s₂) : wpAny (model prog w) A (pyIter (.ref l)) Q E s := by
 have hlt : l < s.heap.objs.size := by obtain ⟨_, e, _⟩ := hl; exact Heap.lt_size e
 exact wpAny_pyIter_list hl (h _ rfl ⟨⟨_, Heap.get?_push_size _ rfl, rfl, rfl⟩, hl.push _⟩ (Nat.ne_of_lt hlt))
theorem truth_bools {prog : Program} {w : World} {A : Around} {bs : List Bool} {its : List Value} (e : its = bs.map Value.bool) :
  TruthOf prog w A (fun i v => its.toArray[i]? = some v) (fun i => bs.getD i false) := fun i v s Q E hv hq => by
 have hv' : its[i]? = some v := by simpa using hv
 rw [e, List.getElem?_map] at hv'
 obtain ⟨b, hb, rfl⟩ := Option.map_eq_some_iff.mp hv'
 have hg : bs.getD i false = b := by rw [List.getD_eq_getElem?_getD, hb] <;> rfl
 have hq' : Q (bs.getD i false) s := hq
 rw [hg] at hq'
 exact wpAny_truthy_bool hq'
theorem any_range : ∀ bs : List Bool, (List.range bs.length).any (fun i => bs.getD i false) = bs.any id
 | [] => rfl
 | b :: bs => by
  rw [List.length_cons, List.range_succ_eq_map, List.any_cons, List.any_map, List.any_cons, <- any_range bs]
  all_goals rfl
theorem all_range : ∀ bs : List Bool, (List.range bs.length).all (fun i => bs.getD i false) = bs.all id
 | [] => rfl
 | b :: bs => by
  rw [List.length_cons, List.range_succ_eq_map, List.all_cons, List.all_map, List.all_cons, <- all_range bs]
  all_goals rfl
section
variable {X : Cx}
def rAny (K : W.Frag) : List V -> Hp -> VK -> Prop := fun vs H Q => ∃ (a : Addr) (bs : List Bool), vs = [V.ref a] /\ SqL K H a (bs.map V.bl) /\ Q (.bl (bs.any id)) H
def rAll (K : W.Frag) : List V -> Hp -> VK -> Prop := fun vs H Q => ∃ (a : Addr) (bs : List Bool), vs = [V.ref a] /\ SqL K H a (bs.map V.bl) /\ Q (.bl (bs.all id)) H
theorem cr_any (hc : X.calm = true) : CallR X (.builtin "any") (rAny X.K) := by
 intro pins s σ H vs us Q I r h
 obtain ⟨a, bs, rfl, hs, q⟩ := h
 obtain ⟨its, rv, hl, _⟩ := I.list hs
 rw [Vals.ref1 r]
 have hb := rv.bls
 refine call_any_walk (iter_any hl.isList fun s₂ e2 st hne => ?_)
 subst e2
 refine ⟨_, _, _, _, _, _, _, rfl, Walks.list (A := X.A.in1) (I.ok.hd hc) _ a hne its.toArray, st, truth_bools hb, fun h' tk hk => ?_⟩
 refine ⟨.bl _, H, I.kept fun b o eo => hk b o (fun hmem => ?_) (Heap.get?_push_of_some _ eo), ?_, q⟩
 ·rcases List.mem_cons.mp hmem with e1 | hmem
  ·exact absurd (e1 ▸ Heap.lt_size eo) (Nat.lt_irrefl _)
  ·cases hmem
 ·show Value.bool _ = Value.bool _
  rw [<- any_range, hb, List.size_toArray, List.length_map]
theorem cr_all (hc : X.calm = true) : CallR X (.builtin "all") (rAll X.K) := by
 intro pins s σ H vs us Q I r h
 obtain ⟨a, bs, rfl, hs, q⟩ := h
 obtain ⟨its, rv, hl, _⟩ := I.list hs
 rw [Vals.ref1 r]
 have hb := rv.bls
 refine call_all_walk (iter_any hl.isList fun s₂ e2 st hne => ?_)
 subst e2
 refine ⟨_, _, _, _, _, _, _, rfl, Walks.list (A := X.A.in1) (I.ok.hd hc) _ a hne its.toArray, st, truth_bools hb, fun h' tk hk => ?_⟩
 refine ⟨.bl _, H, I.kept fun b o eo => hk b o (fun hmem => ?_) (Heap.get?_push_of_some _ eo), ?_, q⟩
 ·rcases List.mem_cons.mp hmem with e1 | hmem
  ·exact absurd (e1 ▸ Heap.lt_size eo) (Nat.lt_irrefl _)
  ·cases hmem
 ·show Value.bool _ = Value.bool _
  rw [<- all_range, hb, List.size_toArray, List.length_map]
end
end L2
namespace L2
open PySem PySem.Spec PyProof.Rows
abbrev CellAt (h : Heap) (c : Addr) (v : Option Value) : Prop := h.IsCell c v
def relS (scope sc : Scope) : Scope :=
 { scope with names := scope.names.map fun (n, k) => if (k == .free && sc.kind == .function && sc.names.lookup n == some .cell) then (n, .cell) else (n, k) }
def cloFrom (cells : List (Str × Addr)) : List (Str × NameKind) -> List (Str × Addr) -> List (Str × Addr)
 | [], acc => acc
 | (n, k) :: r, acc => if k == .free then cloFrom cells r ((n, (cells.lookup n).getD 0) :: acc) else cloFrom cells r acc
theorem closure_loop (env : Env) (f : Str × NameKind -> List (Str × Addr) -> Sem (ForInStep (List (Str × Addr))))
  (hf : ∀ n k c, f (n, k) c = if k == .free then (do let a <- cellOf env n; pure (.yield ((n, a) :: c))) else pure (.yield c)) :
  ∀ (names : List (Str × NameKind)) (acc : List (Str × Addr)), (∀ y ∈ names, y.2 = .free -> ∃ c, env.cells.lookup y.1 = some c) -> forIn names acc f = pure (cloFrom env.cells names acc)
 | [], acc, _ => by rw [List.forIn_nil]; rfl
 | (n, k) :: r, acc, h => by
  rw [List.forIn_cons, hf]
  have ih := fun acc => closure_loop env f hf r acc fun y hy => h y (List.mem_cons_of_mem _ hy)
  unfold cloFrom
  by_cases hk : (k == NameKind.free) = true
  ·rw [if_pos hk, if_pos hk]
   obtain ⟨c, hc⟩ := h (n, k) List.mem_cons_self (by simpa using hk)
   have e : cellOf env n = pure c := by unfold cellOf; rw [hc]
   rw [e]
   have e2 : (env.cells.lookup n).getD 0 = c := by rw [hc]; rfl
   rw [e2]
   exact ih _
  ·rw [if_neg hk, if_neg hk]
   exact ih _
theorem closure_ok {scope : Scope} {env : Env} (h : ∀ y ∈ scope.names, y.2 = .free -> ∃ c, env.cells.lookup y.1 = some c) : closureFor scope env = pure (cloFrom env.cells scope.names []) := by
 simp only [closureFor]
 rw [closure_loop env _ (fun n k c => rfl) scope.names [] h]
 rfl
theorem mem_lookup {α : Type} : ∀ {l : List (Str × α)} {n : Str} {c : α}, (n, c) ∈ l -> ∃ c', l.lookup n = some c'
 | (k, v) :: r, n, c, h => by
  rw [List.lookup_cons]
  cases hb : n == k with
  | true => exact ⟨_, rfl⟩
  | false =>
   rcases List.mem_cons.mp h with e | h
   ·cases e; simp at hb
   ·exact mem_lookup h
theorem cloFrom_mem {cells : List (Str × Addr)} : ∀ {names : List (Str × NameKind)} {acc : List (Str × Addr)} {n : Str} {c : Addr}, (n, c) ∈ cloFrom cells names acc -> (n, c) ∈ acc ∨ ((n, .free) ∈ names /\ c = (cells.lookup n).getD 0)
 | [], _, _, _, h => .inl h
 | (m, k) :: r, acc, n, c, h => by
  unfold cloFrom at h
  split at h
  ·rename_i hk
   have hk : k = .free := by simpa using hk
   rcases cloFrom_mem h with h | ⟨h1, h2⟩
   ·rcases List.mem_cons.mp h with e | h
    ·cases e; exact .inr ⟨hk ▸ List.mem_cons_self, rfl⟩
    ·exact .inl h
   ·exact .inr ⟨List.mem_cons_of_mem _ h1, h2⟩
  ·rcases cloFrom_mem h with h | ⟨h1, h2⟩
   ·exact .inl h
   ·exact .inr ⟨List.mem_cons_of_mem _ h1, h2⟩
theorem cloFrom_acc {cells : List (Str × Addr)} : ∀ {names : List (Str × NameKind)} {acc : List (Str × Addr)} {p : Str × Addr}, p ∈ acc -> p ∈ cloFrom cells names acc
 | [], _, _, h => h
 | (m, k) :: r, acc, p, h => by
  unfold cloFrom
  split
  ·exact cloFrom_acc (List.mem_cons_of_mem _ h)
  ·exact cloFrom_acc h
theorem cloFrom_has {cells : List (Str × Addr)} : ∀ {names : List (Str × NameKind)} {acc : List (Str × Addr)} {n : Str}, (n, .free) ∈ names -> (n, (cells.lookup n).getD 0) ∈ cloFrom cells names acc
 | (m, k) :: r, acc, n, h => by
  unfold cloFrom
  rcases List.mem_cons.mp h with e | h
  ·cases e
   exact cloFrom_acc List.mem_cons_self
  ·split
   ·exact cloFrom_has h
   ·exact cloFrom_has h
theorem cells_mem : ∀ {names : List (Str × NameKind)} {h : Heap} {acc : List (Str × Addr)} {x : Str} {c : Addr}, (x, c) ∈ cellsFrom h.objs.size names acc ->
  (x, c) ∈ acc ∨ ((x, .cell) ∈ names /\ h.objs.size <= c /\ CellAt (pushCells h names) c none)
 | [], _, _, _, _, h => .inl h
 | (n, k) :: r, h, acc, x, c, hm => by
  unfold cellsFrom at hm
  unfold pushCells
  split at hm
  ·rename_i hk
   rw [if_pos hk]
   have hk : k = .cell := by simpa using hk
   rw [<- Heap.size_push h { cls := .type "cell", data := .cell none }] at hm
   rcases cells_mem hm with hm | ⟨h1, h2, h3⟩
   ·rcases List.mem_cons.mp hm with e | hm
    ·cases e
     exact .inr ⟨hk ▸ List.mem_cons_self, Nat.le_refl _, _, pushCells_keeps r _ _ _ (Heap.get?_push_size _ rfl), rfl⟩
    ·exact .inl hm
   ·rw [Heap.size_push] at h2
    exact .inr ⟨List.mem_cons_of_mem _ h1, Nat.le_of_succ_le h2, h3⟩
  ·rename_i hk
   rw [if_neg hk]
   rcases cells_mem hm with hm | ⟨h1, h2, h3⟩
   ·exact .inl hm
   ·exact .inr ⟨List.mem_cons_of_mem _ h1, h2, h3⟩
theorem cells_acc : ∀ {names : List (Str × NameKind)} {n : Nat} {acc : List (Str × Addr)} {p : Str × Addr}, p ∈ acc -> p ∈ cellsFrom n names acc
 | [], _, _, _, h => h
 | (m, k) :: r, n, acc, p, h => by
  unfold cellsFrom
  split
  ·exact cells_acc (List.mem_cons_of_mem _ h)
  ·exact cells_acc h
theorem cells_has : ∀ {names : List (Str × NameKind)} {n : Nat} {acc : List (Str × Addr)} {x : Str}, (x, .cell) ∈ names -> ∃ c, (x, c) ∈ cellsFrom n names acc
 | (m, k) :: r, n, acc, x, h => by
  unfold cellsFrom
  rcases List.mem_cons.mp h with e | h
  ·cases e
   exact ⟨n, cells_acc List.mem_cons_self⟩
  ·split
   ·exact cells_has h
   ·exact cells_has h
theorem cells_inj : ∀ {names : List (Str × NameKind)} {h : Heap} {acc : List (Str × Addr)} {x y : Str} {c : Addr}, (∀ p ∈ acc, p.2 < h.objs.size) -> (∀ x y c, (x, c) ∈ acc -> (y, c) ∈ acc -> x = y) ->
  (x, c) ∈ cellsFrom h.objs.size names acc -> (y, c) ∈ cellsFrom h.objs.size names acc -> x = y
 | [], _, _, _, _, _, _, hi, h1, h2 => hi _ _ _ h1 h2
 | (n, k) :: r, h, acc, x, y, c, hl, hi, h1, h2 => by
  unfold cellsFrom at h1 h2
  split at h1
  ·rename_i hk
   rw [if_pos hk] at h2
   rw [<- Heap.size_push h { cls := .type "cell", data := .cell none }] at h1 h2
   refine cells_inj (h := h.push _) (fun p hp => ?_) (fun x y c a b => ?_) h1 h2
   ·rw [Heap.size_push]
    rcases List.mem_cons.mp hp with rfl | hp
    ·exact Nat.lt_succ_self _
    ·exact Nat.lt_succ_of_lt (hl p hp)
   ·rcases List.mem_cons.mp a with e | a <;> rcases List.mem_cons.mp b with e' | b
    ·cases e; cases e'; rfl
    ·cases e; exact absurd (hl _ b) (Nat.lt_irrefl _)
    ·cases e'; exact absurd (hl _ a) (Nat.lt_irrefl _)
    ·exact hi _ _ _ a b
  ·rename_i hk
   rw [if_neg hk] at h2
   exact cells_inj hl hi h1 h2
theorem newEnv_comp {M : Model} {A : Around} {E : Value -> Shared -> Prop} {s : Shared} {scope : Scope} {globals : Addr} {closure : List (Str × Addr)} {qual : Str} {func : Option Addr} {code : Value} {around : Env} {builtins : Addr} {Q : Env -> Shared -> Prop}
  (h : Q (newEnv scope s.heap.objs.size globals (cellsFrom (s.heap.objs.size + 1) scope.names closure) qual func code (some around) builtins)
   { s with heap := pushCells (s.heap.push { cls := .type "dict", data := .dict #[] }) scope.names }) :
  wpAny M A (newFunctionEnv scope globals closure [] qual func code (some around) builtins) Q E s := by
 simp only [newFunctionEnv, Option.isSome_some, if_true]
 refine wpAny_bind (wpAny_alloc ?_)
 refine wpAny_bind (wpAny_layCells _ (fun n k c => rfl) scope.names closure _ _ ?_)
 rw [show ({ s with heap := s.heap.push { cls := .type "dict", data := .dict #[] } } : Shared).heap.objs.size = s.heap.objs.size + 1 from Heap.size_push ..]
 rw [List.forIn_nil]
 exact wpAny_bind (wpAny_pure (wpAny_pure h))
theorem lookup_relS {sc : Scope} : ∀ {names : List (Str × NameKind)} {x : Str} {k : NameKind},
  (names.map fun (n, k) => if (k == NameKind.free && sc.kind == .function && sc.names.lookup n == some .cell) then (n, NameKind.cell) else (n, k)).lookup x = some k ->
  ∃ k', names.lookup x = some k' /\ (k = k' ∨ (k' = .free /\ k = .cell))
 | [], _, _, h => by simp at h
 | (n, k₀) :: r, x, k, h => by
  have ih := @lookup_relS sc r x k
  have h' : List.lookup x ((if (k₀ == NameKind.free && sc.kind == .function && sc.names.lookup n == some .cell) = true then (n, NameKind.cell) else (n, k₀)) :: (r.map _)) = some k := h
  cases hx : x == n with
  | true =>
   simp only [List.lookup_cons, hx]
   by_cases hc : (k₀ == NameKind.free && sc.kind == .function && sc.names.lookup n == some .cell) = true
   ·rw [if_pos hc] at h'
    simp only [List.lookup_cons, hx] at h'
    cases h'
    simp only [Bool.and_eq_true, beq_iff_eq] at hc
    exact ⟨k₀, rfl, .inr ⟨hc.1.1, rfl⟩⟩
   ·rw [if_neg hc] at h'
    simp only [List.lookup_cons, hx] at h'
    cases h'
    exact ⟨_, rfl, .inl rfl⟩
  | false =>
   simp only [List.lookup_cons, hx]
   by_cases hc : (k₀ == NameKind.free && sc.kind == .function && sc.names.lookup n == some .cell) = true
   ·rw [if_pos hc] at h'
    simp only [List.lookup_cons, hx] at h'
    exact ih h'
   ·rw [if_neg hc] at h'
    simp only [List.lookup_cons, hx] at h'
    exact ih h'
structure BlkOk (N : List Str) (sc scope : Scope) (own : List (Str × Nat)) : Prop where
 kind : scope.kind = .function
 uniq : ∀ y ∈ scope.names, scope.names.lookup y.1 = some y.2
 ix : ∀ p ∈ own, N[p.2]? = some p.1
 free : ∀ y ∈ scope.names, y.2 = .free -> sc.names.lookup y.1 = some .cell ∨ sc.names.lookup y.1 = some .free
 own : ∀ y ∈ scope.names, y.2 = .local ∨ y.2 = .cell -> y.1 ∈ own.map (·.1) ∨ y.1 ∉ N
def wipe (σ : St) : List Nat -> St
 | [] => σ
 | v :: vs => (wipe σ vs).set v none
theorem wipe_length (σ : St) : ∀ vs : List Nat, (wipe σ vs).length = σ.length
 | [] => rfl
 | v :: vs => by unfold wipe; rw [List.length_set, wipe_length σ vs]
theorem wipe_some {σ : St} {i : Nat} {x : V} : ∀ {vs : List Nat}, (wipe σ vs)[i]? = some (some x) -> σ[i]? = some (some x) /\ i ∉ vs
 | [], h => ⟨h, by simp⟩
 | v :: vs, h => by
  unfold wipe at h
  by_cases hi : v = i
  ·subst hi
   by_cases hv : v < (wipe σ vs).length
   ·rw [List.getElem?_set_self hv] at h; cases h
   ·rw [List.getElem?_eq_none (by simpa using hv)] at h; cases h
  ·rw [List.getElem?_set_ne hi] at h
   obtain ⟨h1, h2⟩ := wipe_some h
   exact ⟨h1, by simp only [List.mem_cons, not_or]; exact ⟨fun e => hi e.symm, h2⟩⟩
abbrev Cx.blk (X : Cx) (s : Shared) (H : Hp) (scope : Scope) (cenv : Env) (fp : List Addr) : Cx := { X with s_0 := s, H_0 := H, env := cenv, outer := X.stack, ex := fp, fn := fun x => scope.names.lookup x == some .cell, pn := [], xe := fun _ _ => False }
section
variable {X : Cx} {pins : List (Addr × Obj)} {σ : St} {H : Hp} {s : Shared}
theorem block_start {scope : Scope} {own : List (Str × Nat)} {fp : List Addr} (I : Inv X pins σ H s) (ok : BlkOk X.N X.env.scope scope own) (hN : X.N.Nodup) (hfp : ∀ b ∈ fp, FpOk X pins H b /\ b < s.heap.objs.size) :
  Inv (X.blk s H scope (compEnvC scope (cellsFrom (s.heap.objs.size + 1) scope.names (cloFrom X.env.cells scope.names [])) s.heap.objs.size X.env) fp) [] (wipe σ (own.map (·.2))) H { s with heap := pushCells (s.heap.push { cls := .type "dict", data := .dict #[] }) scope.names } := by
 have hfree : ∀ y ∈ scope.names, y.2 = .free -> ∃ c, X.env.cells.lookup y.1 = some c := fun y hy e => by
  rcases ok.free y hy e with k | k
  ·exact I.ok.has _ (.inl k)
  ·exact I.ok.has _ (.inr k)
 generalize hcenv : compEnvC scope (cellsFrom (s.heap.objs.size + 1) scope.names (cloFrom X.env.cells scope.names [])) s.heap.objs.size X.env = cenv
 have kp : ∀ b o, s.heap.get? b = some o -> (pushCells (s.heap.push { cls := .type "dict", data := .dict #[] }) scope.names).get? b = some o := fun b o e => pushCells_keeps _ _ _ _ (Heap.get?_push_of_some _ e)
 have hL : cenv.locals = s.heap.objs.size := by rw [<- hcenv]; rfl
 have hcl : cenv.cells = cellsFrom (s.heap.objs.size + 1) scope.names (cloFrom X.env.cells scope.names []) := by rw [<- hcenv]; rfl
 have hsc : cenv.scope = relS scope X.env.scope := by rw [<- hcenv]; rfl
 rw [<- Heap.size_push s.heap { cls := .type "dict", data := .dict #[] }] at hcl
 have cm : ∀ {y c}, (y, c) ∈ cloFrom X.env.cells scope.names [] -> X.env.cells.lookup y = some c /\ c < s.heap.objs.size := fun {y c} hm => by
  rcases cloFrom_mem hm with hm | ⟨h1, rfl⟩
  ·cases hm
  ·obtain ⟨c, hc⟩ := hfree _ h1 rfl
   rw [hc]
   obtain ⟨w, z⟩ := I.cell _ _ hc
   exact ⟨rfl, z.lt⟩
 have mem : ∀ {y c}, cenv.cells.lookup y = some c -> (X.env.cells.lookup y = some c /\ c < s.heap.objs.size) ∨ (s.heap.objs.size + 1 <= c /\ CellAt (pushCells (s.heap.push { cls := .type "dict", data := .dict #[] }) scope.names) c none) := fun {y c} e => by
  rw [hcl] at e
  rcases cells_mem (PySem.mem_of_lookup e) with hm | ⟨_, h2, h3⟩
  ·exact .inl (cm hm)
  ·rw [Heap.size_push] at h2; exact .inr ⟨h2, h3⟩
 have look : ∀ {y}, scope.names.lookup y = some .free -> ∃ c, cenv.cells.lookup y = some c /\ X.env.cells.lookup y = some c := fun {y} hl => by
  have hy : (y, NameKind.free) ∈ scope.names := PySem.mem_of_lookup hl
  obtain ⟨c', e'⟩ := mem_lookup (cells_acc (names := scope.names) (n := (s.heap.push { cls := .type "dict", data := .dict #[] }).objs.size) (cloFrom_has (cells := X.env.cells) (acc := []) hy))
  rw [<- hcl] at e'
  refine ⟨c', e', ?_⟩
  rw [hcl] at e'
  rcases cells_mem (PySem.mem_of_lookup e') with hm | ⟨h1, _, _⟩
  ·exact (cm hm).1
  ·have := ok.uniq _ h1
   rw [hl] at this; cases this
 have okB : (X.blk s H scope cenv fp).Ok := by
  refine ⟨I.ok.mod, by show cenv.scope.kind = _; rw [hsc]; exact ok.kind, by show cenv.globals = _; rw [<- hcenv]; exact I.ok.glob, by show cenv.builtins = _; rw [<- hcenv]; exact I.ok.blt, by show s.heap.objs.size <= cenv.locals; rw [hL]; exact Nat.le_refl _,
   fun y z c e1 e2 => ?_, fun y hy => ?_, fun y c z e => ?_, I.ok.hd, I.ok.frames, .inl rfl, fun b hb => ⟨?_, fun y c e z => ?_⟩, I.bs, Nat.le_trans I.ok.bsz I.sz, fun b o e hb => ?_, fun b hb z => ?_, I.stack, I.stkFree⟩
  ·have e1 : cenv.cells.lookup y = some c := e1
   have e2 : cenv.cells.lookup z = some c := e2
   rw [hcl] at e1 e2
   refine cells_inj (fun p hp => ?_) (fun y z c a b => I.ok.inj y z c (cm a).1 (cm b).1) (PySem.mem_of_lookup e1) (PySem.mem_of_lookup e2)
   rw [Heap.size_push]
   exact Nat.lt_succ_of_lt (cm (y := p.1) (c := p.2) hp).2
  ·show ∃ c, cenv.cells.lookup y = some c
   have key : ∀ k, cenv.kindOf y = some k -> (k = .cell ∨ k = .free) -> ∃ c, cenv.cells.lookup y = some c := fun k hk hk' => by
    unfold Env.kindOf at hk
    rw [hsc] at hk
    obtain ⟨k', e, r⟩ := lookup_relS hk
    have : k' = .cell ∨ k' = .free := by
     rcases r with rfl | ⟨rfl, _⟩
     ·exact hk'
     ·exact .inr rfl
    rcases this with rfl | rfl
    ·obtain ⟨c, hm⟩ := cells_has (n := (s.heap.push { cls := .type "dict", data := .dict #[] }).objs.size) (acc := cloFrom X.env.cells scope.names []) (PySem.mem_of_lookup e)
     obtain ⟨c', e'⟩ := mem_lookup hm
     exact ⟨c', by rw [hcl]; exact e'⟩
    ·obtain ⟨c, h1, _⟩ := look e
     exact ⟨c, h1⟩
   rcases hy with hy | hy
   ·exact key _ hy (.inl rfl)
   ·exact key _ hy (.inr rfl)
  ·have z : (scope.names.lookup y == some NameKind.cell) = true := z
   have z : scope.names.lookup y = some .cell := by simpa using z
   have e : cenv.cells.lookup y = some c := e
   rw [hcl] at e
   rcases cells_mem (PySem.mem_of_lookup e) with hm | ⟨_, h2, _⟩
   ·rcases cloFrom_mem hm with hm | ⟨h1, _⟩
    ·cases hm
    ·have q := ok.uniq _ h1
     rw [z] at q; cases q
   ·rw [Heap.size_push] at h2
    exact Nat.le_of_succ_le h2
  ·show b ≠ cenv.locals
   rw [hL]; exact Nat.ne_of_lt (hfp b hb).2
  ·have e : cenv.cells.lookup y = some c := e
   rcases mem e with ⟨h1, _⟩ | ⟨h1, _⟩
   ·exact (hfp b hb).1.2.2.2.2.1 y c h1 z
   ·have h2 : s.heap.objs.size + 1 <= b := by rw [<- z]; exact h1
    exact absurd (Nat.lt_of_lt_of_le (hfp b hb).2 (Nat.le_of_succ_le h2)) (Nat.lt_irrefl _)
  ·rcases (hfp b hb).1.2.2.2.1 with z | z
   ·exact I.ok.noex b o e z
   ·exact absurd (Nat.lt_of_lt_of_le (Heap.lt_size e) (Nat.le_trans I.ok.bsz z)) (Nat.lt_irrefl _)
  ·rcases List.mem_cons.mp (I.stkSub b z) with z | z
   ·exact (hfp b hb).1.2.1 z
   ·exact (hfp b hb).1.2.2.1 z
 refine ⟨okB, rfl, I.bare, Un.kept kp, ⟨fun _ => none, ?_, fun i y av e1 e2 e3 => ?_⟩, fun y c e => ?_, ?_, fun y c e => ?_, fun p hp => ?_, I.hok.kept kp, by rw [wipe_length]; exact I.len⟩
 ·show Heap.Ns _ cenv.locals _
  rw [hL]
  exact Heap.Ns.keeps (Heap.Ns.new ..) fun b o e => pushCells_keeps _ _ _ _ e
 ·obtain ⟨e2, hne⟩ := wipe_some e2
  have hfr : scope.names.lookup y = some .free /\ (cenv.kindOf y = some .cell ∨ cenv.kindOf y = some .free) := by
   have key : ∀ k, cenv.scope.names.lookup y = some k -> k = .local ∨ k = .cell ∨ k = .free -> scope.names.lookup y = some .free /\ (cenv.kindOf y = some .cell ∨ cenv.kindOf y = some .free) := fun k hk hk' => by
    have hk0 := hk
    rw [hsc] at hk
    obtain ⟨k', e, r⟩ := lookup_relS hk
    have no : ¬ (k' = .local ∨ k' = .cell) := fun hh => by
     rcases ok.own _ (PySem.mem_of_lookup e) hh with e' | e'
     ·obtain ⟨p, hp, hpy⟩ := List.mem_map.mp e'
      have e3 := ok.ix p hp
      have : p.1 = y := hpy
      rw [this] at e3
      exact hne (List.mem_map.mpr ⟨p, hp, nodup_ix hN e3 e1⟩)
     ·exact e' (List.mem_of_getElem? e1)
    rcases r with rfl | ⟨rfl, rfl⟩
    ·rcases hk' with rfl | rfl | rfl
     ·exact absurd (.inl rfl) no
     ·exact absurd (.inr rfl) no
     ·exact ⟨e, .inr hk0⟩
    ·exact ⟨e, .inl hk0⟩
   have e3 : Vis cenv.scope y := e3
   rcases e3 with e3 | e3 | e3
   ·exact key _ e3 (.inl rfl)
   ·exact key _ e3 (.inr (.inl rfl))
   ·exact key _ e3 (.inr (.inr rfl))
  obtain ⟨m, hn, hl⟩ := I.loc
  have hvis : Vis X.env.scope y := (ok.free _ (PySem.mem_of_lookup hfr.1) rfl).elim (fun k => .inr (.inl k)) (fun k => .inr (.inr k))
  obtain ⟨w, r, q⟩ := hl i y av e1 e2 hvis
  refine ⟨w, r, .inr ⟨hfr.2, ?_⟩⟩
  obtain ⟨c, h1, h2⟩ := look hfr.1
  rcases q with ⟨k, _⟩ | ⟨_, c', e', z⟩
  ·have k : X.env.scope.names.lookup y = some .local := k
   rcases ok.free _ (PySem.mem_of_lookup hfr.1) rfl with k' | k' <;> rw [show X.env.scope.names.lookup y = _ from k'] at k <;> cases k
  ·rw [h2] at e'; cases e'
   exact ⟨c, h1, z.keeps kp⟩
 ·have e : cenv.cells.lookup y = some c := e
  rcases mem e with ⟨h1, _⟩ | ⟨_, z⟩
  ·obtain ⟨w, z⟩ := I.cell y c h1
   exact ⟨w, z.keeps kp⟩
  ·exact ⟨_, z⟩
 ·show H cenv.locals = none
  rw [hL]; exact I.hok.fresh (Nat.le_refl _)
 ·have e : cenv.cells.lookup y = some c := e
  rcases mem e with ⟨h1, _⟩ | ⟨h1, _⟩
  ·exact I.freeC y c h1
  ·exact I.hok.fresh (Nat.le_of_succ_le h1)
 ·exact absurd (show p ∈ ([] : List (Addr × Obj)) ++ [] from hp) (by simp)
theorem app_ok {E : Value -> Shared -> Prop} {D : Addr} {xs : List V} {y : V} {v : Value} {Q : Value -> Shared -> Prop} (I : Inv X pins σ H s) (hD : H D = some (.lst xs)) (hz : xs.length < sizeLine) (r : RelV y v)
  (h : ∀ s', Inv X pins σ (upd H D (.lst (xs ++ [y]))) s' -> Q .none s') : wpAny (model X.prog X.w) X.A (call (.builtin "list.append") [.ref D, v]) Q E s := by
 obtain ⟨hz', its, n, ri, e⟩ := I.hok D _ hD
 have hl := ri.length
 refine append_at (hsz := by rw [List.size_toArray]; omega) e fun h' sb ho' => ?_
 refine h { s with heap := h' } (I.write (t' := s.toks) (by rw [hD]; trivial) (.inl rfl) (fun b u hb q => (sb.2 b hb).trans q) ⟨_, ho'⟩ ⟨by rw [List.length_append]; exact hz, its ++ [v], n + 1, ri.append (.cons r .nil), ?_⟩)
 rw [ho']
 simp
def PTs (X : Cx) (ifs : List Expr) (t : TT) : Prop :=
 ∀ (pins : List (Addr × Obj)) (s : Shared) (σ : St) (H : Hp) (Q : Bool -> Hp -> Prop), Inv X pins σ H s -> t σ H Q ->
  wpAny (model X.prog X.w) X.A (forIn ifs true fun c r => if r = true then do let ok <- isTrue c X.env (eval c X.env); pure (ForInStep.yield ok) else pure (ForInStep.yield r)) (TP X pins σ Q) X.xe s
def tYes : TT := fun _ H Q => Q true H
theorem pts_nil : PTs X [] tYes := fun _ _ _ H _ I h => wpAny_tests_nil ⟨H, I, h⟩
theorem pts_one {c : Expr} {t : TT} (h : PT X c t) : PTs X [c] t := fun pins s σ H Q I hw => wpAny_tests_one (h pins s σ H Q I hw)
end
theorem thnF {α : Type} {t : Sem α} {Q Q' : α -> Shared -> Prop} {M : Model} {A : Around} {E : Value -> Shared -> Prop} {s : Shared} (h : wpAny M A t Q (fun _ _ => False) s) (hQ : ∀ a s, Q a s -> Q' a s) : wpAny M A t Q' E s := wpAny_mono h hQ fun _ _ z => False.elim z
theorem compLoop_any {prog : Program} {w : World} {A : Around} {R : Result -> Shared -> Prop} {s : Shared} {elt target iter : Expr} {ifs : List Expr} {scope : Scope} {pos : Pos} {it acc : Value} {env : Env} (I : Nat -> Shared -> Prop)
  (turn : ∀ n s, I n s -> wpAny (model prog w) A (pyNext it) (fun r s₁ => match r with
   | none => R (.ok .next) s₁
   | some v => wpAny (model prog w) A (letOwnedTupleGo target it v) (fun _ s₁' => wpAny (model prog w) A (assign target env v) (fun _ s₂ =>
     wpAny (model prog w) A (forIn ifs true fun c r => if r = true then do let ok <- isTrue c env (eval c env); pure (ForInStep.yield ok) else pure (ForInStep.yield r)) (fun ok s₃ =>
      if ok = true then wpAny (model prog w) A (eval elt env) (fun x s₄ =>
       wpAny (model prog w) A (call (.builtin "list.append") [acc, x]) (fun _ s₅ => ∃ m, m < n /\ I m s₅) (notedBy (model prog w) A env fun e s' => R (.error e) s') s₄) (notedBy (model prog w) A env fun e s' => R (.error e) s') s₃
      else ∃ m, m < n /\ I m s₃) (notedBy (model prog w) A env fun e s' => R (.error e) s') s₂) (notedBy (model prog w) A env fun e s' => R (.error e) s') s₁') (notedBy (model prog w) A env fun e s' => R (.error e) s') s₁) (notedBy (model prog w) A env fun e s' => R (.error e) s') s)
  (n : Nat) (h : I n s) :
  codeAny (model prog w) A (.compLoop (.ListComp elt [⟨target, iter, ifs, 0⟩] scope pos) 0 it acc env) R s := by
 refine codeAny_loop rfl I (fun n s hI => ?_) n h
 show wpAny _ A ((compTurn (.ListComp elt [⟨target, iter, ifs, 0⟩] scope pos) 0 it acc env).onRaise (fun x => do noteFrame x env; theTreesLotGoes x)) _ _ s
 refine wpAny_noted ?_
 rw [compTurn_list]
 refine wpAny_bind (wpAny_standAt (wpAny_bind (wpAny_mono (turn n s hI) (fun r s₁ h₁ => ?_) fun _ _ h' => h')))
 cases r with
 | none => exact wpAny_pure h₁
 | some v =>
  refine wpAny_bind (wpAny_mono h₁ (fun _ s₁' h₁' => ?_) fun _ _ h' => h')
  refine wpAny_bind (wpAny_mono h₁' (fun _ s₂ h₂ => wpAny_bind (wpAny_mono h₂ (fun ok s₃ h₃ => ?_) fun _ _ h' => h')) fun _ _ h' => h')
  cases ok with
  | false => exact wpAny_pure ⟨rfl, h₃⟩
  | true =>
   exact wpAny_bind (wpAny_bind (wpAny_mono h₃ (fun x s₄ h₄ => wpAny_bind (wpAny_mono h₄ (fun _ s₅ h₅ => wpAny_pure (wpAny_pure ⟨rfl, h₅⟩)) fun _ _ h' => h')) fun _ _ h' => h'))
section
variable {X : Cx}
def tLc (wi : TI) (g : TG) (tt : TT) (te : TE) (vs : List Nat) : TE := fun σ H Q => wi σ H fun J H1 => ∀ D, H1 D = none -> ∃ W : Nat -> Nat -> Hp -> Prop, (∃ m, W 0 m (upd H1 D (.lst []))) /\ ∀ i m H, W i m H ->
 (J.stop i H /\ Q (.ref D) H) ∨ (J.go i H /\ ∃ Nx : Hp -> Prop, (∀ H', Nx H' -> ∃ m', m' < m /\ W (i + 1) m' H') /\ ∀ x H', J.yld i H x H' -> g x (wipe σ vs) H' fun σ2 H2 => wipe σ2 vs = wipe σ vs /\ tt σ2 H2 fun b H3 =>
  if b = true then te σ2 H3 fun y H4 => ∃ acc, H4 D = some (.lst acc) /\ acc.length < sizeLine /\ Nx (upd H4 D (.lst (acc ++ [y]))) else Nx H3)
theorem lc_core {pins : List (Addr × Obj)} {s : Shared} {σ : St} {H : Hp} {Q : VK} {elt tg iter : Expr} {ifs : List Expr} {scope : Scope} {own : List (Str × Nat)} {pos pos' : Pos} {wi : TI} {g : TG} {tt : TT} {te : TE} {use : Option (Value -> Sem Unit)} {Qf : Value -> Shared -> Prop}
  (hc : X.calm = true) (hN : X.N.Nodup) (I : Inv X pins σ H s) (hi : PI X tg iter wi) (ok : BlkOk X.N X.env.scope scope own)
  (hg : ∀ (s : Shared) (H : Hp) (C : Addr) (cl : List (Str × Addr)) (fp : List Addr), PG (X.blk s H scope (compEnvC scope cl C X.env) fp) tg g) (ht : ∀ (s : Shared) (H : Hp) (C : Addr) (cl : List (Str × Addr)) (fp : List Addr), PTs (X.blk s H scope (compEnvC scope cl C X.env) fp) ifs tt)
  (he : ∀ (s : Shared) (H : Hp) (C : Addr) (cl : List (Str × Addr)) (fp : List Addr), PE (X.blk s H scope (compEnvC scope cl C X.env) fp) elt te) (hs : ∀ x, foldedSetIterable iter X.env x = pure x)
  (h : tLc wi g tt te (own.map (·.2)) σ H Q)
  (hRR : ∀ D C s' m H', Inv X pins σ H' s' -> Q (.ref D) H' -> s'.heap.Ns C m -> FpOk X pins H' C -> compPost (model X.prog X.w) X.A X.xe use Qf (.ref D) C (.ok .next) s') :
  wpAny (model X.prog X.w) X.A (comprehension (.ListComp elt [⟨tg, iter, ifs, 0⟩] scope pos) scope X.env pos' (newList []) false (eval iter X.env) use) Qf X.xe s := by
 have hfree : ∀ y ∈ scope.names, y.2 = .free -> ∃ c, X.env.cells.lookup y.1 = some c := fun y hy e => by
  rcases ok.free y hy e with k | k
  ·exact I.ok.has _ (.inl k)
  ·exact I.ok.has _ (.inr k)
 refine wpAny_comprehension_free (use := use) rfl hs (closure_ok hfree) ok.kind (fun y hy e => by rw [ok.uniq y hy, e])
  (thn (hi pins s σ H _ I h) fun xv s1 hx => thn hx fun itv s2 h2 => ?_)
 obtain ⟨it, fp, tn, J, H2, e, I2, T, st2, f2, q⟩ := h2
 subst e
 refine wpAny_newObj_type (newEnv_comp ?_) (by show 0 <= sizeLine; decide)
 generalize hD : s2.heap.objs.size = D
 have hDn : H2 D = none := I2.hok.fresh (Nat.le_of_eq hD)
 obtain ⟨W, ⟨m0, w0⟩, turn⟩ := q D hDn
 -- the new list
 generalize hs3 : ({ s2 with heap := s2.heap.push { cls := .type "list", data := .seq ([] : List Value).toArray } } : Shared) = s3
 have I3 : Inv X pins σ (upd H2 D (.lst [])) s3 := by
  rw [<- hs3]
  refine I2.laid (t' := s2.toks) (fun b o e => Heap.get?_push_of_some _ e) (Nat.le_of_eq hD) ⟨Nat.zero_le _, [], 0, .nil, ?_⟩
  rw [<- hD]
  exact Heap.get?_push_size _ rfl
 have h3 : s3.heap = s2.heap.push { cls := .type "list", data := .seq ([] : List Value).toArray } := by rw [<- hs3]
 have sz : ∀ b ∈ fp, b < s2.heap.objs.size := fun b hb => by
  obtain ⟨o, e, _⟩ := T.obj _ _ st2 b hb
  exact Heap.lt_size e
 have f3 : ∀ b ∈ fp, FpOk X pins (upd H2 D (.lst [])) b /\ b < s3.heap.objs.size := fun b hb => by
  have hlt := sz b hb
  refine ⟨⟨?_, (f2 b hb).2⟩, by rw [h3, Heap.size_push]; exact Nat.lt_succ_of_lt hlt⟩
  rw [upd_ne (by rw [<- hD]; exact Nat.ne_of_lt hlt)]
  exact (f2 b hb).1
 have st3 : tn 0 s3.heap := T.keep _ _ _ st2 fun b _ o e => by rw [h3]; exact Heap.get?_push_of_some _ e
 have I4 := block_start I3 ok hN f3
 have pg := hg s3 (upd H2 D (.lst [])) s3.heap.objs.size (cellsFrom (s3.heap.objs.size + 1) scope.names (cloFrom X.env.cells scope.names [])) fp
 have pt := ht s3 (upd H2 D (.lst [])) s3.heap.objs.size (cellsFrom (s3.heap.objs.size + 1) scope.names (cloFrom X.env.cells scope.names [])) fp
 have pe := he s3 (upd H2 D (.lst [])) s3.heap.objs.size (cellsFrom (s3.heap.objs.size + 1) scope.names (cloFrom X.env.cells scope.names [])) fp
 show codeAny _ _ (.compStart (.ListComp elt [⟨tg, iter, ifs, 0⟩] scope pos) 0 (.ref it) (.ref D) (compEnvC scope (cellsFrom (s3.heap.objs.size + 1) scope.names (cloFrom X.env.cells scope.names [])) s3.heap.objs.size X.env)) (compPost (model X.prog X.w) X.A X.xe use Qf (.ref D) s3.heap.objs.size) { s3 with heap := pushCells (s3.heap.push { cls := .type "dict", data := .dict #[] }) scope.names }
 have nfp : ∀ b ∈ fp, (upd H2 D (.lst [])) b = none := fun b hb => (f3 b hb).1.1
 generalize hce : compEnvC scope (cellsFrom (s3.heap.objs.size + 1) scope.names (cloFrom X.env.cells scope.names [])) s3.heap.objs.size X.env = ce at I4 pg pt pe ⊢
 have cL : ce.locals = s3.heap.objs.size := by subst hce; rfl
 generalize hH3 : upd H2 D (.lst []) = H3 at I3 I4 pg pt pe w0 nfp f3
 generalize hs4 : ({ s3 with heap := pushCells (s3.heap.push { cls := .type "dict", data := .dict #[] }) scope.names } : Shared) = s4 at I4 ⊢
 have st4 : tn 0 s4.heap := T.keep _ _ _ st3 fun b _ o e => by rw [<- hs4]; exact pushCells_keeps _ _ _ _ (Heap.get?_push_of_some _ e)
 have stat : ∀ {σ' : St} {H' : Hp} {s' : Shared}, Inv (X.blk s3 H3 scope ce fp) [] σ' H' s' -> (∀ b ∈ fp, H' b = none) -> ∀ b ∈ fp, FpOk (X.blk s3 H3 scope ce fp) [] H' b := fun {σ' H' s'} I' hn b hb =>
  ⟨hn b hb, (I'.ok.exf b hb).1, I'.ok.exfs b hb, .inl hb, fun x c e => (I'.ok.exf b hb).2 x c e, fun p hp => absurd (show p ∈ ([] : List (Addr × Obj)) ++ [] from hp) (by simp)⟩
 have loop : codeAny (model X.prog X.w) X.A (.compLoop (.ListComp elt [⟨tg, iter, ifs, 0⟩] scope pos) 0 (.ref it) (.ref D) ce) (compPost (model X.prog X.w) X.A X.xe use Qf (.ref D) s3.heap.objs.size) s4 := by
  refine compLoop_any (fun n s' => ∃ i H', Inv (X.blk s3 H3 scope ce fp) [] (wipe σ (own.map (·.2))) H' s' /\ tn i s'.heap /\ (∀ b ∈ fp, H' b = none) /\ W i n H') ?_ m0 ⟨0, H3, I4, st4, nfp, w0⟩
  rintro n s5 ⟨i, H5, I5, st5, n5, w5⟩
  rcases turn i n H5 w5 with ⟨stop, qq⟩ | ⟨go, Nx, hNx, step⟩
  ·have td := T.done (X.blk s3 H3 scope ce fp) rfl rfl rfl hc i [] s5 _ H5 (fun _ _ => False) I5 (stat I5 n5) st5 stop
   refine thnF td fun r s6 ⟨hr, I6⟩ => ?_
   subst hr
   -- back in the def's context
   have I7 : Inv X pins σ H5 s6 := I3.call' (ch := fp) I6.os I6.base I6.hok I6.bare fun b hb => ⟨(f3 b hb).1.2.2.2.1, (f3 b hb).1.2.1, (f3 b hb).1.2.2.2.2.1, (f3 b hb).1.2.2.2.2.2⟩
   have nC : H5 s3.heap.objs.size = none := by
    have z : H5 ce.locals = none := I6.free
    rw [cL] at z
    exact z
   obtain ⟨m, hn, _⟩ := I6.loc
   have hn : s6.heap.Ns ce.locals m := hn
   rw [cL] at hn
   exact hRR D s3.heap.objs.size s6 m H5 I7 qq hn (I3.fpOk (Nat.le_refl _) nC)
  ·have ti := T.item (X.blk s3 H3 scope ce fp) rfl rfl rfl hc i [] s5 _ H5 (fun _ _ => False) I5 (stat I5 n5) st5 go
   refine thnF ti fun r s6 ⟨u, hr, h6⟩ => ?_
   subst hr
   refine thnF h6 fun _ s7 ⟨x, H7, I7, r7, y7, st7, n7⟩ => ?_
   have I7' := I7.pinned (stat I7 n7) (T.obj _ _ st7)
   refine thnF (pg _ s7 _ H7 x u _ I7' r7 (step x H7 y7)) fun _ s8 ⟨σ8, H8, I8, hw8, q8⟩ => ?_
   refine thnF (pt _ s8 σ8 H8 _ I8 q8) fun b s9 ⟨H9, I9, q9⟩ => ?_
   -- the turn's end
   have fin : ∀ {s' : Shared} {H' : Hp}, Inv (X.blk s3 H3 scope ce fp) ([] ++ pinsAt fp s7.heap) σ8 H' s' -> Nx H' -> ∃ m, m < n /\ ∃ i H', Inv (X.blk s3 H3 scope ce fp) [] (wipe σ (own.map (·.2))) H' s' /\ tn i s'.heap /\ (∀ b ∈ fp, H' b = none) /\ W i m H' := fun {s' H'} I' nx => by
    obtain ⟨m', hm, w'⟩ := hNx H' nx
    have pin' : ∀ b ∈ fp, ∀ o, s7.heap.get? b = some o -> s'.heap.get? b = some o /\ H' b = none := fun b hb o e =>
     let z := I'.pin (b, o) (List.mem_append_right _ (List.mem_append_right _ (mem_pinsAt hb e)))
     ⟨z.1, z.2.1⟩
    have hl : (wipe σ (own.map (·.2))).length = σ8.length := by rw [<- hw8, wipe_length]
    refine ⟨m', hm, i + 1, H', (I'.unpinned (pins := [])).weak hl (fun j v e => ?_), T.keep _ _ _ st7 fun b hb o e => (pin' b hb o e).1, fun b hb => ?_, w'⟩
    ·rw [<- hw8] at e
     exact (wipe_some e).1
    ·obtain ⟨o, e, _⟩ := T.obj _ _ st7 b hb
     exact (pin' b hb o e).2
   cases b with
   | false =>
    simp only [Bool.false_eq_true, if_false] at q9 ⊢
    exact fin I9 q9
   | true =>
    simp only [if_true] at q9 ⊢
    refine thnF (pe _ s9 σ8 H9 _ I9 q9) fun z s10 ⟨yv, H10, I10, r10, acc, hD10, hz10, nx⟩ => ?_
    exact app_ok (X := X.blk s3 H3 scope ce fp) I10 hD10 hz10 r10 fun s11 I11 => fin I11 nx
 exact codeAny_compStart_list loop (T.self X.A 0 _ _ _ st4 loop)
theorem pe_lc {elt tg iter : Expr} {ifs : List Expr} {scope : Scope} {own : List (Str × Nat)} {pos : Pos} {wi : TI} {g : TG} {tt : TT} {te : TE} (hc : X.calm = true) (hN : X.N.Nodup) (hi : PI X tg iter wi) (ok : BlkOk X.N X.env.scope scope own)
  (hg : ∀ (s : Shared) (H : Hp) (C : Addr) (cl : List (Str × Addr)) (fp : List Addr), PG (X.blk s H scope (compEnvC scope cl C X.env) fp) tg g) (ht : ∀ (s : Shared) (H : Hp) (C : Addr) (cl : List (Str × Addr)) (fp : List Addr), PTs (X.blk s H scope (compEnvC scope cl C X.env) fp) ifs tt)
  (he : ∀ (s : Shared) (H : Hp) (C : Addr) (cl : List (Str × Addr)) (fp : List Addr), PE (X.blk s H scope (compEnvC scope cl C X.env) fp) elt te) (hs : ∀ x, foldedSetIterable iter X.env x = pure x := by intro _; rfl) :
  PE X (.ListComp elt [⟨tg, iter, ifs, 0⟩] scope pos) (tLc wi g tt te (own.map (·.2))) := by
 intro pins s σ H Q I h
 rw [eval_ListComp]
 refine lc_core hc hN I hi ok hg ht he hs h fun D C s' m H' I' q hn f => ⟨m, hn, fun h'' sb => ?_⟩
 obtain ⟨f0, f1, f2, f3, f4, f5⟩ := f
 exact ⟨.ref D, H', I'.turned (t' := s'.toks) (fun b o hb e => (sb.2 b hb).trans e) f0 f1 f3 f4 f5, rfl, q⟩
theorem ps_setLc {i : Nat} {y : Str} {py : Pos} {elt tg iter : Expr} {ifs : List Expr} {scope : Scope} {own : List (Str × Nat)} {pos spos : Pos} {wi : TI} {g : TG} {tt : TT} {te : TE} (hc : X.calm = true) (hN : X.N.Nodup) (hy : X.N[i]? = some y) (hyl : X.env.scope.names.lookup y = some .local)
  (hsw : swapsWith (.ListComp elt [⟨tg, iter, ifs, 0⟩] scope pos) (some (.Name y py)) spos.line X.env = pure true) (hi : PI X tg iter wi) (ok : BlkOk X.N X.env.scope scope own)
  (hg : ∀ (s : Shared) (H : Hp) (C : Addr) (cl : List (Str × Addr)) (fp : List Addr), PG (X.blk s H scope (compEnvC scope cl C X.env) fp) tg g) (ht : ∀ (s : Shared) (H : Hp) (C : Addr) (cl : List (Str × Addr)) (fp : List Addr), PTs (X.blk s H scope (compEnvC scope cl C X.env) fp) ifs tt)
  (he : ∀ (s : Shared) (H : Hp) (C : Addr) (cl : List (Str × Addr)) (fp : List Addr), PE (X.blk s H scope (compEnvC scope cl C X.env) fp) elt te) (hs : ∀ x, foldedSetIterable iter X.env x = pure x := by intro _; rfl) :
  PS X (.Assign [.Name y py] (.ListComp elt [⟨tg, iter, ifs, 0⟩] scope pos) spos) (tAsg (tLc wi g tt te (own.map (·.2))) (gName i)) := by
 intro pins s σ H D I h
 rw [exec_Assign_Name_used _ _ _ _ hsw]
 refine wpAny_bind (wpAny_standAt (wpAny_bind ?_))
 show wpAny _ X.A (do let _ <- comprehension (.ListComp elt [⟨tg, iter, ifs, 0⟩] scope pos) scope X.env (firstIterPos [⟨tg, iter, ifs, 0⟩] pos) (newList []) false (eval iter X.env) (some (assign (.Name y py) X.env))) _ _ s
 have h : tLc wi g tt te (own.map (·.2)) σ H (fun x H1 => gName i x σ H1 D.nx) := h
 refine wpAny_bind (thn (lc_core (Qf := fun _ s' => SP X pins D .next s') hc hN I hi ok hg ht he hs h fun L C s' m H' I' q hn f => ?_) fun _ s' hq => wpAny_pure (wpAny_pure hq))
 show wpAny _ _ (assign (.Name y py) X.env (.ref L)) _ _ _
 refine wpAny_assign_Name (store_ok2 (v := V.ref L) I' hN hy (.inl hyl) rfl (fun s2 I2 ⟨a, sb, ha⟩ => ?_) (.inr hyl))
 obtain ⟨f0, f1, f2, f3, f4, f5⟩ := f
 have haC : C ≠ a := by
  rcases ha with z | z
  ·rw [z]; exact f1
  ·exact fun e => f4 y a z e.symm
 refine ⟨m, hn.sameBut sb haC, fun h3 sb3 => ?_⟩
 exact ⟨_, H', I2.turned (t' := s2.toks) (fun b o hb e => (sb3.2 b hb).trans e) f0 f1 f3 f4 f5, q⟩
theorem sw_true {elt : Expr} {gs : List Comprehension} {scope : Scope} {pos py : Pos} {y : Str} {l : Nat} {env : Env} (hk : env.scope.kind = .function) (hy : env.scope.names.lookup y = some .local) (hl : (py.line == pos.line) = true)
  (ha : (scope.names.any fun (n, k) => n == y && (k == .local || k == .cell)) = false) : swapsWith (.ListComp elt gs scope pos) (some (.Name y py)) l env = pure true := by
 have ky : env.kindOf y = some .local := hy
 have hb : env.blockKind = .function := by unfold Env.blockKind; rw [hk]; rfl
 unfold swapsWith
 simp only [hb, ky, ha, Expr.pos, hl]
 rfl
end
theorem lc_range {lo : Int} {n : Nat} {g : TG} {tt : TT} {te : TE} {vs : List Nat} {σ : St} {H1 : Hp} {D : Addr} {Qd : Hp -> Prop} (Pv : Nat -> Hp -> Prop) (h0 : Pv 0 (upd H1 D (.lst [])))
  (hs : ∀ i H, i < n -> Pv i H -> g (.int (lo + i)) (wipe σ vs) H fun σ2 H2 => wipe σ2 vs = wipe σ vs /\ tt σ2 H2 fun b H3 =>
   if b = true then te σ2 H3 fun y H4 => ∃ acc, H4 D = some (.lst acc) /\ acc.length < sizeLine /\ Pv (i + 1) (upd H4 D (.lst (acc ++ [y]))) else Pv (i + 1) H3) (hd : ∀ H, Pv n H -> Qd H) :
  ∃ W : Nat -> Nat -> Hp -> Prop, (∃ m, W 0 m (upd H1 D (.lst []))) /\ ∀ i m H, W i m H ->
   ((Itr lo n).stop i H /\ Qd H) ∨ ((Itr lo n).go i H /\ ∃ Nx : Hp -> Prop, (∀ H', Nx H' -> ∃ m', m' < m /\ W (i + 1) m' H') /\ ∀ x H', (Itr lo n).yld i H x H' -> g x (wipe σ vs) H' fun σ2 H2 => wipe σ2 vs = wipe σ vs /\ tt σ2 H2 fun b H3 =>
    if b = true then te σ2 H3 fun y H4 => ∃ acc, H4 D = some (.lst acc) /\ acc.length < sizeLine /\ Nx (upd H4 D (.lst (acc ++ [y]))) else Nx H3) := by
 refine ⟨fun i m H => m = n - i /\ i <= n /\ Pv i H, ⟨n, by simp, Nat.zero_le _, h0⟩, ?_⟩
 rintro i m H ⟨rfl, hi, p⟩
 by_cases hlt : i < n
 ·refine .inr ⟨hlt, Pv (i + 1), fun H' p' => ⟨n - (i + 1), by omega, rfl, hlt, p'⟩, fun x H' y => ?_⟩
  obtain ⟨e, y⟩ := y
  subst e y
  exact hs i _ hlt p
 ·have e : i = n := by omega
  subst e
  exact .inl ⟨Nat.le_refl _, hd H p⟩
theorem lc_list {K : W.Frag} {a : Addr} {xs : List V} {g : TG} {tt : TT} {te : TE} {vs : List Nat} {σ : St} {H1 : Hp} {D : Addr} {Qd : Hp -> Prop} (Pv : Nat -> Hp -> Prop) (h0 : Pv 0 (upd H1 D (.lst []))) (hl : ∀ i H, i <= xs.length -> Pv i H -> SqL K H a xs)
  (hs : ∀ i x H, xs[i]? = some x -> Pv i H -> g x (wipe σ vs) H fun σ2 H2 => wipe σ2 vs = wipe σ vs /\ tt σ2 H2 fun b H3 =>
   if b = true then te σ2 H3 fun y H4 => ∃ acc, H4 D = some (.lst acc) /\ acc.length < sizeLine /\ Pv (i + 1) (upd H4 D (.lst (acc ++ [y]))) else Pv (i + 1) H3) (hd : ∀ H, Pv xs.length H -> Qd H) :
  ∃ W : Nat -> Nat -> Hp -> Prop, (∃ m, W 0 m (upd H1 D (.lst []))) /\ ∀ i m H, W i m H ->
   ((Itl K a).stop i H /\ Qd H) ∨ ((Itl K a).go i H /\ ∃ Nx : Hp -> Prop, (∀ H', Nx H' -> ∃ m', m' < m /\ W (i + 1) m' H') /\ ∀ x H', (Itl K a).yld i H x H' -> g x (wipe σ vs) H' fun σ2 H2 => wipe σ2 vs = wipe σ vs /\ tt σ2 H2 fun b H3 =>
    if b = true then te σ2 H3 fun y H4 => ∃ acc, H4 D = some (.lst acc) /\ acc.length < sizeLine /\ Nx (upd H4 D (.lst (acc ++ [y]))) else Nx H3) := by
 refine ⟨fun i m H => m = xs.length - i /\ i <= xs.length /\ Pv i H, ⟨xs.length, by simp, Nat.zero_le _, h0⟩, ?_⟩
 rintro i m H ⟨rfl, hi, p⟩
 have q := hl i H hi p
 by_cases hlt : i < xs.length
 ·refine .inr ⟨⟨xs, xs[i], q, by simp [hlt]⟩, Pv (i + 1), fun H' p' => ⟨xs.length - (i + 1), by omega, rfl, hlt, p'⟩, fun x H' y => ?_⟩
  obtain ⟨e, y⟩ := y
  subst e
  exact hs i x _ (y xs q) p
 ·have e : i = xs.length := by omega
  subst e
  exact .inl ⟨⟨xs, q, Nat.le_refl _⟩, hd H p⟩
theorem lc_tup {K : W.Frag} {a : Addr} {xs : List V} {g : TG} {tt : TT} {te : TE} {vs : List Nat} {σ : St} {H1 : Hp} {D : Addr} {Qd : Hp -> Prop} (Pv : Nat -> Hp -> Prop) (h0 : Pv 0 (upd H1 D (.lst []))) (hl : ∀ i H, i <= xs.length -> Pv i H -> SqT K H a xs)
  (hs : ∀ i x H, xs[i]? = some x -> Pv i H -> g x (wipe σ vs) H fun σ2 H2 => wipe σ2 vs = wipe σ vs /\ tt σ2 H2 fun b H3 =>
   if b = true then te σ2 H3 fun y H4 => ∃ acc, H4 D = some (.lst acc) /\ acc.length < sizeLine /\ Pv (i + 1) (upd H4 D (.lst (acc ++ [y]))) else Pv (i + 1) H3) (hd : ∀ H, Pv xs.length H -> Qd H) :
  ∃ W : Nat -> Nat -> Hp -> Prop, (∃ m, W 0 m (upd H1 D (.lst []))) /\ ∀ i m H, W i m H ->
   ((Itt K a).stop i H /\ Qd H) ∨ ((Itt K a).go i H /\ ∃ Nx : Hp -> Prop, (∀ H', Nx H' -> ∃ m', m' < m /\ W (i + 1) m' H') /\ ∀ x H', (Itt K a).yld i H x H' -> g x (wipe σ vs) H' fun σ2 H2 => wipe σ2 vs = wipe σ vs /\ tt σ2 H2 fun b H3 =>
    if b = true then te σ2 H3 fun y H4 => ∃ acc, H4 D = some (.lst acc) /\ acc.length < sizeLine /\ Nx (upd H4 D (.lst (acc ++ [y]))) else Nx H3) := by
 refine ⟨fun i m H => m = xs.length - i /\ i <= xs.length /\ Pv i H, ⟨xs.length, by simp, Nat.zero_le _, h0⟩, ?_⟩
 rintro i m H ⟨rfl, hi, p⟩
 have q := hl i H hi p
 by_cases hlt : i < xs.length
 ·refine .inr ⟨⟨xs, xs[i], q, by simp [hlt]⟩, Pv (i + 1), fun H' p' => ⟨xs.length - (i + 1), by omega, rfl, hlt, p'⟩, fun x H' y => ?_⟩
  obtain ⟨e, y⟩ := y
  subst e
  exact hs i x _ (y xs q) p
 ·have e : i = xs.length := by omega
  subst e
  exact .inl ⟨⟨xs, q, Nat.le_refl _⟩, hd H p⟩
def blkC (N : List Str) (sc scope : Scope) (own : List (Str × Nat)) : Bool :=
 (match scope.kind with | .function => true | _ => false) && (scope.names.all fun y => decide (scope.names.lookup y.1 = some y.2)) && (own.all fun p => decide (N[p.2]? = some p.1)) &&
  (scope.names.all fun y => match y.2 with
   | .free => (match sc.names.lookup y.1 with | some .cell => true | some .free => true | _ => false)
   | .local => decide (y.1 ∈ own.map (·.1)) || decide (y.1 ∉ N)
   | .cell => decide (y.1 ∈ own.map (·.1)) || decide (y.1 ∉ N)
   | _ => true)
theorem blkOk_by {N : List Str} {sc scope : Scope} {own : List (Str × Nat)} (h : blkC N sc scope own = true) : BlkOk N sc scope own := by
 unfold blkC at h
 simp only [Bool.and_eq_true, List.all_eq_true, decide_eq_true_eq] at h
 obtain ⟨⟨⟨h1, h2⟩, h3⟩, h4⟩ := h
 refine ⟨?_, h2, h3, fun y hy e => ?_, fun y hy e => ?_⟩
 ·split at h1
  ·assumption
  ·cases h1
 ·have q := h4 y hy
  simp only [e] at q
  split at q <;> first | exact .inl (by assumption) | exact .inr (by assumption) | cases q
 ·have q := h4 y hy
  rcases e with e | e <;> (simp only [e, Bool.or_eq_true, decide_eq_true_eq] at q; exact q)
end L2
namespace L2
open PySem PySem.Spec PyProof.Rows
section
variable {κ : Type} [DecidableEq κ]
def valV (kvs : List (κ × V)) (k : κ) : Option V := (kvs.find? fun kv => decide (kv.1 = k)).map (·.2)
def putK (kvs : List (κ × V)) (k : κ) (v : V) : List (κ × V) :=
 if (kvs.any fun kv => decide (kv.1 = k)) = true then kvs.map (fun kv => if kv.1 = k then (kv.1, v) else kv) else kvs ++ [(k, v)]
theorem valV_pos {p : κ × V} {r : List (κ × V)} {k : κ} (e : p.1 = k) : valV (p :: r) k = some p.2 := by simp [valV, List.find?_cons, e]
theorem valV_neg {p : κ × V} {r : List (κ × V)} {k : κ} (e : ¬ p.1 = k) : valV (p :: r) k = valV r k := by simp [valV, List.find?_cons, e]
theorem valV_any (k : κ) : ∀ kvs : List (κ × V), (kvs.any fun kv => decide (kv.1 = k)) = (valV kvs k).isSome
 | [] => rfl
 | p :: r => by
  rw [List.any_cons]
  by_cases e : p.1 = k
  ·simp only [valV_pos e, decide_eq_true e, Bool.true_or, Option.isSome_some]
  ·rw [valV_neg e, decide_eq_false e, Bool.false_or]; exact valV_any k r
theorem length_putK (kvs : List (κ × V)) (k : κ) (v : V) : (putK kvs k v).length <= kvs.length + 1 := by
 unfold putK
 split
 ·rw [List.length_map]; omega
 ·rw [List.length_append, List.length_cons, List.length_nil]; omega
theorem RelO.isSome_eq {o : Option V} {u : Option Value} (r : RelO o u) : o.isSome = u.isSome := by
 cases o with
 | none => cases u with
  | none => rfl
  | some _ => exact (show False from r).elim
 | some _ => cases u with
  | none => exact (show False from r).elim
  | some _ => rfl
theorem RelO.getD {o : Option V} {u : Option Value} {d : V} {d' : Value} (r : RelO o u) (rd : RelV d d') : RelV (o.getD d) (u.getD d') := by
 cases o with
 | none => cases u with
  | none => exact rd
  | some _ => exact (show False from r).elim
 | some _ => cases u with
  | none => exact (show False from r).elim
  | some _ => exact r
theorem KV.val {kvs : List (κ × V)} {vs : List (κ × Value)} (r : KV kvs vs) (k : κ) : RelO (valV kvs k) (valueAt vs k) := by
 unfold KV at r
 induction r with
 | nil => exact True.intro
 | @cons p q ps qs h t ih =>
  obtain ⟨h1, h2⟩ := h
  by_cases e : p.1 = k
  ·have e' : q.1 = k := h1.symm.trans e
   have b : valueAt (q :: qs) k = some q.2 := by simp [valueAt, List.find?_cons, e']
   rw [valV_pos e, b]; exact h2
  ·have e' : ¬ q.1 = k := fun z => e (h1.trans z)
   have b : valueAt (q :: qs) k = valueAt qs k := by simp [valueAt, List.find?_cons, e']
   rw [valV_neg e, b]; exact ih
theorem KV.any {kvs : List (κ × V)} {vs : List (κ × Value)} (r : KV kvs vs) (k : κ) : (kvs.any fun kv => decide (kv.1 = k)) = vs.any fun kv => decide (kv.1 = k) := by
 unfold KV at r
 induction r with
 | nil => rfl
 | cons h t ih => rw [List.any_cons, List.any_cons, ih, h.1]
theorem KV.repl {kvs : List (κ × V)} {vs : List (κ × Value)} (r : KV kvs vs) (k : κ) {y : V} {u : Value} (ry : RelV y u) :
  KV (kvs.map fun kv => if kv.1 = k then (kv.1, y) else kv) (vs.map fun kv => if kv.1 = k then (kv.1, u) else kv) := by
 unfold KV at r ⊢
 induction r with
 | nil => exact .nil
 | @cons p q ps qs h t ih =>
  rw [List.map_cons, List.map_cons]
  refine .cons ?_ ih
  obtain ⟨h1, h2⟩ := h
  by_cases e : p.1 = k
  ·rw [if_pos e, if_pos (h1.symm.trans e)]; exact ⟨h1, ry⟩
  ·rw [if_neg e, if_neg (fun z => e (h1.trans z))]; exact ⟨h1, h2⟩
theorem KV.put {kvs : List (κ × V)} {vs : List (κ × Value)} (r : KV kvs vs) (k : κ) {y : V} {u : Value} (ry : RelV y u) : KV (putK kvs k y) (stored vs k u) := by
 unfold putK stored
 rw [r.any k]
 by_cases e : (vs.any fun kv => decide (kv.1 = k)) = true
 ·rw [if_pos e, if_pos e]; exact r.repl k ry
 ·rw [if_neg e, if_neg e]; exact Paired.snoc r ⟨rfl, ry⟩
theorem KV.length {kvs : List (κ × V)} {vs : List (κ × Value)} (r : KV kvs vs) : kvs.length = vs.length := Paired.length r
end
theorem kV_is {P : Program} {w : World} {k : Key} {u : Value} (r : RelV (kV k) u) : (mixKind P w).is k u = true := by
 cases k with
 | inl i => obtain ⟨t, e⟩ := (show ∃ t, u = Value.int i t from r); subst e; exact mixKind_int P w i t
 | inr x => obtain ⟨t, e⟩ := (show ∃ t, u = Value.str x t from r); subst e; exact mixKind_str P w x t
theorem items_are {P : Program} {w : World} : ∀ {ks : List Key} {us : List Value}, Vals (ks.map kV) us -> ItemsAre (mixKind P w) ks us
 | [], _, r => by rw [List.map_nil] at r; cases r; exact .nil
 | k :: ks, _, r => by
  rw [List.map_cons] at r
  cases r with
  | cons h t => exact .cons (kV_is h) (items_are t)
abbrev KT (H : Hp) : List (List Key × V) -> List (List Key × Addr × Value) -> Prop := Paired fun p q => p.1 = q.1 /\ H q.2.1 = some (.tup (p.1.map kV)) /\ RelV p.2 q.2.2
theorem KT.val {H : Hp} {kvs : List (List Key × V)} {xs : List (List Key × Addr × Value)} (r : KT H kvs xs) (k : List Key) : RelO (valV kvs k) ((atKey xs k).map (·.2)) := by
 induction r with
 | nil => exact True.intro
 | @cons p q ps qs h t ih =>
  obtain ⟨h1, _, h2⟩ := h
  by_cases e : p.1 = k
  ·have e' : q.1 = k := h1.symm.trans e
   have b : atKey (q :: qs) k = some q.2 := by simp [atKey, List.find?_cons, e']
   rw [valV_pos e, b]; exact h2
  ·have e' : ¬ q.1 = k := fun z => e (h1.trans z)
   have b : atKey (q :: qs) k = atKey qs k := by simp [atKey, List.find?_cons, e']
   rw [valV_neg e, b]; exact ih
theorem KT.repl {H : Hp} {kvs : List (List Key × V)} {xs : List (List Key × Addr × Value)} (r : KT H kvs xs) (k : List Key) {y : V} {u : Value} (ry : RelV y u) :
  KT H (kvs.map fun kv => if kv.1 = k then (kv.1, y) else kv) (xs.map (putAt k u)) := by
 induction r with
 | nil => exact .nil
 | @cons p q ps qs h t ih =>
  rw [List.map_cons, List.map_cons]
  refine .cons ?_ ih
  obtain ⟨h1, h2, h3⟩ := h
  unfold putAt
  by_cases e : p.1 = k
  ·rw [if_pos e, if_pos (h1.symm.trans e)]; exact ⟨h1, h2, ry⟩
  ·rw [if_neg e, if_neg (fun z => e (h1.trans z))]; exact ⟨h1, h2, h3⟩
theorem KT.put {H : Hp} {kvs : List (List Key × V)} {xs : List (List Key × Addr × Value)} (r : KT H kvs xs) (k : List Key) {b : Addr} {y : V} {u : Value} (hb : H b = some (.tup (k.map kV))) (ry : RelV y u) :
  KT H (putK kvs k y) (storedH xs k b u) := by
 have e : (kvs.any fun kv => decide (kv.1 = k)) = (atKey xs k).isSome := by
  rw [valV_any, (r.val k).isSome_eq, Option.isSome_map]
 unfold putK storedH
 rw [e]
 by_cases q : (atKey xs k).isSome = true
 ·rw [if_pos q, if_pos q]; exact r.repl k ry
 ·rw [if_neg q, if_neg q]; exact Paired.snoc r ⟨rfl, hb, ry⟩
theorem KT.keeps {H H' : Hp} {kvs : List (List Key × V)} {xs : List (List Key × Addr × Value)} (r : KT H kvs xs) (ht : ∀ b ys, H b = some (.tup ys) -> H' b = some (.tup ys)) : KT H' kvs xs :=
 Paired.mapP r fun _ _ z => ⟨z.1, ht _ _ z.2.1, z.2.2⟩
section
variable {P : Program} {w : World} {H : Hp} {h : Heap} {a : Addr}
theorem rd_of {u : HO} (ok : HOk P w H h) (e : Rd H a u) : ObjOk P w H h a u := e.ok ok
theorem dk_rd {kvs : List (Key × V)} (ok : HOk P w H h) (e : Rd H a (.dK kvs)) : kvs.length <= sizeLine /\ (a == sysModules) = false /\ ∃ vs, KV kvs vs /\ h.DictOf (mixKind P w) a vs :=
 show ObjOk P w H h a (.dK kvs) from rd_of ok e
theorem dk_of {kvs : List (Key × V)} (ok : HOk P w H h) (e : H a = some (.dK kvs)) : kvs.length <= sizeLine /\ (a == sysModules) = false /\ ∃ vs, KV kvs vs /\ h.DictOf (mixKind P w) a vs := dk_rd ok (.inl e)
theorem key_of {ks : List Key} (ok : HOk P w H h) (e : H a = some (.tup (ks.map kV))) : (tupleKind (mixKind P w)).is h ks a := by
 obtain ⟨_, its, r, o, h1, h2, n, h3⟩ := (show ObjOk P w H h a (.tup (ks.map kV)) from ok a _ e)
 exact ⟨o, its.toArray, n, h1, h2, h3, by simpa using items_are r⟩
theorem dt_rd {kvs : List (List Key × V)} (ok : HOk P w H h) (e : Rd H a (.dT kvs)) : kvs.length <= sizeLine /\ (a == sysModules) = false /\
  ∃ xs, KT H kvs xs /\ h.DictOfH (tupleKind (mixKind P w)) a xs := by
 obtain ⟨z, y, xs, r, o, es, ep, h1, h2, h3, h4, h5⟩ := (show ObjOk P w H h a (.dT kvs) from rd_of ok e)
 refine ⟨z, y, xs, r, o, es, ep, h1, h2, h3, h4, fun x hx => ?_, h5⟩
 have all : ∀ {l : List (List Key × V)} {m : List (List Key × Addr × Value)}, KT H l m -> ∀ x ∈ m, (tupleKind (mixKind P w)).is h x.1 x.2.1 := by
  intro l m q
  induction q with
  | nil => intro x hx; exact nomatch hx
  | @cons p q ps qs hq t ih =>
   intro x hx
   rcases List.mem_cons.mp hx with e | hx
   ·subst e
    exact key_of ok (by rw [<- hq.1]; exact hq.2.1)
   ·exact ih x hx
 exact all r x hx
theorem dt_of {kvs : List (List Key × V)} (ok : HOk P w H h) (e : H a = some (.dT kvs)) : kvs.length <= sizeLine /\ (a == sysModules) = false /\
  ∃ xs, KT H kvs xs /\ h.DictOfH (tupleKind (mixKind P w)) a xs := dt_rd ok (.inl e)
end
def DGet (H : Hp) (a : Addr) (y : V) (r : Option V) : Prop :=
 (∃ kvs k, Rd H a (.dK kvs) /\ y = kV k /\ r = valV kvs k) ∨ ∃ kvs k b, Rd H a (.dT kvs) /\ y = .ref b /\ H b = some (.tup (k.map kV)) /\ r = valV kvs k
def DPut (H : Hp) (a : Addr) (y v : V) (H' : Hp) : Prop :=
 (∃ kvs k, H a = some (.dK kvs) /\ y = kV k /\ kvs.length < sizeLine /\ H' = upd H a (.dK (putK kvs k v))) ∨
 ∃ kvs k b, H a = some (.dT kvs) /\ y = .ref b /\ H b = some (.tup (k.map kV)) /\ kvs.length < sizeLine /\ H' = upd H a (.dT (putK kvs k v))
theorem DGet.t {H : Hp} {a b : Addr} {kvs : List (List Key × V)} {k : List Key} (e : H a = some (.dT kvs)) (eb : H b = some (.tup (k.map kV))) : DGet H a (.ref b) (valV kvs k) := .inr ⟨kvs, k, b, .inl e, rfl, eb, rfl⟩
theorem DPut.t {H : Hp} {a b : Addr} {kvs : List (List Key × V)} {k : List Key} {v : V} (e : H a = some (.dT kvs)) (eb : H b = some (.tup (k.map kV))) (hl : kvs.length < sizeLine) :
  DPut H a (.ref b) v (upd H a (.dT (putK kvs k v))) := .inr ⟨kvs, k, b, e, rfl, eb, hl, rfl⟩
section
variable {X : Cx} {pins : List (Addr × Obj)} {σ : St} {H : Hp} {s : Shared} {a : Addr} {y v : V} {u r : Value} {o : Option V} {A : Around} {E : Value -> Shared -> Prop}
theorem Inv.big (I : Inv X pins σ H s) : sysModules < s.heap.objs.size := by
 have h : mainGlobals < s.heap.objs.size := (I.mod.glob.keeps I.bk).lt
 exact Nat.lt_trans (by decide) h
theorem d_notIn {Q : Value -> Shared -> Prop} (hu : A.units + 1 < cLine) (I : Inv X pins σ H s) (g : DGet H a y o) (ry : RelV y u) (h : ∀ s', Inv X pins σ H s' -> Q (.bool (!o.isSome)) s') :
  wpAny (model X.prog X.w) A (compareOp .NotIn u (.ref a)) Q E s := by
 rcases g with ⟨kvs, k, e, ey, l⟩ | ⟨kvs, k, b, e, ey, eb, l⟩
 ·subst ey
  obtain ⟨z, hd, vs, rel, dd⟩ := dk_rd I.hok e
  refine wpAny_notIn_of (kV_is ry) hd dd.mapOf ?_
  rw [<- (rel.val k).isSome_eq, <- l]
  exact h _ (I.tok _)
 ·subst ey
  cases (show u = Value.ref b from ry)
  obtain ⟨z, hd, xs, rel, dd⟩ := dt_rd I.hok e
  refine wpAny_notIn_heap (tupleKind_room_in1 hu) (key_of I.hok eb) hd dd ?_
  have q := (rel.val k).isSome_eq
  rw [Option.isSome_map] at q
  rw [<- q, <- l]
  exact h _ (I.tok _)
theorem d_write {h' : Heap} {t' : Nat} {ob : HO} (I : Inv X pins σ H s) (mu : Mut (H a)) (hs : Heap.SameBut a s.heap h') (he : ∃ q, h'.get? a = some q) (new : ObjOk X.prog X.w (upd H a ob) h' a ob) :
  Inv X pins σ (upd H a ob) { s with heap := h', toks := t' } :=
 I.write (x := a) (e := a) mu (.inl rfl) (fun b q hb z => (hs.2 b hb).trans z) he new
theorem dk_new {P : Program} {w : World} {H' : Hp} {h' : Heap} {kvs : List (Key × V)} {vs : List (Key × Value)} (z : kvs.length <= sizeLine) (hd : (a == sysModules) = false) (rel : KV kvs vs) (dd : h'.DictOf (mixKind P w) a vs) :
  ObjOk P w H' h' a (.dK kvs) := ⟨z, hd, vs, rel, dd⟩
theorem d_setItem {H' : Hp} {Q : Unit -> Shared -> Prop} (hu : A.units + 1 < cLine) (I : Inv X pins σ H s) (g : DPut H a y v H') (ry : RelV y u) (rv : RelV v r) (h : ∀ s', Inv X pins σ H' s' -> Q () s') :
  wpAny (model X.prog X.w) A (setItem (.ref a) u r) Q E s := by
 rcases g with ⟨kvs, k, e, ey, l, eH⟩ | ⟨kvs, k, b, e, ey, eb, l, eH⟩
 ·subst ey eH
  obtain ⟨z, hd, vs, rel, dd⟩ := dk_of I.hok e
  have hz : vs.length <= sizeLine := by rw [<- rel.length]; exact z
  have hl : (putK kvs k v).length <= sizeLine := by have := length_putK kvs k v; omega
  refine wpAny_setItem_pairs (hsz := hz) (kV_is ry) dd fun h' dd' hs => h _ ?_
  have he : ∃ q, h'.get? a = some q := let ⟨q, _, _, hq, _⟩ := dd'; ⟨q, hq⟩
  exact d_write I (by rw [e]; exact True.intro) hs he (dk_new hl hd (rel.put k rv) dd')
 ·subst ey eH
  cases (show u = Value.ref b from ry)
  obtain ⟨z, hd, xs, rel, dd⟩ := dt_of I.hok e
  have hz : xs.length <= sizeLine := by rw [<- Paired.length rel]; exact z
  have hl : (putK kvs k v).length <= sizeLine := by have := length_putK kvs k v; omega
  refine wpAny_setItem_heap (hsz := hz) (tupleKind_room_in1 hu) (key_of I.hok eb) dd fun h' dd' hs => h _ ?_
  obtain ⟨q, es, ep, hq, h2, h3, h4, _, h5⟩ := dd'
  refine d_write I (by rw [e]; exact True.intro) hs ⟨q, hq⟩ ⟨hl, hd, _, (rel.put k eb rv).keeps fun c ys ec => ?_, q, es, ep, hq, h2, h3, h4, h5⟩
  rw [upd_ne (ne_of ec e (fun z => nomatch z))]
  exact ec
end
def tDNotIn (ty td : TE) : TE := fun σ H Q => ty σ H fun y H1 => td σ H1 fun x H2 => ∃ a o, x = .ref a /\ DGet H2 a y o /\ Q (.bl (!o.isSome)) H2
def sDPut (td ty tv : TE) : TS := fun D σ H => tv σ H fun v H1 => td σ H1 fun x H2 => ty σ H2 fun y H3 => ∃ a H4, x = .ref a /\ DPut H3 a y v H4 /\ D.nx σ H4
section
variable {X : Cx} {o i e value : Expr} {pos pos' tpos : Pos} {td ty tv : TE}
theorem pc_dnotin (hu : X.A.units + 1 < cLine) (hi : PE X i ty) (ho : PE X o td) : PC X .NotIn i o (tDNotIn ty td) := by
 intro pins s σ H Q I h
 refine thn (hi pins s σ H _ I h) fun iv s1 ⟨y, H1, I1, ry, q1⟩ => thn (ho pins s1 σ H1 _ I1 q1) fun u s2 ⟨x, H2, I2, rx, a, ov, ex, g, q2⟩ => ?_
 subst ex
 obtain rfl : u = Value.ref a := rx
 exact d_notIn hu I2 g ry fun s3 I3 => ⟨.bl (!ov.isSome), H2, I3, rfl, q2⟩
theorem ps_dput (hu : X.A.units + 1 < cLine) (ho : PE X o td) (hi : PE X i ty) (hv : PE X value tv) (hs : swapsWith value (some (.Subscript o i pos')) pos.line X.env = pure false) :
  PS X (.Assign [.Subscript o i pos'] value pos) (sDPut td ty tv) := by
 intro pins s σ H D I h
 refine wpAny_Assign_Subscript (thn (hv pins s σ H _ I h) fun r s1 ⟨v, H1, I1, rv, q1⟩ => thn (ho pins s1 σ H1 _ I1 q1) fun u s2 ⟨x, H2, I2, rx, q2⟩ => thn (hi pins s2 σ H2 _ I2 q2) fun iv s3 ⟨y, H3, I3, ry, a, H4, ex, g, q3⟩ => ?_) hs
 subst ex
 obtain rfl : u = Value.ref a := rx
 exact d_setItem hu I3 g ry rv fun s4 I4 => ⟨σ, H4, I4, q3⟩
end
theorem dt_empty {P : Program} {w : World} {H : Hp} (h : Heap) (hb : sysModules < h.objs.size) : ObjOk P w H (h.push { cls := .type "dict", data := .dict #[] }) h.objs.size (.dT []) :=
 ⟨Nat.zero_le _, beq_eq_false_iff_ne.mpr (Ne.symm (Nat.ne_of_lt hb)), [], .nil, _, #[], 0, Heap.get?_push_size _ rfl, ⟨rfl, rfl, rfl⟩, rfl, rfl, List.nodup_nil⟩
def tDNewT : TE := fun _ H Q => ∀ p, H p = none -> Q (.ref p) (upd H p (.dT []))
section
variable {X : Cx} {pos : Pos}
theorem pe_dnewT : PE X (.Dict [] [] pos) tDNewT := fun pins s σ H Q I h =>
 wpAny_Dict_empty ⟨.ref s.heap.objs.size, _, I.laid (a := s.heap.objs.size) (o := .dT []) (t' := s.toks) (fun _ _ q => Heap.get?_push_of_some _ q) (Nat.le_refl _) (dt_empty s.heap I.big), rfl, h _ (I.hok.fresh (Nat.le_refl _))⟩
end
structure M2 (X : Cx) (o : Expr) (m : Str) (apos : Pos) (e f : Expr) (cpos : Pos) : Prop where
 base : attributeBase o m X.env (eval o X.env) = eval o X.env
 few : ((backTo cpos (starEach [e, f] X.env)).all (fun x => !x.1) && (backToKw cpos (keywordEach [] X.env)).all (fun x => x.1.isSome)
  && decide (([e, f] : List Expr).length + ([] : List Keyword).length + (if ([] : List Keyword).isEmpty then 0 else 1) < 30)) = true
 line : (apos.endLine == cpos.line) = true
 trees : backTo cpos (starEach [e, f] X.env) = [(false, eval e X.env), (false, eval f X.env)]
def IsD (H : Hp) (a : Addr) : Prop := (∃ kvs, Rd H a (.dK kvs)) ∨ ∃ kvs, Rd H a (.dT kvs)
theorem isD_at {X : Cx} {pins : List (Addr × Obj)} {σ : St} {H : Hp} {s : Shared} {a : Addr} (I : Inv X pins σ H s) (d : IsD H a) :
  s.TypeIs (.ref a) "dict" /\ (∀ b, Value.ref a = .ref b -> ∃ ob, s.heap.get? b = some ob /\ ob.dict = none) /\ (a == sysModules) = false := by
 rcases d with ⟨kvs, e⟩ | ⟨kvs, e⟩
 ·obtain ⟨_, hd, vs, _, dd⟩ := dk_rd I.hok e
  refine ⟨dd.typeIs, fun b q => ?_, hd⟩
  cases q
  obtain ⟨ob, _, _, h1, h2, _⟩ := dd
  exact ⟨ob, h1, h2.2.1⟩
 ·obtain ⟨_, hd, xs, _, dd⟩ := dt_rd I.hok e
  refine ⟨dd.typeIs, fun b q => ?_, hd⟩
  cases q
  obtain ⟨ob, _, _, h1, h2, _⟩ := dd
  exact ⟨ob, h1, h2.2.1⟩
section
variable {X : Cx} {pins : List (Addr × Obj)} {σ : St} {H : Hp} {s : Shared} {a : Addr} {y d : V} {u r : Value} {o : Option V} {A : Around} {E : Value -> Shared -> Prop}
theorem d_get2 {Q : Value -> Shared -> Prop} (hu : A.units + 1 < cLine) (I : Inv X pins σ H s) (g : DGet H a y o) (ry : RelV y u) (rd : RelV d r) (h : ∀ w' s', Inv X pins σ H s' -> RelV (o.getD d) w' -> Q w' s') :
  wpAny (model X.prog X.w) A (call (.builtin "dict.get") [.ref a, u, r]) Q E s := by
 rcases g with ⟨kvs, k, e, ey, l⟩ | ⟨kvs, k, b, e, ey, eb, l⟩
 ·subst ey
  obtain ⟨z, hd, vs, rel, dd⟩ := dk_rd I.hok e
  refine call_meetsIn PySem.F.slot_dict_get dd.typeIs PySem.F.entry_dict_get (PySem.F.args_dict_get_3 _ _ _) (meets_dict_get_default (mixKind X.prog X.w) a (kV_is ry) hd r) ⟨_, dd.mapOf, h _ _ (I.tok _) ?_⟩
  rw [l]
  exact (rel.val k).getD rd
 ·subst ey
  cases (show u = Value.ref b from ry)
  obtain ⟨z, hd, xs, rel, dd⟩ := dt_rd I.hok e
  refine call_meetsIn PySem.F.slot_dict_get dd.typeIs PySem.F.entry_dict_get (PySem.F.args_dict_get_3 _ _ _) (meetsH_dict_get_default (tupleKind (mixKind X.prog X.w)) a b hd r) ⟨tupleKind_room_in1 hu, k, xs, key_of I.hok eb, dd, h _ _ (I.tok _) ?_⟩
  rw [l]
  exact (rel.val k).getD rd
end
def tDGet2 (td ty tx : TE) : TE := fun σ H Q => td σ H fun x H1 => ∃ a, x = .ref a /\ IsD H1 a /\ ty σ H1 fun y H2 => tx σ H2 fun z H3 => ∃ o, DGet H3 a y o /\ Q (o.getD z) H3
section
variable {X : Cx} {o e f : Expr} {apos cpos : Pos} {td ty tx : TE}
theorem pe_dget2 (hu : X.A.units + 1 < cLine) (ho : PE X o td) (he : PE X e ty) (hf : PE X f tx) (m : M2 X o "get" apos e f cpos) : PE X (.Call (.Attribute o "get" apos) [e, f] [] cpos) (tDGet2 td ty tx) := by
 intro pins s σ H Q I h
 refine wpAny_Call_method m.base m.few m.line PySem.F.plainAttrs_dict PySem.F.slot_dict_get PySem.F.type_dict_get (thn (ho pins s σ H _ I h) fun u s1 ⟨x, H1, I1, rx, a, ex, d, q1⟩ => ?_)
 subst ex
 obtain rfl : u = Value.ref a := rx
 obtain ⟨t1, t2, _⟩ := isD_at I1 d
 refine ⟨t1, t2, ?_⟩
 rw [m.trees]
 refine Calls.callWith_builtin rfl (Calls.evalArgs_plain (Calls.spliced_cons (thn (he pins s1 σ H1 _ I1 q1) fun iv s2 ⟨y, H2, I2, ry, q2⟩ =>
  Calls.spliced_cons (thn (hf pins s2 σ H2 _ I2 q2) fun fv s3 ⟨z, H3, I3, rz, ov, g, q3⟩ => Calls.spliced_nil ?_))))
 exact d_get2 hu I3 g ry rz fun w' s4 I4 rw' => ⟨_, H3, I4, rw', q3⟩
end
end L2
namespace L2
open PySem PySem.Spec PyProof.Rows
section
variable {X : Cx} {pins : List (Addr × Obj)} {σ : St} {H : Hp} {s : Shared} {h' : Heap}
theorem Inv.turnedNew {t' : Nat} {ch : List Addr} {T : Addr} {ob : HO} (I : Inv X pins σ H s) (k : ∀ b o, b ∉ ch -> s.heap.get? b = some o -> h'.get? b = some o) (hf : ∀ b ∈ ch, FpOk X pins H b) (hT : s.heap.objs.size <= T)
  (new : ObjOk X.prog X.w (upd H T ob) h' T ob) : Inv X pins σ (upd H T ob) { s with heap := h', toks := t' } := by
 have hn : H T = none := I.hok.fresh hT
 have nit : ∀ b u, H b = some u -> b ∉ ch := fun b u e z => by
  have q := (hf b z).1
  rw [q] at e; cases e
 refine I.step (g' := s.gens) (d' := s.drawn) (ch := ch) (fun b hb => ⟨(hf b hb).2.2.2.1, (hf b hb).2.1, (hf b hb).2.2.2.2.1, (hf b hb).2.2.2.2.2⟩) (fun b o _ _ hc e _ => k b o hc e) (fun b o _ _ hc e _ => ⟨o.slots, k b o hc e⟩)
  (fun b o _ e n => ?_) (fun b o hc e => ⟨o, k b o hc e⟩) (fun b xs e => ?_) (fun b o u e => ?_) (fun b ps e => ⟨#[], ?_⟩) (fun m hm => ?_) (fun b u e => ?_) I.bare
 ·rw [upd_ne (Nat.ne_of_lt (Nat.lt_of_lt_of_le (Heap.lt_size e) hT))]; exact n
 ·rw [upd_ne (ne_of_none e hn)]; exact e
 ·rw [upd_ne (ne_of_none e hn)]; exact e
 ·rw [upd_ne (ne_of_none e hn), e]; simp
 ·obtain ⟨o, es, ep, ho, r⟩ := hm
  exact ⟨o, es, ep, k _ o (fun z => (hf _ z).2.1 rfl) ho, r⟩
 ·by_cases hb : b = T
  ·subst hb
   rw [upd_same] at e
   cases e
   exact new
  ·rw [upd_ne hb] at e
   refine (I.hok b u e).stay (fun c v hc q => k c v ?_ q) (fun c q => by rw [upd_ne (ne_of_none q hn)]; exact q) fun c xs q => by rw [upd_ne (ne_of_none q hn)]; exact q
   rcases hc with z | z
   ·rw [z]; exact nit b u e
   ·exact nit c _ z
end
def Ite (K : W.Frag) (a : Addr) : It :=
 ⟨fun i H => ∃ (xs : List V) (x : V), SqL K H a xs /\ xs[i]? = some x, fun i H v H' => ∃ T x, v = .ref T /\ H T = none /\ H' = upd H T (.tup [.int (i : Nat), x]) /\ ∀ xs, SqL K H a xs -> xs[i]? = some x, fun i H => ∃ xs : List V, SqL K H a xs /\ xs.length <= i⟩
theorem turn_enum {P : Program} {w : World} {K : W.Frag} {elts : List Expr} {kk : Nat} {tpos : Pos} (a e it : Addr) :
  Turn P w K (.Tuple elts kk tpos) (Ite K a) [e, it] e (fun i h => (∃ old, IsEnum h e it ((i : Nat) : Int) old) /\ h.IsListIter it a i /\ e ≠ it) where
 mem := by simp
 obj := fun i h st b hb => by
  obtain ⟨⟨old, he⟩, ⟨o, ho, hc, hd⟩, _⟩ := st
  have e' : b = e ∨ b = it := by simpa using hb
  rcases e' with z | z
  ·rw [z]; exact ⟨_, he, fun v q => nomatch q⟩
  ·rw [z]; exact ⟨o, ho, fun v q => by rw [hd] at q; cases q⟩
 keep := fun i h h' st k => let ⟨⟨old, he⟩, hi, hne⟩ := st; ⟨⟨old, k e (by simp) _ he⟩, hi.at fun o q => k it (by simp) o q, hne⟩
 item := by
  intro X hP hw hK hc i pins s σ H E I hf st hg
  subst hP hw hK
  obtain ⟨⟨old, he⟩, hit, hne⟩ := st
  obtain ⟨xs, x, hq, hx⟩ := hg
  obtain ⟨its, rv, p, hz⟩ := I.list hq
  obtain ⟨u, hu, ru⟩ := rv.get hx
  have hel : e < s.heap.objs.size := Heap.lt_size he
  have hil : it < s.heap.objs.size := by obtain ⟨_, q, _⟩ := hit; exact Heap.lt_size q
  refine wpAny_pyNext_enum_item he hit p.isList (x := u) (by simpa using hu) hne fun h' ho hit' hT hsz hk => ?_
  refine ⟨_, rfl, wpAny_letOwnedTupleGo_enum (s := { s with heap := h', toks := s.toks + 1 }) ho fun h'' he' sb => ?_⟩
  have hT2 : h''.get? s.heap.objs.size = some { cls := .type "tuple", data := .seq #[.int i s.toks, u] } := (sb.2 _ (Nat.ne_of_gt hel)).trans hT
  have new : ObjOk X.prog X.w (upd H s.heap.objs.size (.tup [.int (i : Nat), x])) h'' s.heap.objs.size (.tup [.int (i : Nat), x]) :=
   ⟨by show 2 <= sizeLine; decide, [.int i s.toks, u], .cons ⟨_, rfl⟩ (.cons ru .nil), ⟨_, hT2, rfl, _, rfl⟩⟩
  have I1 : Inv X pins σ (upd H s.heap.objs.size (.tup [.int (i : Nat), x])) { s with heap := h'', toks := s.toks + 1 } :=
   I.turnedNew (ch := [e, it]) (fun b ob hb q => (sb.2 b (fun z => hb (by simp [z]))).trans (hk b ob (fun z => hb (by simp [z])) (fun z => hb (by simp [z])) q)) hf (Nat.le_refl _) new
  refine ⟨.ref s.heap.objs.size, _, I1, rfl, ⟨_, x, rfl, I.hok.fresh (Nat.le_refl _), rfl, fun ys hy => by rw [I.list_inj hy hq]; exact hx⟩, ⟨⟨u, ?_⟩, hit'.at fun o q => (sb.2 it (Ne.symm hne)).trans q, hne⟩, fun b hb => ?_⟩
  ·have e1 : ((i + 1 : Nat) : Int) = (i : Int) + 1 := by omega
   rw [e1]; exact he'
  ·have hb' : b < s.heap.objs.size := by
    have e' : b = e ∨ b = it := by simpa using hb
    rcases e' with z | z
    ·rw [z]; exact hel
    ·rw [z]; exact hil
   rw [upd_ne (Nat.ne_of_lt hb')]
   exact (hf b hb).1
 done := by
  intro X hP hw hK hc i pins s σ H E I hf st hg
  subst hP hw hK
  obtain ⟨⟨old, he⟩, hit, hne⟩ := st
  obtain ⟨xs, hq, hx⟩ := hg
  obtain ⟨its, rv, p, hz⟩ := I.list hq
  obtain ⟨f0, f1, f2, f3, f4, f5⟩ := hf it (by simp)
  have hl := rv.length
  exact wpAny_pyNext_enum_end (I.ok.hd hc) he hit p.isList (by simp; omega) fun h' eb => ⟨rfl, I.turned (t' := s.toks) (fun b o hb q => eb b o hb q) f0 f1 f3 f4 f5⟩
 self := fun A i s Q E st h => let ⟨⟨_, he⟩, _⟩ := st; wpAny_pyIter_enum he h
def iEnum (K : W.Frag) (ta : TA) : TI := fun σ H R => ta σ H fun vs H1 => ∃ a xs, vs = [.ref a] /\ SqL K H1 a xs /\ R (Ite K a) H1
theorem pi_enum {X : Cx} {e : Expr} {ta : TA} {p pos tpos : Pos} {elts : List Expr} {kk : Nat} (hg : Gl X "enumerate") (hm : X.mg "enumerate" = none) (ha : PA X [e] ta) (hs : starEach [e] X.env = [(false, eval e X.env)] := by rfl) :
  PI X (.Tuple elts kk tpos) (.Call (.Name "enumerate" p) [e] [] pos) (iEnum X.K ta) := by
 intro pins s σ H R I h
 refine Call_ (ld_blt I hg hm boot_enumerate (PyProof.Rows.callWith_type1 (thn (ha pos pins s σ H _ I h) fun us s1 ⟨vs, H1, I1, r1, q1⟩ => ?_) hs rfl))
 obtain ⟨a, xs, ex, hq, q⟩ := q1
 subst ex
 cases r1 with
 | cons r rr =>
  cases rr
  cases r
  obtain ⟨its, rv, p', hz⟩ := I1.list hq
  refine call_enumerate_list p'.isList fun h' he hit hsz hk => wpAny_pyIter_enum he ?_
  have I2 : Inv X pins σ H1 { s1 with heap := h' } := I1.kept (t' := s1.toks) hk
  refine ⟨s1.heap.objs.size + 1, [s1.heap.objs.size + 1, s1.heap.objs.size], _, _, H1, rfl, I2, turn_enum a (s1.heap.objs.size + 1) s1.heap.objs.size, ⟨⟨.none, he⟩, hit, Nat.succ_ne_self _⟩, fun b hb => ?_, q⟩
  have e' : b = s1.heap.objs.size + 1 ∨ b = s1.heap.objs.size := by simpa using hb
  have hle : s1.heap.objs.size <= b := by
   rcases e' with z | z
   ·rw [z]; exact Nat.le_add_right _ _
   ·rw [z]; exact Nat.le_refl _
  exact I1.fpOk hle (I1.hok.fresh hle)
end L2
section 
end 
section 
end 
namespace L2
open PySem PySem.Spec PyProof.Rows
def inClass (s : Stmt) (j : Nat) : Stmt := match s with
 | .ClassDef _ _ _ body _ _ _ _ _ _ _ => body.getD j (.Pass ⟨0, 0, 0, 0⟩)
 | _ => .Pass ⟨0, 0, 0, 0⟩
def defArgs (s : Stmt) : Arguments := match s with
 | .FunctionDef _ a _ _ _ _ _ _ _ _ => a
 | _ => { posonlyargs := [], args := [], vararg := none, kwonlyargs := [], kw_defaults := [], kwarg := none, defaults := [] }
def defBody (s : Stmt) : List Stmt := match s with
 | .FunctionDef _ _ b _ _ _ _ _ _ _ => b
 | _ => []
def defScope (s : Stmt) : Scope := match s with
 | .FunctionDef _ _ _ _ _ _ sc _ _ _ => sc
 | _ => { kind := .function, names := [], isGenerator := false, isCoroutine := false }
abbrev CX0 : CXT := fun _ _ _ _ _ _ => False
abbrev E0 : XK := fun _ _ _ => False
theorem pass0 {X : Cx} : Passes CX0 X E0 := fun _ _ _ _ _ _ _ h => h.elim
structure Fun (K : W.Frag) (x qual : Str) (st : Stmt) (f : Addr) (fd : FuncData) : Prop where
 ex : ∃ (oc : Value) (od : Option Addr) (kV doc pm : Value) (an : Option Addr) (cdv ct : Value) (osl : Array (Option Value)),
  fd = PySem.W.fnOf x qual (defArgs st) (defBody st) (defScope st) .none kV doc pm an cdv ct /\ K.lookup f = some ⟨oc, od, .func fd, osl⟩ /\ PySem.W.codeIn K cdv qual = true
 kp : PySem.W.keepIn K (.ref f) = true
section
variable {P : Program} {w : World} {K : W.Frag} {mg : Str -> Option Value} {base : Heap}
theorem Fun.ok {x qual : Str} {st : Stmt} {f : Addr} {fd : FuncData} {N ps : List Str} {k : Nat} {sp : Sp} (F : Fun K x qual st f fd) (S : FnScope N ps (defScope st)) (len : ∀ vs H Q E, sp vs H Q E -> vs.length = ps.length)
  (hbody : ∀ (cdv : Value) (A : Around) (outer : List Env) (s : Shared) (H : Hp) (vs : List V) (Q : VK) (E : XK), Room k (A.deeper (envOfC qual (defScope st) s.heap.objs.size f cdv)) -> sp vs H Q E ->
   ∃ t, PSs (cxOf CX0 P w K mg base N qual (defScope st) f cdv A outer s H E).nox (defBody st) t /\ t { nx := fun _ H' => Q .non H', rt := Q } (start N vs) H) : FnOk P w K mg base CX0 (k + 1) f fd ps sp := by
 obtain ⟨oc, od, kV, doc, pm, an, cdv, ct, osl, rfl, lk, hcd⟩ := F.ex
 refine fn_of lk hcd S len fun A outer s H vs Q E hr hsp => ?_
 obtain ⟨t, h, q⟩ := hbody cdv A outer s H vs Q E hr hsp
 exact ⟨t, h.nox, q⟩
theorem Fun.binds {x qual : Str} {st : Stmt} {f : Addr} {fd : FuncData} {ps : List Str} (F : Fun K x qual st f fd)
  (h : ∀ (kV doc pm : Value) (an : Option Addr) (cdv ct : Value) (us : List Value), us.length = ps.length -> bindArgs (PySem.W.fnOf x qual (defArgs st) (defBody st) (defScope st) .none kV doc pm an cdv ct) ⟨us, []⟩ = pure (ps.zip us)) : Binds K fd ps [] := by
 obtain ⟨oc, od, kV, doc, pm, an, cdv, ct, osl, rfl, lk, hcd⟩ := F.ex
 exact .all (h kV doc pm an cdv ct)
theorem fun_mk {x qual : Str} {st : Stmt} {f : Addr} {oc : Value} {od an : Option Addr} {osl : Array (Option Value)} {kV doc pm cdv ct : Value} (l : K.lookup f = some ⟨oc, od, .func (PySem.W.fnOf x qual (defArgs st) (defBody st) (defScope st) .none kV doc pm an cdv ct), osl⟩)
  (c : PySem.W.codeIn K cdv qual = true) (k : PySem.W.keepIn K (.ref f) = true) : Fun K x qual st f (PySem.W.fnOf x qual (defArgs st) (defBody st) (defScope st) .none kV doc pm an cdv ct) := ⟨⟨oc, od, kV, doc, pm, an, cdv, ct, osl, rfl, l, c⟩, k⟩
end
section
variable {X : Cx}
theorem pv (i : Nat) {x : Str} {pos : Pos} (hN : X.N[i]? = some x := by rfl) (hv : Vis X.env.scope x := by first | exact Or.inl rfl | exact Or.inr (Or.inl rfl) | exact Or.inr (Or.inr rfl)) (hd : (x == ("__debug__" : Str)) = false := by decide)
  (hcd : (x == ("__classdict__" : Str)) = false := by decide) : PE X (.Name x pos) (tVar i) := pe_var hN hv hd hcd
end
theorem iteF {A B : Prop} (h : B) : if false = true then A else B := by
 rw [if_neg Bool.false_ne_true]
 exact h
theorem iteT {A B : Prop} (h : A) : if true = true then A else B := by
 rw [if_pos rfl]
 exact h
def Same (H H' : Hp) : Prop := ∀ b o, H b = some o -> H' b = some o
theorem Same.refl (H : Hp) : Same H H := fun _ _ h => h
theorem Same.trans {H H1 H2 : Hp} (a : Same H H1) (b : Same H1 H2) : Same H H2 := fun c o h => b c o (a c o h)
theorem Same.free {H H' : Hp} (e : Same H H') {l : Addr} (h : H' l = Option.none) : H l = Option.none := by
 cases q : H l with
 | none => rfl
 | some o =>
  rw [e l o q] at h
  cases h
theorem Same.seq {K : W.Frag} {H H' : Hp} {a : Addr} {xs : List V} (e : Same H H') (h : SqL K H a xs) : SqL K H' a xs := by
 rcases h with (h | ⟨o, h⟩) | h
 ·exact .inl (.inl (e _ _ h))
 ·exact .inl (.inr ⟨o, e _ _ h⟩)
 ·exact .inr h
theorem Same.made {H H1 : Hp} {x dx C : Addr} (nx : H x = Option.none) (nd : H dx = Option.none) (k : ∀ b o, (upd (upd H dx (.own x)) x (.ins C dx [])) b = some o -> b ≠ x -> H1 b = some o) : Same H H1 := fun b o e =>
 k b o (by rw [upd_ne (ne_of_none e nx), upd_ne (ne_of_none e nd)]; exact e) (ne_of_none e nx)
end L2
section
set_option Elab.async false
set_option linter.all false
set_option maxRecDepth 100000
set_option maxHeartbeats 2000000
namespace L2
open PySem PySem.Spec PyProof.Rows
open PySem.W (WData Codec OpenSpec Well WellAll ReadsW ReadsAllW)
mutual
/-- x stands for the datum d, lists and tuples all the way -/
inductive Dw (K : W.Frag) (H : Hp) : V -> WData -> Prop
 | non : Dw K H .non .none
 | bl (b : Bool) : Dw K H (.bl b) (.bool b)
 | int (i : Int) : Dw K H (.int i) (.int i)
 | str (x : Str) : Dw K H (.str x) (.str x)
 | byt (b : Array UInt8) : Dw K H (.byt b) (.bytes b.toList)
 | lst {a : Addr} {xs : List V} {ds : List WData} : SqL K H a xs -> DwAll K H xs ds -> Dw K H (.ref a) (.list ds)
 | tup {a : Addr} {xs : List V} {ds : List WData} : SqT K H a xs -> DwAll K H xs ds -> Dw K H (.ref a) (.tuple ds)
inductive DwAll (K : W.Frag) (H : Hp) : List V -> List WData -> Prop
 | nil : DwAll K H [] []
 | cons {v : V} {vs : List V} {d : WData} {ds : List WData} : Dw K H v d -> DwAll K H vs ds -> DwAll K H (v :: vs) (d :: ds)
end
theorem dw_ints {K : W.Frag} {H : Hp} : ∀ ns : List Int, DwAll K H (ns.map V.int) (ns.map WData.int)
 | [] => .nil
 | n :: r => .cons (.int n) (dw_ints r)
theorem ints_dw {K : W.Frag} {H : Hp} : ∀ (ns : List Int) (xs : List V), DwAll K H xs (ns.map WData.int) -> xs = ns.map V.int
 | [], xs, h => by
  cases h
  rfl
 | n :: r, xs, h => by
  cases h with
  | cons h1 h2 =>
   cases h1
   rw [ints_dw r _ h2] <;> rfl
section
variable {P : Program} {w : World} {K : W.Frag} {H : Hp} {h : Heap} {R : PySem.W.WRecords} {cl : Str -> Option Addr}
theorem sqL_at {a : Addr} {xs : List V} (hok : HOk P w H h) (KX : K.In h) (q : SqL K H a xs) : ∃ (its : List Value) (o : Obj) (n : Nat), Vals xs its /\ h.get? a = some o /\ o.cls = .type "list" /\ o.data = .seq its.toArray n := by
 rcases q with q | ⟨o, its, n, e, hc, _, hd, _, hv⟩
 ·obtain ⟨_, its, n, hv, e⟩ := (show ObjOk P w H h a (.lst xs) from q.ok hok)
  exact ⟨its, _, n, hv, e, rfl, rfl⟩
 ·exact ⟨its.toList, o, n, hv, KX _ _ e, hc, by simp [hd]⟩
theorem sqT_at {a : Addr} {xs : List V} (hok : HOk P w H h) (KX : K.In h) (q : SqT K H a xs) : ∃ (its : List Value) (o : Obj) (n : Nat), Vals xs its /\ h.get? a = some o /\ o.cls = .type "tuple" /\ o.data = .seq its.toArray n := by
 rcases q with q | ⟨o, its, n, e, hc, hd, _, hv⟩
 ·obtain ⟨_, its, hv, o, e, hc, n, hd⟩ := (show ObjOk P w H h a (.tup xs) from q.ok hok)
  exact ⟨its, o, n, hv, e, hc, hd⟩
 ·exact ⟨its.toList, o, n, hv, KX _ _ e, hc, by simp [hd]⟩
mutual
theorem Dw.reads (hok : HOk P w H h) (KX : K.In h) : ∀ (d : WData) (v : V) (u : Value), Dw K H v d -> RelV v u -> ∃ as, ReadsW R cl h u d as
 | .none, _, _, x, r => by
  cases x
  cases r
  exact ⟨_, ReadsW.none⟩
 | .bool b, _, _, x, r => by
  cases x
  cases r
  exact ⟨_, ReadsW.bool b⟩
 | .int i, _, _, x, r => by
  cases x
  obtain ⟨t, rfl⟩ := r
  exact ⟨_, ReadsW.int i t⟩
 | .str s, _, _, x, r => by
  cases x
  obtain ⟨t, rfl⟩ := r
  exact ⟨_, ReadsW.str s t⟩
 | .bytes b, _, _, x, r => by
  cases x
  obtain ⟨t, rfl⟩ := r
  exact ⟨_, ReadsW.bytes _ t⟩
 | .list ds, _, _, x, r => by
  cases x with
  | lst hs ha =>
   cases r
   obtain ⟨its, o, n, rv, ho, hc, hd⟩ := sqL_at hok KX hs
   obtain ⟨as, hr⟩ := Dw.readsAll hok KX ds _ its ha rv
   exact ⟨_, ReadsW.list ho hc hd hr⟩
 | .tuple ds, _, _, x, r => by
  cases x with
  | tup hs ha =>
   cases r
   obtain ⟨its, o, n, rv, ho, hc, hd⟩ := sqT_at hok KX hs
   obtain ⟨as, hr⟩ := Dw.readsAll hok KX ds _ its ha rv
   exact ⟨_, ReadsW.tuple ho hc hd hr⟩
 | .float _, _, _, x, _ => by cases x
 | .dict _, _, _, x, _ => by cases x
 | .bytearray _, _, _, x, _ => by cases x
 | .set _, _, _, x, _ => by cases x
 | .frozenset _, _, _, x, _ => by cases x
 | .obj _ _, _, _, x, _ => by cases x
theorem Dw.readsAll (hok : HOk P w H h) (KX : K.In h) : ∀ (ds : List WData) (vs : List V) (us : List Value), DwAll K H vs ds -> Vals vs us -> ∃ as, ReadsAllW R cl h us ds as
 | [], _, _, x, r => by
  cases x
  cases r
  exact ⟨_, ReadsAllW.nil⟩
 | d :: ds, _, _, x, r => by
  cases x with
  | cons h1 h2 =>
   cases r with
   | cons r1 r2 =>
    obtain ⟨as, q1⟩ := Dw.reads hok KX d _ _ h1 r1
    obtain ⟨bs, q2⟩ := Dw.readsAll hok KX ds _ _ h2 r2
    exact ⟨_, ReadsAllW.cons q1 q2⟩
end
end
mutual
/-- data that a codec tells -/
def plW : WData -> Bool
 | .none => true
 | .bool _ => true
 | .int _ => true
 | .str _ => true
 | .bytes _ => true
 | .list xs => plWs xs
 | .tuple xs => plWs xs
 | _ => false
def plWs : List WData -> Bool
 | [] => true
 | x :: r => plW x && plWs r
end
theorem plWs_map {α : Type} {f : α -> WData} (h : ∀ a, plW (f a) = true) : ∀ l : List α, plWs (l.map f) = true
 | [] => rfl
 | x :: r => by
  show (plW (f x) && plWs (r.map f)) = true
  rw [h x, plWs_map h r] <;> rfl
theorem pl_enc : ∀ (c : Codec) (a : c.denote), plW (c.enc a) = true
 | .unit, _ => rfl
 | .bool, _ => rfl
 | .int _ _, _ => rfl
 | .nat _ _, _ => rfl
 | .u8, _ => rfl
 | .bytes _ _, _ => rfl
 | .text _ _ _ _, _ => rfl
 | .list _ _ c, a => plWs_map (fun x => pl_enc c x) a
 | .pair c d, a => by
  show (plW (c.enc a.1) && (plW (d.enc a.2) && true)) = true
  rw [pl_enc c a.1, pl_enc d a.2] <;> rfl
 | .triple c d e, a => by
  show (plW (c.enc a.1) && (plW (d.enc a.2.1) && (plW (e.enc a.2.2) && true))) = true
  rw [pl_enc c a.1, pl_enc d a.2.1, pl_enc e a.2.2] <;> rfl
 | .option c, none => rfl
 | .option c, some x => pl_enc c x
theorem pl_encAll : ∀ (cs : List Codec) (a : Codec.denoteAll cs), plWs (Codec.encAll cs a) = true
 | [], _ => rfl
 | c :: cs, a => by
  show (plW (c.enc a.1) && plWs (Codec.encAll cs a.2)) = true
  rw [pl_enc c a.1, pl_encAll cs a.2] <;> rfl
theorem weight_mem : ∀ {xs : List WData} {d : WData}, d ∈ xs -> d.weight <= WData.weightAll xs
 | [], d, h => absurd h (by simp)
 | x :: r, d, h => by
  show d.weight <= x.weight + 1 + WData.weightAll r
  rcases List.mem_cons.mp h with e | m
  ·rw [e]
   omega
  ·have z := weight_mem m
   omega
def toV : Value -> V
 | .none => .non
 | .bool b => .bl b
 | .int i _ => .int i
 | .str x _ => .str x
 | .bytes b _ => .byt b
 | .ref a => .ref a
 | _ => .non
def OkU (A : List Addr) : Value -> Prop
 | .none => True
 | .bool _ => True
 | .int _ _ => True
 | .str _ _ => True
 | .bytes _ _ => True
 | .ref a => a ∈ A
 | _ => False
theorem OkU.mono {A B : List Addr} (h : ∀ a ∈ A, a ∈ B) : ∀ {u : Value}, OkU A u -> OkU B u := fun {u} x => by
 cases u with
 | ref a => exact h a x
 | none => trivial
 | bool b => trivial
 | int i t => trivial
 | str s t => trivial
 | bytes b t => trivial
 | _ => exact False.elim x
theorem relV_toV {A : List Addr} {u : Value} (x : OkU A u) : RelV (toV u) u := by
 cases u with
 | ref a => rfl
 | none => rfl
 | bool b => rfl
 | int i t => exact ⟨t, rfl⟩
 | str s t => exact ⟨t, rfl⟩
 | bytes b t => exact ⟨t, rfl⟩
 | _ => exact False.elim x
theorem vals_toV {A : List Addr} : ∀ {vs : List Value}, (∀ u ∈ vs, OkU A u) -> Vals (vs.map toV) vs
 | [], _ => .nil
 | u :: r, h => .cons (relV_toV (h u (List.mem_cons_self ..))) (vals_toV fun x hx => h x (List.mem_cons_of_mem _ hx))
def ArgOb (h : Heap) (A : List Addr) (a : Addr) : Prop := ∃ vs : List Value, vs.length <= sizeLine /\ (∀ u ∈ vs, OkU A u) /\
 (h.get? a = some { cls := .type "list", data := .seq vs.toArray } ∨ h.get? a = some { cls := .type "tuple", data := .seq vs.toArray })
theorem ArgOb.mono {h : Heap} {A B : List Addr} {a : Addr} (k : ∀ a ∈ A, a ∈ B) (x : ArgOb h A a) : ArgOb h B a := by
 obtain ⟨vs, h1, h2, h3⟩ := x
 exact ⟨vs, h1, fun u hu => (h2 u hu).mono k, h3⟩
theorem wellAll_len {P : Params} {h : Heap} : ∀ {vs : List Value} {ds : List WData}, WellAll P h vs ds -> vs.length = ds.length
 | _, _, .nil => rfl
 | _, _, .cons _ b => by
  show _ + 1 = _ + 1
  rw [wellAll_len b]
theorem well_list {P : Params} {h : Heap} {v : Value} {ds : List WData} (x : Well P h v (.list ds)) : ∃ (a : Addr) (vs : List Value), v = .ref a /\ h.get? a = some { cls := .type "list", data := .seq vs.toArray } /\ WellAll P h vs ds := by
 cases x with
 | list ho hall => exact ⟨_, _, rfl, ho, hall⟩
theorem well_tuple {P : Params} {h : Heap} {v : Value} {ds : List WData} (x : Well P h v (.tuple ds)) : ∃ (a : Addr) (vs : List Value), v = .ref a /\ h.get? a = some { cls := .type "tuple", data := .seq vs.toArray } /\ WellAll P h vs ds := by
 cases x with
 | tuple ho hall => exact ⟨_, _, rfl, ho, hall⟩
theorem well_cons {P : Params} {h : Heap} {us : List Value} {d : WData} {ds : List WData} (x : WellAll P h us (d :: ds)) : ∃ (v : Value) (vs : List Value), us = v :: vs /\ Well P h v d /\ WellAll P h vs ds := by
 cases x with
 | cons a b => exact ⟨_, _, rfl, a, b⟩
theorem line_of {n : Nat} (h : n <= 1048576) : n <= sizeLine := Nat.le_trans h (by decide)
section
variable {P : Params} {h : Heap}
mutual
theorem area_one : ∀ (d : WData) (v : Value), Well P h v d -> plW d = true -> d.weight <= 1048576 -> ∃ A : List Addr, OkU A v /\ ∀ a ∈ A, ArgOb h A a
 | .none, _, x, _, _ => by
  cases x
  exact ⟨[], trivial, fun a m => absurd m (by simp)⟩
 | .bool b, _, x, _, _ => by
  cases x
  exact ⟨[], trivial, fun a m => absurd m (by simp)⟩
 | .int i, _, x, _, _ => by
  cases x
  exact ⟨[], trivial, fun a m => absurd m (by simp)⟩
 | .str s, _, x, _, _ => by
  cases x
  exact ⟨[], trivial, fun a m => absurd m (by simp)⟩
 | .bytes b, _, x, _, _ => by
  cases x
  exact ⟨[], trivial, fun a m => absurd m (by simp)⟩
 | .list ds, _, x, p, z => by
  obtain ⟨a, vs, rfl, ho, hall⟩ := well_list x
  have z2 : WData.weightAll ds <= 1048576 := z
  obtain ⟨A, h1, h2⟩ := area_all ds _ hall p fun d hd => Nat.le_trans (weight_mem hd) z2
  have k : ∀ b ∈ A, b ∈ a :: A := fun b hb => List.mem_cons_of_mem _ hb
  refine ⟨a :: A, List.mem_cons_self .., fun b hb => ?_⟩
  rcases List.mem_cons.mp hb with e | m
  ·rw [e]
   exact ⟨vs, line_of (by rw [wellAll_len hall]; exact Nat.le_trans (PySem.W.length_le_weightAllW ds) z2), fun u hu => (h1 u hu).mono k, .inl ho⟩
  ·exact (h2 b m).mono k
 | .tuple ds, _, x, p, z => by
  obtain ⟨a, vs, rfl, ho, hall⟩ := well_tuple x
  have z2 : WData.weightAll ds <= 1048576 := z
  obtain ⟨A, h1, h2⟩ := area_all ds _ hall p fun d hd => Nat.le_trans (weight_mem hd) z2
  have k : ∀ b ∈ A, b ∈ a :: A := fun b hb => List.mem_cons_of_mem _ hb
  refine ⟨a :: A, List.mem_cons_self .., fun b hb => ?_⟩
  rcases List.mem_cons.mp hb with e | m
  ·rw [e]
   exact ⟨vs, line_of (by rw [wellAll_len hall]; exact Nat.le_trans (PySem.W.length_le_weightAllW ds) z2), fun u hu => (h1 u hu).mono k, .inr ho⟩
  ·exact (h2 b m).mono k
 | .float _, _, _, p, _ => Bool.noConfusion (show false = true from p)
 | .dict _, _, _, p, _ => Bool.noConfusion (show false = true from p)
 | .bytearray _, _, _, p, _ => Bool.noConfusion (show false = true from p)
 | .set _, _, _, p, _ => Bool.noConfusion (show false = true from p)
 | .frozenset _, _, _, p, _ => Bool.noConfusion (show false = true from p)
 | .obj _ _, _, _, p, _ => Bool.noConfusion (show false = true from p)
theorem area_all : ∀ (ds : List WData) (vs : List Value), WellAll P h vs ds -> plWs ds = true -> (∀ d ∈ ds, d.weight <= 1048576) -> ∃ A : List Addr, (∀ u ∈ vs, OkU A u) /\ ∀ a ∈ A, ArgOb h A a
 | [], _, x, _, _ => by
  cases x
  exact ⟨[], fun u m => absurd m (by simp), fun a m => absurd m (by simp)⟩
 | d :: ds, _, x, p, z => by
  obtain ⟨v, vs, rfl, x1, x2⟩ := well_cons x
  have q : plW d = true /\ plWs ds = true := Bool.and_eq_true_iff.mp p
  obtain ⟨A, a1, a2⟩ := area_one d v x1 q.1 (z d (List.mem_cons_self ..))
  obtain ⟨B, b1, b2⟩ := area_all ds vs x2 q.2 fun e he => z e (List.mem_cons_of_mem _ he)
  have kA : ∀ b ∈ A, b ∈ A ++ B := fun b hb => List.mem_append.mpr (.inl hb)
  have kB : ∀ b ∈ B, b ∈ A ++ B := fun b hb => List.mem_append.mpr (.inr hb)
  refine ⟨A ++ B, fun u hu => ?_, fun b hb => ?_⟩
  ·rcases List.mem_cons.mp hu with e | m
   ·rw [e]
    exact a1.mono kA
   ·exact (b1 u m).mono kB
  ·rcases List.mem_append.mp hb with m | m
   ·exact (a2 b m).mono kA
   ·exact (b2 b m).mono kB
end
end
def hoOf (o : Obj) : Option HO := match o.data with
 | .seq vs _ => if (o.cls == Value.type "list") = true then some (.frz o (.lst (vs.toList.map toV))) else some (.frz o (.tup (vs.toList.map toV)))
 | _ => none
def argH (K : W.Frag) (h : Heap) (A : List Addr) : Hp := fun b => if b ∈ A then (if (K.lookup b).isNone = true then (h.get? b).bind hoOf else none) else none
def OnlyF (H : Hp) : Prop := ∀ b, H b = none ∨ ∃ o u, H b = some (.frz o u)
theorem hoOf_lst (vs : List Value) : hoOf { cls := .type "list", data := .seq vs.toArray } = some (.frz { cls := .type "list", data := .seq vs.toArray } (.lst (vs.map toV))) := by
 show (if (Value.type "list" == Value.type "list") = true then some (HO.frz { cls := .type "list", data := .seq vs.toArray } (.lst (vs.toArray.toList.map toV))) else some (HO.frz { cls := .type "list", data := .seq vs.toArray } (.tup (vs.toArray.toList.map toV)))) = _
 rw [if_pos (beq_self_eq_true _)]
theorem hoOf_tup (vs : List Value) : hoOf { cls := .type "tuple", data := .seq vs.toArray } = some (.frz { cls := .type "tuple", data := .seq vs.toArray } (.tup (vs.map toV))) := by
 show (if (Value.type "tuple" == Value.type "list") = true then some (HO.frz { cls := .type "tuple", data := .seq vs.toArray } (.lst (vs.toArray.toList.map toV))) else some (HO.frz { cls := .type "tuple", data := .seq vs.toArray } (.tup (vs.toArray.toList.map toV)))) = _
 rw [if_neg (by decide)]
section
variable {P : Program} {w : World} {K : W.Frag} {h : Heap} {A : List Addr}
theorem argH_at {b : Addr} {o : Obj} (hb : b ∈ A) (hk : K.lookup b = none) (e : h.get? b = some o) : argH K h A b = hoOf o := by
 unfold argH
 rw [if_pos hb, hk, if_pos (show (none : Option Obj).isNone = true from rfl), e] <;> rfl
theorem of_argH {b : Addr} {u : HO} (q : argH K h A b = some u) : b ∈ A /\ K.lookup b = none := by
 unfold argH at q
 by_cases hb : b ∈ A
 ·rw [if_pos hb] at q
  cases hk : K.lookup b with
  | none => exact ⟨hb, rfl⟩
  | some o =>
   rw [hk, if_neg (by simp)] at q
   cases q
 ·rw [if_neg hb] at q
  cases q
theorem argH_is (ar : ∀ a ∈ A, ArgOb h A a) {b : Addr} {u : HO} (q : argH K h A b = some u) : K.lookup b = none /\ ∃ vs : List Value, vs.length <= sizeLine /\ (∀ u ∈ vs, OkU A u) /\
  ((h.get? b = some { cls := .type "list", data := .seq vs.toArray } /\ u = .frz { cls := .type "list", data := .seq vs.toArray } (.lst (vs.map toV))) ∨
   (h.get? b = some { cls := .type "tuple", data := .seq vs.toArray } /\ u = .frz { cls := .type "tuple", data := .seq vs.toArray } (.tup (vs.map toV)))) := by
 obtain ⟨hb, hk⟩ := of_argH q
 obtain ⟨vs, h1, h2, h3⟩ := ar b hb
 refine ⟨hk, vs, h1, h2, ?_⟩
 rcases h3 with e | e
 ·rw [argH_at hb hk e, hoOf_lst] at q
  exact .inl ⟨e, (Option.some.inj q).symm⟩
 ·rw [argH_at hb hk e, hoOf_tup] at q
  exact .inr ⟨e, (Option.some.inj q).symm⟩
theorem argH_only (ar : ∀ a ∈ A, ArgOb h A a) : OnlyF (argH K h A) := fun b => by
 cases q : argH K h A b with
 | none => exact .inl rfl
 | some u =>
  obtain ⟨_, vs, _, _, ⟨_, e⟩ | ⟨_, e⟩⟩ := argH_is ar q
  ·exact .inr ⟨_, _, by rw [e]⟩
  ·exact .inr ⟨_, _, by rw [e]⟩
theorem argH_ok (ar : ∀ a ∈ A, ArgOb h A a) : HOk P w (argH K h A) h := fun b u q => by
 obtain ⟨_, vs, h1, h2, ⟨e, rfl⟩ | ⟨e, rfl⟩⟩ := argH_is ar q
 ·exact ⟨e, by rw [List.length_map]; exact h1, vs, _, vals_toV h2, e⟩
 ·exact ⟨e, by rw [List.length_map]; exact h1, vs, vals_toV h2, _, e, rfl, _, rfl⟩
theorem seq_inj {c c' : Value} {vs us : List Value} (e : (some { cls := c, data := .seq vs.toArray } : Option Obj) = some { cls := c', data := .seq us.toArray }) : c = c' /\ vs = us := by
 have e1 := Option.some.inj e
 have e2 : c = c' := congrArg Obj.cls e1
 have e3 : Data.seq vs.toArray = Data.seq us.toArray := congrArg Obj.data e1
 injection e3 with e4
 refine ⟨e2, ?_⟩
 have e5 := congrArg Array.toList e4
 simpa using e5
theorem argL (KX : K.In h) (ar : ∀ a ∈ A, ArgOb h A a) {a : Addr} {vs : List Value} (ha : a ∈ A) (e : h.get? a = some { cls := .type "list", data := .seq vs.toArray }) : (∀ u ∈ vs, OkU A u) /\ SqL K (argH K h A) a (vs.map toV) := by
 obtain ⟨us, h1, h2, h3⟩ := ar a ha
 have hu : us = vs := by
  rcases h3 with q | q
  ·rw [e] at q
   exact (seq_inj q).2.symm
  ·rw [e] at q
   exact absurd (Value.type.inj (seq_inj q).1) (by decide)
 subst hu
 refine ⟨h2, ?_⟩
 cases hk : K.lookup a with
 | none => exact .inl (.inr ⟨_, by rw [argH_at ha hk e, hoOf_lst]⟩)
 | some o =>
  have e2 := KX a o hk
  rw [e] at e2
  obtain rfl := Option.some.inj e2
  exact .inr ⟨_, us.toArray, _, hk, rfl, rfl, rfl, by rw [List.size_toArray]; exact h1, by simpa using vals_toV h2⟩
theorem argT (KX : K.In h) (ar : ∀ a ∈ A, ArgOb h A a) {a : Addr} {vs : List Value} (ha : a ∈ A) (e : h.get? a = some { cls := .type "tuple", data := .seq vs.toArray }) : (∀ u ∈ vs, OkU A u) /\ SqT K (argH K h A) a (vs.map toV) := by
 obtain ⟨us, h1, h2, h3⟩ := ar a ha
 have hu : us = vs := by
  rcases h3 with q | q
  ·rw [e] at q
   exact absurd (Value.type.inj (seq_inj q).1) (by decide)
  ·rw [e] at q
   exact (seq_inj q).2.symm
 subst hu
 refine ⟨h2, ?_⟩
 cases hk : K.lookup a with
 | none => exact .inl (.inr ⟨_, by rw [argH_at ha hk e, hoOf_tup]⟩)
 | some o =>
  have e2 := KX a o hk
  rw [e] at e2
  obtain rfl := Option.some.inj e2
  exact .inr ⟨_, us.toArray, _, hk, rfl, rfl, by rw [List.size_toArray]; exact h1, by simpa using vals_toV h2⟩
mutual
theorem dw_one {Pm : Params} (KX : K.In h) (ar : ∀ a ∈ A, ArgOb h A a) : ∀ (d : WData) (v : Value), Well Pm h v d -> plW d = true -> OkU A v -> Dw K (argH K h A) (toV v) d
 | .none, _, x, _, _ => by
  cases x
  exact .non
 | .bool b, _, x, _, _ => by
  cases x
  exact .bl b
 | .int i, _, x, _, _ => by
  cases x
  exact .int i
 | .str s, _, x, _, _ => by
  cases x
  exact .str s
 | .bytes b, _, x, _, _ => by
  cases x
  have z := Dw.byt (K := K) (H := argH K h A) b.toArray
  exact z
 | .list ds, _, x, p, hu => by
  obtain ⟨a, vs, rfl, ho, hall⟩ := well_list x
  obtain ⟨h2, hs⟩ := argL KX ar hu ho
  exact .lst hs (dw_all KX ar ds _ hall p h2)
 | .tuple ds, _, x, p, hu => by
  obtain ⟨a, vs, rfl, ho, hall⟩ := well_tuple x
  obtain ⟨h2, hs⟩ := argT KX ar hu ho
  exact .tup hs (dw_all KX ar ds _ hall p h2)
 | .float _, _, _, p, _ => Bool.noConfusion (show false = true from p)
 | .dict _, _, _, p, _ => Bool.noConfusion (show false = true from p)
 | .bytearray _, _, _, p, _ => Bool.noConfusion (show false = true from p)
 | .set _, _, _, p, _ => Bool.noConfusion (show false = true from p)
 | .frozenset _, _, _, p, _ => Bool.noConfusion (show false = true from p)
 | .obj _ _, _, _, p, _ => Bool.noConfusion (show false = true from p)
theorem dw_all {Pm : Params} (KX : K.In h) (ar : ∀ a ∈ A, ArgOb h A a) : ∀ (ds : List WData) (vs : List Value), WellAll Pm h vs ds -> plWs ds = true -> (∀ u ∈ vs, OkU A u) -> DwAll K (argH K h A) (vs.map toV) ds
 | [], _, x, _, _ => by
  cases x
  exact .nil
 | d :: ds, _, x, p, hu => by
  obtain ⟨v, vs, rfl, x1, x2⟩ := well_cons x
  have q : plW d = true /\ plWs ds = true := Bool.and_eq_true_iff.mp p
  exact .cons (dw_one KX ar d v x1 q.1 (hu _ (List.mem_cons_self ..))) (dw_all KX ar ds vs x2 q.2 fun u m => hu u (List.mem_cons_of_mem _ m))
end
end
theorem spec_call {P : Program} {w : World} {K : W.Frag} {mg mb : Str -> Option Value} {CX : CXT} {k : Nat} {fa : Addr} {fd : FuncData} {ps : List Str} {sp : Sp} {s₁ : Shared} {vals : List Value} {ds : List WData} {R : PySem.W.WRecords} {cl : Str -> Option Addr} {d0 : WData}
  (KX : K.In s₁.heap) (hns : s₁.heap.Ns mainGlobals mg) (hb : s₁.heap.Ns builtinsNs mb) (hbb : ∀ x : Str, x ≠ "__name__" -> mb x = bootBuiltins x) (hlim : s₁.heap.NoLimit) (hg : s₁.gens = #[])
  (hwl : WellAll w.params s₁.heap vals ds) (hpl : plWs ds = true) (hwt : ∀ d ∈ ds, d.weight <= 1048576) (hr : Room k callerA)
  (F : ∀ base : Heap, K.In base -> base.Ns mainGlobals mg -> FnOk P w K mg base CX k fa fd ps sp) (hbind : ∀ (s : Shared) (us : List Value), us.length = ps.length -> BindsTo s fd ⟨us, []⟩ (ps.zip us)) (hlen : ds.length = ps.length)
  (hsp : ∀ (H : Hp) (xs : List V), OnlyF H -> DwAll K H xs ds -> sp xs H (fun v H' => Dw K H' v d0) fun _ _ _ => False)
  (hCX : ∀ H e s', CX [] H s₁ (fun _ _ _ => False) e s' -> False) :
  codeAny (model P w) callerA (.call (.ref fa) ⟨vals, []⟩) (fun r s' => ∃ u as, r = .ok (.ret u) /\ ReadsW R cl s'.heap u d0 as /\ OldK s₁.heap s'.heap /\ s'.os = s₁.os /\ AllBare s'.gens) s₁ := by
 obtain ⟨A, ho, ar⟩ := area_all ds vals hwl hpl hwt
 have hO : OnlyF (argH K s₁.heap A) := argH_only ar
 have hok : HOk P w (argH K s₁.heap A) s₁.heap := argH_ok ar
 have hS := dw_all KX ar ds vals hwl hpl ho
 have hV := vals_toV ho
 have hK : ∀ b u, argH K s₁.heap A b = some u -> K.lookup b = none := fun b u q => (argH_is ar q).1
 have noA : ∀ {b : Addr} {o : Obj} {es : Array DictEntry} {ep : Nat}, s₁.heap.get? b = some o -> o.data = .dict es ep -> argH K s₁.heap A b = none := fun {b o es ep} e d => by
  cases q : argH K s₁.heap A b with
  | none => rfl
  | some u =>
   obtain ⟨_, vs, _, _, ⟨e2, _⟩ | ⟨e2, _⟩⟩ := argH_is ar q
   ·rw [e2] at e
    cases e
    have d' : Data.seq vs.toArray _ = Data.dict es ep := d
    cases d'
   ·rw [e2] at e
    cases e
    have d' : Data.seq vs.toArray _ = Data.dict es ep := d
    cases d'
 generalize argH K s₁.heap A = H at hO hok hS hK noA
 have base_of : ∀ {b : Addr} {o : Obj}, s₁.heap.get? b = some o -> H b = none -> (hidT s₁.heap H).get? b = some o := fun e n => hidT_get e n
 have nsK : ∀ {b : Addr} {m : Str -> Option Value}, s₁.heap.Ns b m -> (hidT s₁.heap H).Ns b m := fun {b m} ⟨o, es, ep, e, d, r⟩ => ⟨o, es, ep, base_of e (noA e d), d, r⟩
 have nK : ∀ b o, K.lookup b = some o -> H b = none := fun b o e => by
  cases q : H b with
  | none => rfl
  | some u =>
   rw [hK b u q] at e
   cases e
 have hKb : K.In (hidT s₁.heap H) := fun b o e => base_of (KX b o e) (nK b o e)
 have hM : Mod K mg (hidT s₁.heap H) := ⟨hKb, nsK hns, ⟨mb, nsK hb, hbb⟩, let ⟨mc, h1, h2⟩ := hlim; ⟨mc, nsK h1, h2⟩⟩
 have e0 : Env0 P w K mg (hidT s₁.heap H) callerA [] s₁ H := ⟨rfl, hM, fun b o e => of_hidT e, Nat.le_of_eq (hidT_size _ _), trivial, fun b hb => absurd (show b ∈ ([] : List Addr) from hb) (by simp), hok, .of_eq hg⟩
 have hl : vals.length = ps.length := by rw [wellAll_len hwl]; exact hlen
 refine codeAny_mono ((F _ hKb (nsK hns)).run callerA [] s₁ H ⟨vals, []⟩ vals (vals.map toV) _ _ hr e0 (hbind s₁ vals hl) hV (hsp H _ hO hS)) fun r s' x => ?_
 cases r with
 | error e => exact (hCX H e s' x).elim
 | ok fl =>
  cases fl with
  | next => exact False.elim x
  | brk => exact False.elim x
  | cont => exact False.elim x
  | ret u =>
   obtain ⟨v, H', os, bare, un, hok', r', q⟩ := x
   have kept : ∀ b o, s₁.heap.get? b = some o -> s'.heap.get? b = some o := fun b o e => by
    cases q2 : H b with
    | none => exact un.keep b o e q2 (by intro z; exact absurd (show b ∈ ([] : List Addr) from z) (by simp)) (by simp)
    | some u2 =>
     rcases hO b with z | ⟨ob, u3, z⟩
     ·rw [q2] at z
      cases z
     ·have z2 := un.frzs b ob _ z
      obtain ⟨e1, _⟩ := hok b _ z
      obtain ⟨e2, _⟩ := hok' b _ z2
      rw [e] at e1
      cases e1
      exact e2
   have KX' : K.In s'.heap := fun b o e => kept b o (KX b o e)
   obtain ⟨as, hrd⟩ := Dw.reads (R := R) (cl := cl) hok' KX' d0 v u q r'
   exact ⟨u, as, rfl, hrd, OldK.of_keep kept, os, bare⟩
theorem layable_weight {ds : List WData} (h : WData.layableAll ds = true) : ∀ d ∈ ds, d.weight <= 1048576 := fun d hd =>
 (PySem.W.layableW_iff.mp (List.all_eq_true.mp h d hd)).2.2
theorem encAll_len : ∀ (cs : List Codec) (a : Codec.denoteAll cs), (Codec.encAll cs a).length = cs.length
 | [], _ => rfl
 | c :: cs, a => by
  show (Codec.encAll cs a.2).length + 1 = cs.length + 1
  rw [encAll_len cs a.2]
theorem walk_spec {r : OpenSpec} {k : Nat} {q : Program} {loose : List Str} {XP : (Str -> Option Value) -> Heap -> Prop} {YP : World -> Heap -> Prop} {d : DefRec} {K : Params -> PySem.W.Frag} {CX : World -> CXT} {ps : List Str} {sp : World -> Sp}
  (hwell : r.wellSaid = true) (hdf : d.params.defaults = []) (hlen : r.args.length = ps.length) (hr : Room k callerA)
  (hY : ∀ (w : World) (h : Heap), YP w h -> (K w.params).In h)
  (F : ∀ (w : World) (mg : Str -> Option Value) (fa : Addr) (h : Heap), YP w h -> (K w.params).In h -> h.Ns mainGlobals mg -> mg d.name = some (.ref fa) ->
   ∃ fd : FuncData, (∀ (s : Shared) (us : List Value), us.length = ps.length -> BindsTo s fd ⟨us, []⟩ (ps.zip us)) /\
    ∀ base : Heap, (K w.params).In base -> base.Ns mainGlobals mg -> FnOk r.prog w (K w.params) mg base (CX w) k fa fd ps (sp w))
  (hsp : ∀ (w : World) (H : Hp) (xs : List V) (a : Codec.denoteAll r.args), OnlyF H -> Codec.withinAll r.args a = true -> Codec.app r.args r.asked a = true -> DwAll (K w.params) H xs (Codec.encAll r.args a) ->
   sp w xs H (fun v H' => Dw (K w.params) H' v (r.ret.enc (Codec.app r.args r.f a))) fun _ _ _ => False)
  (hCX : ∀ (w : World) (H : Hp) (s : Shared) (e : Value) (s' : Shared), CX w [] H s (fun _ _ _ => False) e s' -> False) :
  PySem.W.WalkOS q loose XP YP r d [] (fun f vs => PySem.call f vs) := by
 intro w s_0 s₁ mg mb G Y fa o pm cd doc dV kV ho hd hcd hD hmg hg args vals as hpre hlay hrd hwl hlo
 obtain ⟨a, e1, e2⟩ := PySem.W.os_pre_some hpre
 obtain ⟨e3, hwi⟩ := Codec.encAll_of_decAll r.args args a e1
 subst e3
 have KX := hY w _ Y
 obtain ⟨fd, hb, hF⟩ := F w mg fa _ Y KX G.T.g hmg
 refine PySem.W.enter_call (codeAny_mono (spec_call (R := []) (cl := classAt s_0.heap) (d0 := r.ret.enc (Codec.app r.args r.f a)) KX G.T.g G.T.b G.T.builtins G.T.nolimit hg hwl (pl_encAll _ _) (layable_weight hlay) hr hF hb (by rw [encAll_len]; exact hlen)
  (fun H xs hO hS => hsp w H xs a hO hwi e2 hS) fun H e s' => hCX w H s₁ e s') fun r' s' hq => ?_)
 obtain ⟨u, as', rfl, h1, h2, h3, h4⟩ := hq
 exact ⟨.inl ⟨u, _, as', rfl, fun _ => rfl, h1, (OpenSpec.post_iff hwell hwi _ _).mpr rfl, fun z => Bool.noConfusion (show false = true from z)⟩, h2, h3, h4⟩
theorem walk_specK {r : OpenSpec} {k : Nat} {q : Program} {loose : List Str} {XP : (Str -> Option Value) -> Heap -> Prop} {YP : World -> Heap -> Prop} {d : DefRec} {K : Params -> PySem.W.Frag} {CX : CXT} {ps : List Str} {sp : PySem.W.Frag -> Sp}
  (hwell : r.wellSaid = true) (hdf : d.params.defaults = []) (hlen : r.args.length = ps.length) (hr : Room k callerA)
  (hY : ∀ (w : World) (h : Heap), YP w h -> (K w.params).In h)
  (F : ∀ (w : World) (mg : Str -> Option Value) (fa : Addr) (h : Heap), YP w h -> (K w.params).In h -> h.Ns mainGlobals mg -> mg d.name = some (.ref fa) ->
   ∃ fd : FuncData, (∀ (s : Shared) (us : List Value), us.length = ps.length -> BindsTo s fd ⟨us, []⟩ (ps.zip us)) /\
    ∀ base : Heap, (K w.params).In base -> base.Ns mainGlobals mg -> FnOk r.prog w (K w.params) mg base CX k fa fd ps (sp (K w.params)))
  (hsp : ∀ (K : W.Frag) (H : Hp) (xs : List V) (a : Codec.denoteAll r.args), OnlyF H -> Codec.withinAll r.args a = true -> Codec.app r.args r.asked a = true -> DwAll K H xs (Codec.encAll r.args a) ->
   sp K xs H (fun v H' => Dw K H' v (r.ret.enc (Codec.app r.args r.f a))) fun _ _ _ => False)
  (hCX : ∀ (H : Hp) (s : Shared) (e : Value) (s' : Shared), CX [] H s (fun _ _ _ => False) e s' -> False) :
  PySem.W.WalkOS q loose XP YP r d [] (fun f vs => PySem.call f vs) :=
 walk_spec (K := K) (CX := fun _ => CX) (sp := fun w => sp (K w.params)) hwell hdf hlen hr hY F (fun w H xs a h1 h2 h3 h4 => hsp (K w.params) H xs a h1 h2 h3 h4) fun _ H s e s' => hCX H s e s'
end L2
end
set_option Elab.async false
set_option linter.all false
set_option maxRecDepth 100000
namespace L2
open PySem PySem.Spec PyProof.Rows
theorem noFill_tuple_mul : fillsNumberSlot (.type "tuple") "mul" = pure false :=
 PySem.fillsNumberSlot_seq (id := "tuple.__mul__") (r := some (.builtin "tuple.__rmul__")) F.slot_tuple_mul.lookup (by decide +kernel) F.slot_tuple_rmul.lookup (by decide +kernel)
theorem repeat_tuple : seqRepeat? (.type "tuple") = pure (some (.builtin "tuple.__mul__")) := by
 unfold seqRepeat?
 rw [PySem.seqSlot_of (T := "tuple") (name := "__mul__") (id := "tuple.__mul__") F.slot_tuple_mul.lookup (by decide +kernel), PySem.seqSlot_of (T := "tuple") (name := "__rmul__") (id := "tuple.__rmul__") F.slot_tuple_rmul.lookup (by decide +kernel)]
 rfl
section
variable (l : Addr) (items : Array Value) (n : Nat) (dd : Option Addr) (sl : Array (Option Value))
theorem int_rmul_tuple (a : Int) (t : Tok) :
  Meets (Builtin.«int.__rmul__» ⟨[.int a t, .ref l], []⟩) (fun _ R s => s.heap.get? l = some { cls := .type "tuple", dict := dd, data := .seq items n, slots := sl } /\ R (.ok (.ret Value.notImplemented)) s) :=
 .of_wp fun prog w A R s h => by
  obtain ⟨hp, g, d, tk, os⟩ := s; obtain ⟨hl, h⟩ := h; wp_walk; exact ⟨_, rfl, h⟩
theorem tuple_mul1 (u : Tok) (hi : items.isEmpty = false) :
  Meets (Builtin.«tuple.__mul__» ⟨[.ref l, .int 1 u], []⟩) (fun _ R s => s.heap.get? l = some { cls := .type "tuple", dict := dd, data := .seq items n, slots := sl } /\ R (.ok (.ret (Value.ref l))) s) :=
 .of_wp fun prog w A R s h => by
  obtain ⟨hp, g, d, tk, os⟩ := s; obtain ⟨hl, h⟩ := h
  have f1 := AutoSeq1.idx_int
  wp_walk using wpAny_loadPart' hl
  exact ⟨_, rfl, h⟩
theorem tuple_mul0 (u : Tok) (hi : items.isEmpty = false) :
  Meets (Builtin.«tuple.__mul__» ⟨[.ref l, .int 0 u], []⟩) (fun _ R s => s.heap.get? l = some { cls := .type "tuple", dict := dd, data := .seq items n, slots := sl } /\ R (.ok (.ret (Value.ref s.heap.objs.size))) { s with heap := s.heap.push { cls := Value.type "tuple", data := Data.seq #[] } }) :=
 .of_wp fun prog w A R s h => by
  obtain ⟨hp, g, d, tk, os⟩ := s; obtain ⟨hl, h⟩ := h
  have f1 := AutoSeq1.idx_int
  wp_walk using wpAny_loadPart' hl
  exact ⟨_, rfl, h⟩
theorem tuple_mul2 (v : Value) (u : Tok) :
  Meets (Builtin.«tuple.__mul__» ⟨[.ref l, .int 2 u], []⟩) (fun _ R s => s.heap.get? l = some { cls := .type "tuple", dict := dd, data := .seq #[v] n, slots := sl } /\ R (.ok (.ret (Value.ref s.heap.objs.size))) { s with heap := s.heap.push { cls := Value.type "tuple", data := Data.seq (List.replicate 2 v).toArray } }) :=
 .of_wp fun prog w A R s h => by
  obtain ⟨hp, g, d, tk, os⟩ := s; obtain ⟨hl, h⟩ := h
  have f1 := AutoSeq1.idx_int
  wp_walk using wpAny_loadPart' hl
  exact ⟨_, rfl, h⟩
theorem tuple_mul3 (v : Value) (u : Tok) :
  Meets (Builtin.«tuple.__mul__» ⟨[.ref l, .int 3 u], []⟩) (fun _ R s => s.heap.get? l = some { cls := .type "tuple", dict := dd, data := .seq #[v] n, slots := sl } /\ R (.ok (.ret (Value.ref s.heap.objs.size))) { s with heap := s.heap.push { cls := Value.type "tuple", data := Data.seq (List.replicate 3 v).toArray } }) :=
 .of_wp fun prog w A R s h => by
  obtain ⟨hp, g, d, tk, os⟩ := s; obtain ⟨hl, h⟩ := h
  have f1 := AutoSeq1.idx_int
  wp_walk using wpAny_loadPart' hl
  exact ⟨_, rfl, h⟩
theorem tuple_mul4 (v : Value) (u : Tok) :
  Meets (Builtin.«tuple.__mul__» ⟨[.ref l, .int 4 u], []⟩) (fun _ R s => s.heap.get? l = some { cls := .type "tuple", dict := dd, data := .seq #[v] n, slots := sl } /\ R (.ok (.ret (Value.ref s.heap.objs.size))) { s with heap := s.heap.push { cls := Value.type "tuple", data := Data.seq (List.replicate 4 v).toArray } }) :=
 .of_wp fun prog w A R s h => by
  obtain ⟨hp, g, d, tk, os⟩ := s; obtain ⟨hl, h⟩ := h
  have f1 := AutoSeq1.idx_int
  wp_walk using wpAny_loadPart' hl
  exact ⟨_, rfl, h⟩
end
end L2
namespace L2
open PySem PySem.Spec PyProof.Rows
section
variable {X : Cx}
def rRepT (K : W.Frag) : R2 := fun x y H Q => ∃ l v k, x = .ref l /\ y = .int k /\ SqT K H l [v] /\ 0 <= k /\ k <= 4 /\ ∀ p H', Same H H' -> SqT K H' p (List.replicate k.toNat v) -> Q (.ref p) H'
theorem same_new {H : Hp} {p : Addr} {o : HO} (h : H p = none) : Same H (upd H p o) := fun b q e => by rw [upd_ne (ne_of_none e h)]; exact e
theorem op_repT : OpR X (binaryOp .Mult) (rRepT X.K) := by
 intro pins s σ H x y v u Q I rx ry h
 obtain ⟨l, z, k, rfl, rfl, hx, h0, h4, q⟩ := h
 cases rx
 obtain ⟨t, rfl⟩ := ry
 obtain ⟨its, r, ht, hz⟩ := I.tuple hx
 obtain ⟨uz, rfl, rz⟩ := vals1 r
 obtain ⟨⟨cls, dd, data, sl⟩, ho, hc, n, hd⟩ := id ht
 simp only at hc hd
 subst hc hd
 have new : ∀ (m : Nat), m <= 4 -> m = k.toNat -> EP X pins σ Q (.ref s.heap.objs.size) { s with heap := s.heap.push { cls := Value.type "tuple", data := Data.seq (List.replicate m uz).toArray } } := by
  intro m hm e
  have hv : Vals (List.replicate m z) (List.replicate m uz) := by
   clear e hm
   induction m with
   | zero => exact .nil
   | succ m ih => rw [List.replicate_succ, List.replicate_succ]; exact .cons rz ih
  refine ⟨.ref s.heap.objs.size, _, I.laid (t' := s.toks) (o := .tup (List.replicate m z)) (fun b ob q => Heap.get?_push_of_some _ q) (Nat.le_refl _) ?_, rfl, q _ _ (same_new (I.hok.fresh (Nat.le_refl _))) (SqT.of (by rw [upd_same, e]))⟩
  exact ⟨by rw [List.length_replicate]; exact Nat.le_trans hm (by decide), _, hv, IsTup.new _ _⟩
 refine wpAny_binaryOp_repeat_ref (T := "tuple") (U := "int") (by decide) ⟨_, ho, rfl⟩ (fun s' => typeIs_int s' k t) noFill_tuple_mul F.fills_int_mul F.slot_int_rmul repeat_tuple F.slot_int_index.lookup
  (call_meets F.slot_int_rmul (typeIs_int s k t) F.entry_int_rmul (F.args_int_rmul_2 _ _) (int_rmul_tuple l _ n dd sl k t) ⟨ho, rfl, ⟨_, ho, rfl⟩, ?_⟩)
 have c : k = 0 ∨ k = 1 ∨ k = 2 ∨ k = 3 ∨ k = 4 := by omega
 rcases c with rfl | rfl | rfl | rfl | rfl
 ·exact call_meets F.slot_tuple_mul ⟨_, ho, rfl⟩ F.entry_tuple_mul (F.args_tuple_mul_2 _ _) (tuple_mul0 l _ n dd sl t rfl) ⟨ho, new 0 (by decide) rfl⟩
 ·exact call_meets F.slot_tuple_mul ⟨_, ho, rfl⟩ F.entry_tuple_mul (F.args_tuple_mul_2 _ _) (tuple_mul1 l _ n dd sl t rfl) ⟨ho, ⟨.ref l, H, I, rfl, q l H (Same.refl H) hx⟩⟩
 ·exact call_meets F.slot_tuple_mul ⟨_, ho, rfl⟩ F.entry_tuple_mul (F.args_tuple_mul_2 _ _) (tuple_mul2 l n dd sl uz t) ⟨ho, new 2 (by decide) rfl⟩
 ·exact call_meets F.slot_tuple_mul ⟨_, ho, rfl⟩ F.entry_tuple_mul (F.args_tuple_mul_2 _ _) (tuple_mul3 l n dd sl uz t) ⟨ho, new 3 (by decide) rfl⟩
 ·exact call_meets F.slot_tuple_mul ⟨_, ho, rfl⟩ F.entry_tuple_mul (F.args_tuple_mul_2 _ _) (tuple_mul4 l n dd sl uz t) ⟨ho, new 4 (by decide) rfl⟩
def rCatS (K : W.Frag) : R2 := fun x y H Q => ∃ a b xs ys, x = .ref a /\ y = .ref b /\ SqT K H a xs /\ SqT K H b ys /\ xs.length + ys.length <= sizeLine /\ ∀ p H', Same H H' -> SqT K H' p (xs ++ ys) -> Q (.ref p) H'
theorem op_catS : OpR X (binaryOp .Add) (rCatS X.K) := by
 intro pins s σ H x y v u Q I rx ry h
 obtain ⟨a, b, xs, ys, rfl, rfl, ha, hb, hz, q⟩ := h
 by_cases hx : xs = []
 ·subst hx
  cases rx
  cases ry
  obtain ⟨its, r1, p1, _⟩ := I.tuple ha
  obtain ⟨its2, r2, p2, _⟩ := I.tuple hb
  cases r1
  obtain ⟨⟨cls, dd, data, sl⟩, ho, hc, n, hd⟩ := id p1
  obtain ⟨⟨cls2, dd2, data2, sl2⟩, ho2, hc2, n2, hd2⟩ := id p2
  simp only at hc hd hc2 hd2
  subst hc hd hc2 hd2
  exact concat_meets ⟨_, ho, rfl⟩ ⟨_, ho2, rfl⟩ noFill_tuple_add seq_tuple_add PySem.F.slot_tuple_add PySem.F.entry_tuple_add (PySem.F.args_tuple_add_2 _ _)
   (tuple_addW0 a b _ _ n n2 dd dd2 sl sl2 rfl) ⟨ho, ho2, ⟨.ref b, H, I, rfl, q b H (Same.refl H) (by rw [List.nil_append]; exact hb)⟩⟩
 ·exact op_catT pins s σ H _ _ v u Q I rx ry ⟨a, b, xs, ys, rfl, rfl, ha, hb, hx, hz, fun e => q a H (Same.refl H) (by rw [e, List.append_nil]; exact ha),
   fun _ p hp => q p _ (same_new hp) (SqT.of upd_same)⟩
def rTail (K : W.Frag) : V -> Option Int -> Option Int -> Hp -> VK -> Prop := fun x lo hi H Q => ∃ a y xs, x = .ref a /\ lo = some 1 /\ hi = none /\ SqT K H a (y :: xs) /\ ∀ p H', Same H H' -> SqT K H' p xs -> Q (.ref p) H'
theorem sl_tail : SlR X (rTail X.K) := by
 intro pins s σ H x v vl vu lo hi sl Q I rx hs pl pu h
 obtain ⟨a, y, xs, rfl, rfl, rfl, hx, q⟩ := h
 refine sl_tup pins s σ H _ v vl vu (some 1) none sl Q I rx hs pl pu ⟨a, y :: xs, rfl, hx, ?_, fun p hp => q p _ (same_new hp) (SqT.of ?_)⟩
 ·intro z
  have := z.1
  have e : HT.sIx (y :: xs).length 0 (some ((1 : Nat) : Int)) = min 1 (y :: xs).length := HT.sIx_nat _ _ 1
  have e2 : HT.sIx (y :: xs).length 0 (some (1 : Int)) = min 1 (y :: xs).length := e
  rw [e2] at this
  simp only [List.length_cons] at this
  omega
 ·rw [upd_same]
  have e : HT.sIx (y :: xs).length 0 (some (1 : Int)) = min 1 (y :: xs).length := HT.sIx_nat _ _ 1
  unfold cutV
  rw [e, HT.sIx_none]
  have m : min 1 (y :: xs).length = 1 := by simp only [List.length_cons]; omega
  rw [m]
  have : (List.drop 1 (y :: xs)).take ((y :: xs).length - 1) = xs := by simp
  rw [this]
end
end L2
set_option Elab.async false
set_option linter.all false
set_option maxRecDepth 100000
set_option maxHeartbeats 1000000
namespace L2
open PySem PySem.Spec PyProof.Rows
section
variable (prog : Program) (w : World)
def HashR (h : Heap) (k : Nat) (v : Value) (n : Int) (d : Nat) : Prop := ∀ (A : Around) (E : Value -> Shared -> Prop) (s : Shared) (Q : Int -> Shared -> Prop), s.heap = h -> A.units + k < cLine -> Q n { s with toks := s.toks + d } -> wpAny (model prog w) A (PySem.pyHash v) Q E s
inductive HashAll (h : Heap) (k : Nat) : List Value -> List Int -> Nat -> Prop
 | nil : HashAll h k [] [] 0
 | cons {v : Value} {n : Int} {d e : Nat} {vs : List Value} {ns : List Int} : HashR prog w h k v n d -> HashAll h k vs ns e -> HashAll h k (v :: vs) (n :: ns) (d + e)
def EqRl (h : Heap) (k : Nat) (u v : Value) (b : Bool) : Prop := ∀ (A : Around) (E : Value -> Shared -> Prop) (s : Shared) (Q : Bool -> Shared -> Prop), s.heap = h -> A.units + k < cLine -> Q b s -> wpAny (model prog w) A (PySem.eqBool u v) Q E s
inductive EqL (h : Heap) (k : Nat) : List Value -> List Value -> Bool -> Prop
 | nil : EqL h k [] [] true
 | left {v : Value} {vs : List Value} : EqL h k [] (v :: vs) false
 | right {v : Value} {vs : List Value} : EqL h k (v :: vs) [] false
 | cons {u v : Value} {us vs : List Value} {b c : Bool} : EqRl prog w h k u v b -> EqL h k us vs c -> EqL h k (u :: us) (v :: vs) (b && c)
def QuietR (h : Heap) (n : Nat) (v : Value) : Prop := ∀ (A : Around) (E : Value -> Shared -> Prop) (s : Shared) (Q : Bool -> Shared -> Prop), s.heap = h -> Q true s -> wpAny (model prog w) A (eqIsQuiet n v) Q E s
end
def TupAt (h : Heap) (a : Addr) (items : Array Value) : Prop := ∃ o n, h.get? a = some o /\ o.cls = .type "tuple" /\ o.data = .seq items n
theorem TupAt.typeIs {s : Shared} {a : Addr} {items : Array Value} (x : TupAt s.heap a items) : s.TypeIs (.ref a) "tuple" := let ⟨o, _, ho, hc, _⟩ := x; ⟨o, ho, hc⟩
theorem TupAt.of_isTup {h : Heap} {a : Addr} {items : Array Value} (x : IsTup h a items) : TupAt h a items := by
 obtain ⟨o, ho, hc, n, hd⟩ := x
 exact ⟨o, n, ho, hc, hd⟩
section
variable {prog : Program} {w : World} {h : Heap}
theorem hash_int {k : Nat} (i : Int) (t : Tok) : HashR prog w h k (.int i t) (hashInt i) 1 := fun A E s Q _ _ q => wpAny_pyHash_int q
theorem eq_ints {k : Nat} (i j : Int) (t u : Tok) : EqRl prog w h k (.int i t) (.int j u) (decide (i = j)) := fun A E s Q _ _ q => wpAny_eqBool_int (by rw [Bool.beq_eq_decide_eq]; exact q)
theorem units_in1 (A : Around) : A.in1.units = A.units + 1 := rfl
theorem hash_tuple {k : Nat} {a : Addr} {items : Array Value} {ns : List Int} {d : Nat} (ht : TupAt h a items) (hi : HashAll prog w h k items.toList ns d) :
  HashR prog w h (k + 1) (.ref a) (reduceHash (Builtin.Tuple.tupleHashOf ns)) (d + 1) := by
 intro A E s Q hh hu q
 subst hh
 have hT := ht.typeIs
 obtain ⟨o, n, ho, _, hd⟩ := ht
 unfold PySem.pyHash
 first | unfold pyHashByItsType | skip
 first | refine wpAny_bind (wpAny_cRoomFor_or (.inr (by omega)) ?_) | skip
 refine wpAny_bind (wpAny_specialOf hT F.slot_tuple_hash.lookup ?_)
 show wpAny _ _ (if (some (Value.builtin "tuple.__hash__") == some Value.none) = true then _ else _) Q E s
 rw [if_neg (by rw [beq_builtin_none]; exact Bool.false_ne_true)]
 refine wpAny_bind (wpAny_specialOf hT F.slot_tuple_hash.lookup ?_)
 show wpAny _ _ (callSpecialIfBoundUnlessNone? (.ref a) "__hash__" _ >>= _) Q E s
 refine wpAny_bind (wpAny_callSpecialIfBoundUnlessNone?_slot hT F.slot_tuple_hash (wpAny_call_entry F.slot_tuple_hash hT F.entry_tuple_hash ?_ (F.args_tuple_hash_1 _)))
 show wpAny _ _ (Builtin.Tuple.tupleItemsOf (.ref a) >>= _) _ _ s
 refine wpAny_bind (wpAny_tupleItemsOf ho hd ?_)
 refine wpAny_bind ?_
 rw [<- Array.forIn_toList]
 refine wpAny_forIn_list _
  (fun rest (b : Array Int) s' => ∃ (done left : List Int) (e f : Nat), ns = done ++ left /\ d = e + f /\ HashAll prog w s.heap k rest left f /\ b.toList = done /\ s' = { s with toks := s.toks + e })
  _ ?_ ?_ _ _ ⟨[], ns, 0, d, rfl, by omega, hi, rfl, rfl⟩
 ·rintro x rest b s' ⟨done, left, e, f, rfl, rfl, hl, hb, rfl⟩
  cases hl with
  | @cons _ m d1 e1 _ ns' h1 hl' =>
   refine wpAny_bind (h1 _ _ _ _ rfl (by rw [units_in1]; omega) ?_)
   first
    | exact wpAny_pure ⟨done ++ [m], ns', e + d1, e1, by simp, by omega, hl', by simp [hb], by simp [Nat.add_assoc]⟩
    | exact wpAny_bind (wpAny_pure (wpAny_pure ⟨done ++ [m], ns', e + d1, e1, by simp, by omega, hl', by simp [hb], by simp [Nat.add_assoc]⟩))
 ·rintro b s' ⟨done, left, e, f, rfl, rfl, hl, hb, rfl⟩
  cases hl
  rw [List.append_nil] at q
  show wpAny _ _ (retInt (Builtin.Tuple.tupleHashOf b.toList)) _ _ _
  rw [hb]
  refine wpAny_ret_mkInt ?_
  show wpAny _ _ (if (decide (-(2 : Int) ^ 63 <= Builtin.Tuple.tupleHashOf done) && decide (Builtin.Tuple.tupleHashOf done < 2 ^ 63)) = true then _ else _) Q E _
  unfold reduceHash at q
  by_cases hr : (decide (-(2 : Int) ^ 63 <= Builtin.Tuple.tupleHashOf done) && decide (Builtin.Tuple.tupleHashOf done < 2 ^ 63)) = true
  ·rw [if_pos hr]
   rw [if_pos hr] at q
   exact wpAny_pure (by simpa [Nat.add_assoc] using q)
  ·rw [if_neg hr]
   rw [if_neg hr] at q
   exact wpAny_bind (wpAny_rule (wpAny_pure (by simpa [Nat.add_assoc] using q)))
theorem tuple_eq_gen {k : Nat} {a b : Addr} {xs ys : Array Value} {r : Bool} (hx : TupAt h a xs) (hy : TupAt h b ys) (hl : EqL prog w h k xs.toList ys.toList r) {A : Around} {E : Value -> Shared -> Prop} {s : Shared} (hs : s.heap = h) (hu : A.units + k < cLine) {P : Fin -> Shared -> Prop}
  (q : P (.done (.ret (.bool r))) s) : wpAny (model prog w) A (Builtin.«tuple.__eq__» ⟨[.ref a, .ref b], []⟩) P E s := by
 subst hs
 have hTb := hy.typeIs
 obtain ⟨oa, na, hoa, _, hda⟩ := hx
 obtain ⟨ob, nb, hob, _, hdb⟩ := hy
 show wpAny _ _ (isInstance (.ref b) (.type "tuple") >>= _) _ _ s
 refine wpAny_bind (wpAny_isInstance hTb isSubtype_tuple_tuple ?_)
 simp only [Bool.not_true, Bool.false_eq_true, if_false]
 refine wpAny_bind (wpAny_tupleItemsOf hoa hda ?_)
 refine wpAny_bind (wpAny_tupleItemsOf hob hdb ?_)
 refine wpAny_bind ?_
 refine wpAny_forIn_list _
  (fun rest t s' => t.1 = none /\ s' = s /\ ∃ xs' ys' c, rest = List.zip xs' ys' /\ EqL prog w s.heap k xs' ys' c /\ c = r /\ (xs'.length == ys'.length) = (xs.size == ys.size))
  _ ?_ ?_ _ _ ⟨rfl, rfl, xs.toList, ys.toList, r, rfl, hl, rfl, by simp⟩
 ·rintro ⟨u, v⟩ rest t s' ⟨ht, rfl, xs', ys', c, hz, hx', hc, hlen⟩
  cases hx' with
  | nil => simp at hz
  | left => simp at hz
  | right => simp at hz
  | @cons u' v' us vs b1 c1 h1 hx'' =>
   simp only [List.zip_cons_cons, List.cons.injEq, Prod.mk.injEq] at hz
   obtain ⟨⟨rfl, rfl⟩, rfl⟩ := hz
   refine wpAny_bind (h1 _ _ _ _ rfl hu ?_)
   cases b1 with
   | true =>
    simp only [Bool.not_true, Bool.false_eq_true, if_false]
    exact wpAny_pure ⟨rfl, rfl, us, vs, c1, rfl, hx'', by simpa using hc, by simpa using hlen⟩
   | false =>
    simp only [Bool.not_false, if_true]
    have e : r = false := by simpa using hc.symm
    subst e
    exact wpAny_bind (wpAny_pure (wpAny_pure (wpAny_pure q)))
 ·rintro ⟨r1, r2⟩ s' ⟨ht, rfl, xs', ys', c, hz, hx', hc, hlen⟩
  simp only at ht
  subst ht
  refine wpAny_pure ?_
  have hfin : (xs.size == ys.size) = r := by
   rw [<- hc, <- hlen]
   cases hx' with
   | nil => rfl
   | left => simp
   | right => simp
   | cons _ _ => simp at hz
  show P (.done (.ret (.bool (xs.size == ys.size)))) s'
  rw [hfin]; exact q
theorem eq_tuple {k : Nat} {a b : Addr} {xs ys : Array Value} {r : Bool} (hx : TupAt h a xs) (hy : TupAt h b ys) (hl : EqL prog w h k xs.toList ys.toList r) (same : a = b -> r = true) : EqRl prog w h (k + 1) (.ref a) (.ref b) r := by
 intro A E s Q hs hu q
 subst hs
 unfold PySem.eqBool
 try with_reducible refine wpAny_holding ?_
 show wpAny _ _ (if (Value.ref a == Value.ref b) = true then _ else _) Q E s
 by_cases hab : (Value.ref a == Value.ref b) = true
 ·rw [if_pos hab]
  have e : a = b := by have := eq_of_beq hab; injection this
  rw [same e] at q
  exact wpAny_bind (wpAny_rule (wpAny_pure (by simpa using q)))
 ·rw [if_neg hab]
  exact wpAny_bind (wpAny_richCompare_same_room (op := .Eq) hx.typeIs hy.typeIs F.slot_tuple_eq
   (wpAny_call_entry F.slot_tuple_eq hx.typeIs F.entry_tuple_eq (tuple_eq_gen hx hy hl rfl (by rw [units_in1]; omega) ⟨_, rfl, (fun e => nomatch e), wpAny_truthy_bool q⟩) (F.args_tuple_eq_2 _ _)) (by omega))
theorem quiet_val (n : Nat) {v : Value} (c : carriedByValue v = true) : QuietR prog w h n v := fun A E s Q _ q => by
 rw [eqIsQuiet_byValue n c]
 exact wpAny_pure q
theorem quiet_tuple {n : Nat} {a : Addr} {items : Array Value} (ht : TupAt h a items) (hi : ∀ v ∈ items.toList, QuietR prog w h n v) : QuietR prog w h (n + 1) (.ref a) := by
 intro A E s Q hs q
 subst hs
 have hT := ht.typeIs
 obtain ⟨o, m, ho, _, hd⟩ := ht
 unfold eqIsQuiet
 refine wpAny_bind (wpAny_specialOf hT F.slot_tuple_eq.lookup ?_)
 show wpAny _ _ (isInstance (.ref a) (.type "tuple") >>= _) _ _ s
 refine wpAny_bind (wpAny_isInstance hT isSubtype_tuple_tuple ?_)
 simp only [Bool.not_true, Bool.false_eq_true, if_false]
 refine wpAny_bind (wpAny_seqItems ho hd ?_)
 refine wpAny_bind ?_
 show wpAny _ _ (forIn items _ _) _ _ s
 rw [<- Array.forIn_toList]
 refine wpAny_forIn_list _ (fun rest r s' => r.1 = none /\ s' = s /\ ∀ v ∈ rest, QuietR prog w s.heap n v) _ ?_ ?_ _ _ ⟨rfl, rfl, hi⟩
 ·rintro v rest r s' ⟨hr, rfl, hall⟩
  refine wpAny_bind (hall v List.mem_cons_self _ _ _ _ rfl ?_)
  simp only [Bool.not_true, Bool.false_eq_true, if_false]
  exact wpAny_pure ⟨rfl, rfl, fun u hu' => hall u (List.mem_cons_of_mem _ hu')⟩
 ·rintro ⟨r1, r2⟩ s' ⟨hr, rfl, _⟩
  simp only at hr
  subst hr
  exact wpAny_pure q
end
end L2
set_option Elab.async false
set_option linter.all false
set_option maxRecDepth 100000
set_option maxHeartbeats 1000000
namespace L2
open PySem PySem.Spec PyProof.Rows
abbrev PKey := List Int × List (List Int) × List Int
def HI (h : Heap) (ns : List Int) (a : Addr) : Prop := ∃ items, TupAt h a items /\ IntsAre items.toList ns
def HRs (h : Heap) (rows : List (List Int)) (a : Addr) : Prop := ∃ items, TupAt h a items /\ Paired (fun v r => ∃ b, v = Value.ref b /\ HI h r b) items.toList rows
def HPk (h : Heap) (P : PKey) (a : Addr) : Prop := ∃ x y z, TupAt h a #[.ref x, .ref y, .ref z] /\ HI h P.1 x /\ HRs h P.2.1 y /\ HI h P.2.2 z
def hashI (ns : List Int) : Int := reduceHash (Builtin.Tuple.tupleHashOf (ns.map hashInt))
def hashRs (rows : List (List Int)) : Int := reduceHash (Builtin.Tuple.tupleHashOf (rows.map hashI))
def hashPk (P : PKey) : Int := reduceHash (Builtin.Tuple.tupleHashOf [hashI P.1, hashRs P.2.1, hashI P.2.2])
def drawI (ns : List Int) : Nat := ns.length + 1
def drawRs (rows : List (List Int)) : Nat := (rows.map drawI).sum + 1
def drawPk (P : PKey) : Nat := drawI P.1 + (drawRs P.2.1 + (drawI P.2.2 + 0)) + 1
theorem TupAt.inj {h : Heap} {a : Addr} {xs ys : Array Value} (x : TupAt h a xs) (y : TupAt h a ys) : xs = ys := by
 obtain ⟨o, n, ho, _, hd⟩ := x
 obtain ⟨o', n', ho', _, hd'⟩ := y
 obtain rfl : o = o' := Option.some.inj (ho.symm.trans ho')
 rw [hd] at hd'
 injection hd'
theorem TupAt.keeps {h h' : Heap} {a d : Addr} {items : Array Value} {o : Obj} {es ep} (x : TupAt h a items) (ho : h.get? d = some o) (hd : o.data = .dict es ep) (hs : Heap.SameBut d h h') : TupAt h' a items := by
 obtain ⟨o', n, ho', hc, hd'⟩ := x
 have hne : a ≠ d := by
  rintro rfl
  obtain rfl : o' = o := Option.some.inj (ho'.symm.trans ho)
  rw [hd] at hd'; exact nomatch hd'
 exact ⟨o', n, (hs.2 a hne).trans ho', hc, hd'⟩
theorem intsAre_inj : ∀ {us : List Value} {a b : List Int}, IntsAre us a -> IntsAre us b -> a = b
 | _, _, _, .nil, .nil => rfl
 | _, _, _, .cons n t x, .cons _ _ y => by rw [intsAre_inj x y]
theorem HI.inj {h : Heap} {a : Addr} {x y : List Int} (hx : HI h x a) (hy : HI h y a) : x = y := by
 obtain ⟨us, t, i⟩ := hx
 obtain ⟨vs, t', j⟩ := hy
 obtain rfl := t.inj t'
 exact intsAre_inj i j
theorem rows_inj {h : Heap} : ∀ {us : List Value} {a b : List (List Int)}, Paired (fun v r => ∃ b, v = Value.ref b /\ HI h r b) us a -> Paired (fun v r => ∃ b, v = Value.ref b /\ HI h r b) us b -> a = b
 | _, _, _, .nil, .nil => rfl
 | _, _, _, .cons ⟨p, e, x⟩ t, .cons ⟨q, e', y⟩ t' => by
  rw [e] at e'
  cases e'
  rw [x.inj y, rows_inj t t']
theorem HRs.inj {h : Heap} {a : Addr} {x y : List (List Int)} (hx : HRs h x a) (hy : HRs h y a) : x = y := by
 obtain ⟨us, t, i⟩ := hx
 obtain ⟨vs, t', j⟩ := hy
 obtain rfl := t.inj t'
 exact rows_inj i j
theorem HPk.inj {h : Heap} {a : Addr} {x y : PKey} (hx : HPk h x a) (hy : HPk h y a) : x = y := by
 obtain ⟨a1, a2, a3, t, i1, i2, i3⟩ := hx
 obtain ⟨b1, b2, b3, t', j1, j2, j3⟩ := hy
 have e := congrArg Array.toList (t.inj t')
 simp only [List.cons.injEq, Value.ref.injEq, and_true] at e
 obtain ⟨rfl, rfl, rfl⟩ := e
 exact Prod.ext (i1.inj j1) (Prod.ext (i2.inj j2) (i3.inj j3))
theorem HI.keeps {h h' : Heap} {a d : Addr} {k : List Int} {o : Obj} {es ep} (x : HI h k a) (ho : h.get? d = some o) (hd : o.data = .dict es ep) (hs : Heap.SameBut d h h') : HI h' k a := by
 obtain ⟨us, t, i⟩ := x
 exact ⟨us, t.keeps ho hd hs, i⟩
theorem HRs.keeps {h h' : Heap} {a d : Addr} {k : List (List Int)} {o : Obj} {es ep} (x : HRs h k a) (ho : h.get? d = some o) (hd : o.data = .dict es ep) (hs : Heap.SameBut d h h') : HRs h' k a := by
 obtain ⟨us, t, i⟩ := x
 exact ⟨us, t.keeps ho hd hs, L2.Paired.imp' (fun v r ⟨b, e, y⟩ => ⟨b, e, y.keeps ho hd hs⟩) i⟩
theorem HPk.keeps {h h' : Heap} {a d : Addr} {k : PKey} {o : Obj} {es ep} (x : HPk h k a) (ho : h.get? d = some o) (hd : o.data = .dict es ep) (hs : Heap.SameBut d h h') : HPk h' k a := by
 obtain ⟨a1, a2, a3, t, i1, i2, i3⟩ := x
 exact ⟨a1, a2, a3, t.keeps ho hd hs, i1.keeps ho hd hs, i2.keeps ho hd hs, i3.keeps ho hd hs⟩
section
variable {prog : Program} {w : World} {h : Heap}
theorem hashAll_ints {k : Nat} : ∀ {us : List Value} {ns : List Int}, IntsAre us ns -> HashAll prog w h k us (ns.map hashInt) ns.length
 | _, _, .nil => .nil
 | _, _, .cons n t x => by
  have := hashAll_ints (k := k) x
  have e := HashAll.cons (hash_int (prog := prog) (w := w) (h := h) (k := k) n t) this
  rw [Nat.add_comm] at e
  exact e
theorem HI.hash {ns : List Int} {a : Addr} (x : HI h ns a) : HashR prog w h 1 (.ref a) (hashI ns) (drawI ns) := by
 obtain ⟨us, t, i⟩ := x
 exact hash_tuple t (hashAll_ints i)
theorem hashAll_rows : ∀ {us : List Value} {rows : List (List Int)}, Paired (fun v r => ∃ b, v = Value.ref b /\ HI h r b) us rows -> HashAll prog w h 1 us (rows.map hashI) ((rows.map drawI).sum)
 | _, _, .nil => .nil
 | _, _, .cons ⟨b, e, x⟩ t => by
  subst e
  rw [List.map_cons, List.map_cons, List.sum_cons]
  exact .cons x.hash (hashAll_rows t)
theorem HRs.hash {rows : List (List Int)} {a : Addr} (x : HRs h rows a) : HashR prog w h 2 (.ref a) (hashRs rows) (drawRs rows) := by
 obtain ⟨us, t, i⟩ := x
 exact hash_tuple t (hashAll_rows i)
theorem HashR.mono {j k : Nat} {v : Value} {n : Int} {d : Nat} (x : HashR prog w h j v n d) (e : j <= k) : HashR prog w h k v n d := fun A E s Q hs hu q => x A E s Q hs (by omega) q
theorem EqRl.mono {j k : Nat} {u v : Value} {b : Bool} (x : EqRl prog w h j u v b) (e : j <= k) : EqRl prog w h k u v b := fun A E s Q hs hu q => x A E s Q hs (by omega) q
theorem HPk.hash {P : PKey} {a : Addr} (x : HPk h P a) : HashR prog w h 3 (.ref a) (hashPk P) (drawPk P) := by
 obtain ⟨a1, a2, a3, t, i1, i2, i3⟩ := x
 exact hash_tuple t (.cons (i1.hash.mono (by decide)) (.cons i2.hash (.cons (i3.hash.mono (by decide)) .nil)))
theorem eqL_ints {k : Nat} : ∀ {us vs : List Value} {xs ys : List Int}, IntsAre us xs -> IntsAre vs ys -> EqL prog w h k us vs (decide (xs = ys))
 | _, _, _, _, .nil, .nil => by simpa using EqL.nil
 | _, _, _, _, .nil, .cons n t x => by simpa using EqL.left
 | _, _, _, _, .cons n t x, .nil => by simpa using EqL.right
 | _, _, _, _, .cons (ns := xs) n t x, .cons (ns := ys) m u y => by
  have e : decide (n :: xs = m :: ys) = (decide (n = m) && decide (xs = ys)) := by simp [Bool.decide_and]
  rw [e]
  exact .cons (eq_ints n m t u) (eqL_ints x y)
theorem HI.eq {x y : List Int} {a b : Addr} (hx : HI h x a) (hy : HI h y b) : EqRl prog w h 1 (.ref a) (.ref b) (decide (x = y)) := by
 obtain ⟨us, t, i⟩ := id hx
 obtain ⟨vs, t', j⟩ := id hy
 exact eq_tuple t t' (eqL_ints i j) fun e => by subst e; exact decide_eq_true (hx.inj hy)
theorem eqL_rows : ∀ {us vs : List Value} {xs ys : List (List Int)}, Paired (fun v r => ∃ b, v = Value.ref b /\ HI h r b) us xs -> Paired (fun v r => ∃ b, v = Value.ref b /\ HI h r b) vs ys -> EqL prog w h 1 us vs (decide (xs = ys))
 | _, _, _, _, .nil, .nil => by simpa using EqL.nil
 | _, _, _, _, .nil, .cons x t => by simpa using EqL.left
 | _, _, _, _, .cons x t, .nil => by simpa using EqL.right
 | _, _, _, _, .cons (b := n) (l₂ := xs) ⟨p, e1, x⟩ t, .cons (b := m) (l₂ := ys) ⟨q, e2, y⟩ t' => by
  subst e1 e2
  have e : decide (n :: xs = m :: ys) = (decide (n = m) && decide (xs = ys)) := by simp [Bool.decide_and]
  rw [e]
  exact .cons (x.eq y) (eqL_rows t t')
theorem HRs.eq {x y : List (List Int)} {a b : Addr} (hx : HRs h x a) (hy : HRs h y b) : EqRl prog w h 2 (.ref a) (.ref b) (decide (x = y)) := by
 obtain ⟨us, t, i⟩ := id hx
 obtain ⟨vs, t', j⟩ := id hy
 exact eq_tuple t t' (eqL_rows i j) fun e => by subst e; exact decide_eq_true (hx.inj hy)
theorem HPk.eq {x y : PKey} {a b : Addr} (hx : HPk h x a) (hy : HPk h y b) : EqRl prog w h 3 (.ref a) (.ref b) (decide (x = y)) := by
 obtain ⟨a1, a2, a3, t, i1, i2, i3⟩ := id hx
 obtain ⟨b1, b2, b3, t', j1, j2, j3⟩ := id hy
 have e : decide (x = y) = (decide (x.1 = y.1) && (decide (x.2.1 = y.2.1) && (decide (x.2.2 = y.2.2) && true))) := by
  obtain ⟨x1, x2, x3⟩ := x
  obtain ⟨y1, y2, y3⟩ := y
  simp [Bool.decide_and]
 have l : EqL prog w h 2 [Value.ref a1, .ref a2, .ref a3] [.ref b1, .ref b2, .ref b3] (decide (x = y)) := by
  rw [e]
  exact .cons ((i1.eq j1).mono (by decide)) (.cons (i2.eq j2) (.cons ((i3.eq j3).mono (by decide)) .nil))
 exact eq_tuple t t' l fun e => by subst e; exact decide_eq_true (hx.inj hy)
theorem HI.quiet {ns : List Int} {a : Addr} (n : Nat) (x : HI h ns a) : QuietR prog w h (n + 1) (.ref a) := by
 obtain ⟨us, t, i⟩ := x
 refine quiet_tuple t fun v hv => quiet_val n ?_
 clear t
 generalize us.toList = l at i hv
 induction i with
 | nil => simp at hv
 | cons m t _ ih =>
  rcases List.mem_cons.mp hv with rfl | hv
  ·rfl
  ·exact ih hv
theorem HRs.quiet {rows : List (List Int)} {a : Addr} (n : Nat) (x : HRs h rows a) : QuietR prog w h (n + 2) (.ref a) := by
 obtain ⟨us, t, i⟩ := x
 refine quiet_tuple t fun v hv => ?_
 clear t
 generalize us.toList = l at i hv
 induction i with
 | nil => simp at hv
 | cons r _ ih =>
  obtain ⟨b, e, y⟩ := r
  rcases List.mem_cons.mp hv with rfl | hv
  ·subst e; exact y.quiet n
  ·exact ih hv
theorem HPk.quiet {P : PKey} {a : Addr} (x : HPk h P a) : QuietR prog w h 8 (.ref a) := by
 obtain ⟨a1, a2, a3, t, i1, i2, i3⟩ := x
 refine quiet_tuple (n := 7) t fun v hv => ?_
 simp only [List.mem_cons, List.not_mem_nil, or_false] at hv
 rcases hv with rfl | rfl | rfl
 ·exact i1.quiet 6
 ·exact i2.quiet 5
 ·exact i3.quiet 6
end
def pkKind (prog : Program) (w : World) : HeapKind prog w PKey where
 is := HPk
 hash := hashPk
 draws := drawPk
 room := fun A => A.units + 3 < cLine
 inj := fun hx hy => hx.inj hy
 keeps := fun x ho hd hs => x.keeps ho hd hs
 pyHash := fun hu hk q => hk.hash _ _ _ _ rfl hu q
 eqBool := fun hu hx hy q => hx.eq hy _ _ _ _ rfl hu q
 quiet := fun hk q => hk.quiet _ _ _ _ rfl q
def TIs (K : W.Frag) (H : Hp) (a : Addr) (ns : List Int) : Prop := SqT K H a (ns.map V.int)
def TRs (K : W.Frag) (H : Hp) (a : Addr) (rows : List (List Int)) : Prop := ∃ as : List Addr, SqT K H a (as.map V.ref) /\ Paired (fun b r => TIs K H b r) as rows
def KeyAt (K : W.Frag) (H : Hp) (a : Addr) (P : PKey) : Prop := ∃ x y z, SqT K H a [.ref x, .ref y, .ref z] /\ TIs K H x P.1 /\ TRs K H y P.2.1 /\ TIs K H z P.2.2
theorem Same.tup {K : W.Frag} {H H' : Hp} {a : Addr} {xs : List V} (e : Same H H') (h : SqT K H a xs) : SqT K H' a xs := by
 rcases h with (h | ⟨o, h⟩) | h
 ·exact .inl (.inl (e _ _ h))
 ·exact .inl (.inr ⟨o, e _ _ h⟩)
 ·exact .inr h
def Tups (H H' : Hp) : Prop := ∀ b xs, (H b = some (.tup xs) -> H' b = some (.tup xs)) /\ ∀ o, H b = some (.frz o (.tup xs)) -> H' b = some (.frz o (.tup xs))
theorem Same.tups {H H' : Hp} (e : Same H H') : Tups H H' := fun b xs => ⟨fun h => e _ _ h, fun o h => e _ _ h⟩
theorem Tups.trans {H H1 H2 : Hp} (a : Tups H H1) (b : Tups H1 H2) : Tups H H2 := fun c xs => ⟨fun h => (b c xs).1 ((a c xs).1 h), fun o h => (b c xs).2 o ((a c xs).2 o h)⟩
theorem Tups.tup {K : W.Frag} {H H' : Hp} {a : Addr} {xs : List V} (e : Tups H H') (h : SqT K H a xs) : SqT K H' a xs := by
 rcases h with (h | ⟨o, h⟩) | h
 ·exact .inl (.inl ((e _ _).1 h))
 ·exact .inl (.inr ⟨o, (e _ _).2 o h⟩)
 ·exact .inr h
theorem TIs.tups {K : W.Frag} {H H' : Hp} {a : Addr} {ns : List Int} (h : TIs K H a ns) (e : Tups H H') : TIs K H' a ns := e.tup h
theorem TRs.tups {K : W.Frag} {H H' : Hp} {a : Addr} {rows : List (List Int)} (h : TRs K H a rows) (e : Tups H H') : TRs K H' a rows := by
 obtain ⟨as, h1, h2⟩ := h
 exact ⟨as, e.tup h1, L2.Paired.imp' (fun b r x => x.tups e) h2⟩
theorem KeyAt.tups {K : W.Frag} {H H' : Hp} {a : Addr} {P : PKey} (h : KeyAt K H a P) (e : Tups H H') : KeyAt K H' a P := by
 obtain ⟨x, y, z, t, i, j, k⟩ := h
 exact ⟨x, y, z, e.tup t, i.tups e, j.tups e, k.tups e⟩
theorem tups_upd {H : Hp} {a : Addr} {o u : HO} (h : H a = some u) (n1 : ∀ xs, u ≠ .tup xs) (n2 : ∀ p xs, u ≠ .frz p (.tup xs)) : Tups H (upd H a o) := fun b xs =>
 ⟨fun e => by rw [upd_ne (ne_of e h (fun z => n1 xs z.symm))]; exact e, fun p e => by rw [upd_ne (ne_of e h (fun z => n2 p xs z.symm))]; exact e⟩
section
variable {X : Cx} {pins : List (Addr × Obj)} {σ : St} {H : Hp} {s : Shared}
theorem Inv.hi (I : Inv X pins σ H s) {a : Addr} {ns : List Int} (h : TIs X.K H a ns) : HI s.heap ns a := by
 obtain ⟨its, r, t, _⟩ := I.tuple h
 exact ⟨its.toArray, .of_isTup t, intsAre_of r⟩
theorem refs_rows (I : Inv X pins σ H s) : ∀ {as : List Addr} {us : List Value} {rows : List (List Int)}, Vals (as.map V.ref) us -> Paired (fun b r => TIs X.K H b r) as rows -> Paired (fun v r => ∃ b, v = Value.ref b /\ HI s.heap r b) us rows
 | [], _, _, .nil, .nil => .nil
 | a :: as, _, _, .cons r t, .cons x y => .cons ⟨a, r, I.hi x⟩ (refs_rows I t y)
theorem Inv.hrs (I : Inv X pins σ H s) {a : Addr} {rows : List (List Int)} (h : TRs X.K H a rows) : HRs s.heap rows a := by
 obtain ⟨as, h1, h2⟩ := h
 obtain ⟨its, r, t, _⟩ := I.tuple h1
 exact ⟨its.toArray, .of_isTup t, refs_rows I r h2⟩
theorem Inv.hpk (I : Inv X pins σ H s) {a : Addr} {P : PKey} (h : KeyAt X.K H a P) : HPk s.heap P a := by
 obtain ⟨x, y, z, t, i, j, k⟩ := h
 obtain ⟨its, r, t, _⟩ := I.tuple t
 cases r with
 | cons r1 r =>
  cases r with
  | cons r2 r =>
   cases r with
   | cons r3 r =>
    cases r
    cases r1
    cases r2
    cases r3
    exact ⟨x, y, z, .of_isTup t, I.hi i, I.hrs j, I.hi k⟩
end
def dN (P : Program) (w : World) (a : Addr) (xs : List (PKey × Addr × Value)) : HO := .ext fun h => (a == sysModules) = false /\
 ∃ o es ep, h.get? a = some o /\ o.ExactDict /\ o.data = .dict es ep /\ es.toList = xs.map (entryOfKey (pkKind P w)) /\ (xs.map (·.1)).Nodup
def TriedAt (P : Program) (w : World) (K : W.Frag) (H : Hp) (a : Addr) (tried : List PKey) : Prop :=
 ∃ xs, H a = some (dN P w a xs) /\ xs.map (·.1) = tried /\ ∀ x ∈ xs, KeyAt K H x.2.1 x.1
theorem dN_stable {P : Program} {w : World} {H : Hp} {h : Heap} {a : Addr} {xs : List (PKey × Addr × Value)} (hd : (a == sysModules) = false) {o : Obj} {es ep} (h1 : h.get? a = some o) (h2 : o.ExactDict) (h3 : o.data = .dict es ep) (h4 : es.toList = xs.map (entryOfKey (pkKind P w))) (h5 : (xs.map (·.1)).Nodup) :
  ObjOk P w H h a (dN P w a xs) :=
 ⟨⟨hd, o, es, ep, h1, h2, h3, h4, h5⟩, ⟨o, h1⟩, fun k1 k2 ⟨q, o', es', ep', g1, g⟩ st => ⟨q, o', es', ep', st _ g1, g⟩⟩
theorem dN_no_tup {P : Program} {w : World} {a : Addr} {xs : List (PKey × Addr × Value)} : (∀ ys, dN P w a xs ≠ .tup ys) /\ ∀ p ys, dN P w a xs ≠ .frz p (.tup ys) := ⟨fun ys z => (nomatch z), fun p ys z => (nomatch z)⟩
theorem TriedAt.tups {P : Program} {w : World} {K : W.Frag} {H H' : Hp} {a : Addr} {tried : List PKey} (t : TriedAt P w K H a tried) (e : Tups H H') (k : ∀ o, H a = some o -> H' a = some o) : TriedAt P w K H' a tried := by
 obtain ⟨xs, h1, h2, h3⟩ := t
 exact ⟨xs, k _ h1, h2, fun x hx => (h3 x hx).tups e⟩
theorem atKey_mem {xs : List (PKey × Addr × Value)} {k : PKey} : (atKey xs k).isSome = decide (k ∈ xs.map (·.1)) := by
 unfold atKey
 induction xs with
 | nil => rfl
 | cons x xs ih =>
  rw [List.find?_cons, List.map_cons]
  by_cases e : x.1 = k
  ·rw [decide_eq_true e]; simp [e]
  ·rw [decide_eq_false e]
   have : decide (k ∈ x.1 :: xs.map (·.1)) = decide (k ∈ xs.map (·.1)) := by
    have q : (k ∈ x.1 :: xs.map (·.1)) = (k ∈ xs.map (·.1)) := by
     rw [List.mem_cons]
     exact propext ⟨fun h => h.elim (fun z => absurd z.symm e) id, .inr⟩
    simp only [q]
   rw [this]
   exact ih
section
variable {X : Cx} {pins : List (Addr × Obj)} {σ : St} {H : Hp} {s : Shared} {a b : Addr} {tried : List PKey} {k : PKey} {A : Around} {E : Value -> Shared -> Prop}
theorem dn_of (I : Inv X pins σ H s) (t : TriedAt X.prog X.w X.K H a tried) : ∃ xs, H a = some (dN X.prog X.w a xs) /\ xs.map (·.1) = tried /\ (∀ x ∈ xs, KeyAt X.K H x.2.1 x.1) /\ (a == sysModules) = false /\ s.heap.DictOfH (pkKind X.prog X.w) a xs := by
 obtain ⟨xs, h1, h2, h3⟩ := t
 obtain ⟨⟨hd, o, es, ep, g1, g2, g3, g4, g5⟩, _, _⟩ := (show ObjOk X.prog X.w H s.heap a (dN X.prog X.w a xs) from I.hok a _ h1)
 exact ⟨xs, h1, h2, h3, hd, o, es, ep, g1, g2, g3, g4, fun x hx => I.hpk (h3 x hx), g5⟩
theorem n_notIn {Q : Value -> Shared -> Prop} (hu : A.units + 4 < cLine) (I : Inv X pins σ H s) (t : TriedAt X.prog X.w X.K H a tried) (hk : KeyAt X.K H b k) (h : ∀ s', Inv X pins σ H s' -> Q (.bool (!decide (k ∈ tried))) s') :
  wpAny (model X.prog X.w) A (compareOp .NotIn (.ref b) (.ref a)) Q E s := by
 obtain ⟨xs, _, h2, _, hd, dd⟩ := dn_of I t
 refine wpAny_notIn_heap (knd := pkKind X.prog X.w) (show A.in1.units + 3 < cLine by rw [units_in1]; omega) (I.hpk hk) hd dd ?_
 rw [atKey_mem, h2]
 exact h _ (I.tok _)
theorem n_put {v : Value} {Q : Unit -> Shared -> Prop} (hu : A.units + 4 < cLine) (I : Inv X pins σ H s) (t : TriedAt X.prog X.w X.K H a tried) (hk : KeyAt X.K H b k) (new : k ∉ tried) (hz : tried.length < sizeLine)
  (h : ∀ H' s', (∀ c, c ≠ a -> H' c = H c) -> TriedAt X.prog X.w X.K H' a (tried ++ [k]) -> Inv X pins σ H' s' -> Q () s') : wpAny (model X.prog X.w) A (setItem (.ref a) (.ref b) v) Q E s := by
 obtain ⟨xs, h1, h2, h3, hd, dd⟩ := dn_of I t
 have hz' : xs.length <= sizeLine := by
  have : xs.length = tried.length := by rw [<- h2, List.length_map]
  omega
 refine wpAny_setItem_heap (hsz := hz') (knd := pkKind X.prog X.w) (show A.in1.units + 3 < cLine by rw [units_in1]; omega) (I.hpk hk) dd fun h' dd' hs => ?_
 have e0 : atKey xs k = none := by
  have := atKey_mem (xs := xs) (k := k)
  rw [h2, decide_eq_false new] at this
  exact Option.isNone_iff_eq_none.mp (by rw [<- Option.not_isSome, this]; rfl)
 rw [storedH_new e0] at dd'
 obtain ⟨q, es, ep, hq, g2, g3, g4, _, g5⟩ := dd'
 have tu : Tups H (upd H a (dN X.prog X.w a (xs ++ [(k, b, v)]))) := tups_upd h1 dN_no_tup.1 dN_no_tup.2
 refine h (upd H a (dN X.prog X.w a (xs ++ [(k, b, v)]))) _ (fun c hc => upd_ne hc) ⟨_, upd_same, by rw [List.map_append, h2]; rfl, fun x hx => ?_⟩ (d_write I (by rw [h1]; exact True.intro) hs ⟨q, hq⟩ (dN_stable hd hq g2 g3 g4 g5))
 rcases List.mem_append.mp hx with hx | hx
 ·exact (h3 x hx).tups tu
 ·simp only [List.mem_cons, List.not_mem_nil, or_false] at hx
  subst hx
  exact hk.tups tu
end
section
variable {X : Cx} {o i value : Expr} {pos pos' : Pos} {td ty tv : TE}
def tNNotIn (P : Program) (w : World) (K : W.Frag) (ty td : TE) : TE := fun σ H Q => ty σ H fun y H1 => td σ H1 fun x H2 => ∃ a b tried k, x = .ref a /\ y = .ref b /\ TriedAt P w K H2 a tried /\ KeyAt K H2 b k /\ Q (.bl (!decide (k ∈ tried))) H2
theorem pc_nnotin (hu : X.A.units + 4 < cLine) (hi : PE X i ty) (ho : PE X o td) : PC X .NotIn i o (tNNotIn X.prog X.w X.K ty td) := by
 intro pins s σ H Q I h
 refine thn (hi pins s σ H _ I h) fun iv s1 ⟨y, H1, I1, ry, q1⟩ => thn (ho pins s1 σ H1 _ I1 q1) fun u s2 ⟨x, H2, I2, rx, a, b, tried, k, ex, ey, t, hk, q2⟩ => ?_
 subst ex ey
 obtain rfl : u = Value.ref a := rx
 obtain rfl : iv = Value.ref b := ry
 exact n_notIn hu I2 t hk fun s3 I3 => ⟨.bl (!decide (k ∈ tried)), H2, I3, rfl, q2⟩
def sNPut (P : Program) (w : World) (K : W.Frag) (td ty tv : TE) : TS := fun D σ H => tv σ H fun v H1 => td σ H1 fun x H2 => ty σ H2 fun y H3 => ∃ a b tried k, x = .ref a /\ y = .ref b /\ TriedAt P w K H3 a tried /\ KeyAt K H3 b k /\ k ∉ tried /\ tried.length < sizeLine /\
 ∀ H4 : Hp, (∀ c, c ≠ a -> H4 c = H3 c) -> TriedAt P w K H4 a (tried ++ [k]) -> D.nx σ H4
theorem ps_nput (hu : X.A.units + 4 < cLine) (ho : PE X o td) (hi : PE X i ty) (hv : PE X value tv) (hs : swapsWith value (some (.Subscript o i pos')) pos.line X.env = pure false) :
  PS X (.Assign [.Subscript o i pos'] value pos) (sNPut X.prog X.w X.K td ty tv) := by
 intro pins s σ H D I h
 refine wpAny_Assign_Subscript (thn (hv pins s σ H _ I h) fun r s1 ⟨v, H1, I1, rv, q1⟩ => thn (ho pins s1 σ H1 _ I1 q1) fun u s2 ⟨x, H2, I2, rx, q2⟩ => thn (hi pins s2 σ H2 _ I2 q2) fun iv s3 ⟨y, H3, I3, ry, a, b, tried, k, ex, ey, t, hk, new, hz, q3⟩ => ?_) hs
 subst ex ey
 obtain rfl : u = Value.ref a := rx
 obtain rfl : iv = Value.ref b := ry
 exact n_put hu I3 t hk new hz fun H4 s4 e t4 I4 => ⟨σ, H4, I4, q3 H4 e t4⟩
def tNNew (P : Program) (w : World) (K : W.Frag) : TE := fun _ H Q => ∀ p H', H p = none -> Same H H' -> TriedAt P w K H' p [] -> Q (.ref p) H'
theorem pe_nnew : PE X (.Dict [] [] pos) (tNNew X.prog X.w X.K) := fun pins s σ H Q I h =>
 wpAny_Dict_empty ⟨.ref s.heap.objs.size, _, I.laid (a := s.heap.objs.size) (o := dN X.prog X.w s.heap.objs.size []) (t' := s.toks) (fun _ _ q => Heap.get?_push_of_some _ q) (Nat.le_refl _)
  (dN_stable (beq_eq_false_iff_ne.mpr (Ne.symm (Nat.ne_of_lt I.big))) (Heap.get?_push_size _ rfl) ⟨rfl, rfl, rfl⟩ rfl rfl List.nodup_nil), rfl, h _ _ (I.hok.fresh (Nat.le_refl _)) (same_new (I.hok.fresh (Nat.le_refl _))) ⟨[], upd_same, rfl, fun x hx => by simp at hx⟩⟩
end
end L2
set_option Elab.async false
set_option linter.all false
set_option maxRecDepth 100000
set_option maxHeartbeats 1000000
namespace L2
open PySem PySem.Spec PyProof.Rows
def PvC (H : Hp) (D : Addr) (r : List (Option V)) (i : Nat) (H' : Hp) : Prop := Same H H' /\ H' D = some (.lst ((r.take i).filterMap id))
theorem PvC.start {H : Hp} {D : Addr} {r : List (Option V)} (h : H D = none) : PvC H D r 0 (upd H D (.lst [])) := ⟨same_new h, by rw [upd_same]; rfl⟩
theorem take_one {α : Type} : ∀ {l : List α} {i : Nat} {x : α}, l[i]? = some x -> l.take (i + 1) = l.take i ++ [x]
 | [], i, x, h => by simp at h
 | a :: l, 0, x, h => by
  have e : a = x := Option.some.inj h
  subst e
  rfl
 | a :: l, i + 1, x, h => by
  have ih := take_one (l := l) (i := i) (x := x) h
  show a :: l.take (i + 1) = a :: l.take i ++ [x]
  rw [ih]
  rfl
theorem PvC.add {H H' H4 : Hp} {D : Addr} {r : List (Option V)} {i : Nat} {y : V} (p : PvC H D r i H') (hD : H D = none) (s : Same H' H4) (e : r[i]? = some (some y)) (hz : r.length <= 16000000) :
  ∃ acc, H4 D = some (.lst acc) /\ acc.length < sizeLine /\ PvC H D r (i + 1) (upd H4 D (.lst (acc ++ [y]))) := by
 refine ⟨_, s _ _ p.2, ?_, ?_, ?_⟩
 ·have h1 : ((r.take i).filterMap id).length <= (r.take i).length := List.length_filterMap_le _ _
  rw [List.length_take] at h1
  have h2 : i < r.length := (List.getElem?_eq_some_iff.mp e).1
  have : (16000000 : Nat) < sizeLine := by decide
  omega
 ·intro b o h
  have hb : b ≠ D := ne_of_none h hD
  rw [upd_ne hb]
  exact s _ _ (p.1 _ _ h)
 ·rw [upd_same, take_one e, List.filterMap_append]
  rfl
theorem PvC.skip {H H' H3 : Hp} {D : Addr} {r : List (Option V)} {i : Nat} (p : PvC H D r i H') (s : Same H' H3) (e : r[i]? = some none) : PvC H D r (i + 1) H3 := by
 refine ⟨p.1.trans s, ?_⟩
 rw [take_one e, List.filterMap_append, s _ _ p.2]
 simp
theorem PvC.done {H H' : Hp} {D : Addr} {r : List (Option V)} {n : Nat} (p : PvC H D r n H') (hn : n = r.length) : Same H H' /\ H' D = some (.lst (r.filterMap id)) := by
 refine ⟨p.1, ?_⟩
 rw [p.2, hn, List.take_length]
theorem filterMap_some {α β : Type} (f : α -> β) (l : List α) : (l.map fun a => some (f a)).filterMap id = l.map f := by
 induction l with
 | nil => rfl
 | cons a l ih => simp [ih]
theorem map_get {α β : Type} {f : α -> β} {l : List α} {i : Nat} {y : β} (h : (l.map f)[i]? = some y) : ∃ a, l[i]? = some a /\ y = f a := by
 rw [List.getElem?_map] at h
 cases e : l[i]? with
 | none => rw [e] at h; cases h
 | some a => rw [e] at h; exact ⟨a, rfl, (Option.some.inj h).symm⟩
end L2
namespace L2
open PySem PySem.Spec PyProof.Rows
theorem for_enum {K : W.Frag} {a : Addr} {xs : List V} {g : TG} {tb : TS} {D : Ends} {σ : St} {H : Hp} (Pv : Nat -> St -> Hp -> Prop) (h0 : Pv 0 σ H) (hl : ∀ i σ H, i <= xs.length -> Pv i σ H -> SqL K H a xs)
  (hs : ∀ i x σ H T, xs[i]? = some x -> Pv i σ H -> H T = none -> g (.ref T) σ (upd H T (.tup [.int (i : Nat), x])) fun σ2 H2 => tb { D with nx := Pv (i + 1), ct := Pv (i + 1), bk := D.nx } σ2 H2) (hd : ∀ σ H, Pv xs.length σ H -> D.nx σ H) :
  ∃ W : Nat -> Nat -> St -> Hp -> Prop, (∃ m, W 0 m σ H) /\ ∀ i m σ H, W i m σ H ->
   ((Ite K a).stop i H /\ D.nx σ H) ∨ ((Ite K a).go i H /\ ∃ N : St -> Hp -> Prop, (∀ σ' H', N σ' H' -> ∃ m', m' < m /\ W (i + 1) m' σ' H') /\ ∀ x H', (Ite K a).yld i H x H' -> g x σ H' fun σ2 H2 => tb { D with nx := N, ct := N, bk := D.nx } σ2 H2) := by
 refine ⟨fun i m σ H => m = xs.length - i /\ i <= xs.length /\ Pv i σ H, ⟨xs.length, by simp, Nat.zero_le _, h0⟩, ?_⟩
 rintro i m σ H ⟨rfl, hi, p⟩
 have q := hl i σ H hi p
 by_cases hlt : i < xs.length
 ·refine .inr ⟨⟨xs, xs[i], q, by simp [hlt]⟩, Pv (i + 1), fun σ' H' p' => ⟨xs.length - (i + 1), by omega, rfl, hlt, p'⟩, fun x H' y => ?_⟩
  obtain ⟨T, y, rfl, hT, rfl, hy⟩ := y
  exact hs i y σ H T (hy xs q) p hT
 ·have e : i = xs.length := by omega
  subst e
  exact .inl ⟨⟨xs, q, Nat.le_refl _⟩, hd σ H p⟩
theorem prd_get {α β : Type} {F : α -> β -> Prop} : ∀ {l₁ : List α} {l₂ : List β} {i : Nat} {x : α}, Paired F l₁ l₂ -> l₁[i]? = some x -> ∃ y, l₂[i]? = some y /\ F x y
 | _, _, _, _, .nil, e => by simp at e
 | _, _, 0, _, .cons r _, e => by simp at e; subst e; exact ⟨_, rfl, r⟩
 | _, _, i + 1, x, .cons _ t, e => by
  obtain ⟨y, h1, h2⟩ := prd_get (i := i) (x := x) t (by simpa using e)
  exact ⟨y, by simpa using h1, h2⟩
theorem prd_get2 {α β : Type} {F : α -> β -> Prop} : ∀ {l₁ : List α} {l₂ : List β} {i : Nat} {y : β}, Paired F l₁ l₂ -> l₂[i]? = some y -> ∃ x, l₁[i]? = some x /\ F x y
 | _, _, _, _, .nil, e => by simp at e
 | _, _, 0, _, .cons r _, e => by simp at e; subst e; exact ⟨_, rfl, r⟩
 | _, _, i + 1, x, .cons _ t, e => by
  obtain ⟨y, h1, h2⟩ := prd_get2 (i := i) (y := x) t (by simpa using e)
  exact ⟨y, by simpa using h1, h2⟩
end L2
set_option Elab.async false
set_option linter.all false
set_option maxRecDepth 100000
set_option maxHeartbeats 1000000
namespace L2
open PySem PySem.Spec PyProof.Rows
section
variable {prog : Program} {w : World} {A : Around} {s : Shared} {R : Result -> Shared -> Prop}
variable {I : Addr} {fp wr : List Addr} {G : Array GenState -> Array GenState -> Prop} {n : Nat} {P : Nat -> Value -> Prop} {St : Nat -> Shared -> Prop}
theorem ext_walk {T : String} (hTm : T = "list_reverseiterator" ∨ T = "reversed") (W : WalksS prog w A.in1 I fp wr G n P St) (hT : ∀ i s, St i s -> s.TypeIs (.ref I) T)
  (hint : ∀ (s₁ : Shared) (Q' : Bool -> Shared -> Prop) (E' : Value -> Shared -> Prop), St 0 s₁ -> (∀ b tk, s₁.toks <= tk -> Q' b { s₁ with toks := tk }) -> wpAny (model prog w) A.in1 (Builtin.List.listLengthHint (.ref I)) Q' E' s₁)
  (S : Addr) (res : Value) (c₀ : Nat) (hst : St 0 s) (hSf : S ∉ fp) (hI : I ∈ fp)
  (hS : s.heap.get? S = some { cls := .type "list", data := .seq #[] c₀ })
  (hR : ∀ s' acc' c', Moved (S :: wr) G s s' -> s'.heap.get? S = some { cls := .type "list", dict := none, data := .seq acc' c', slots := #[] } -> ItemsOf P acc' n -> R (.ok (.ret res)) s') (hn : n <= sizeLine) :
  wpAny (model prog w) A.in1 (Builtin.List.listExtendWith (.ref S) (.ref I) res)
   (fun fin s' => match fin with | .done f => R (.ok f) s' | .again c' => c'.quiet = true /\ codeAny (model prog w) A c' R s') (fun e s' => R (.error e) s') s := by
 have hSI : S ≠ I := fun e => hSf (e ▸ hI)
 unfold Builtin.List.listExtendWith
 refine wpAny_bind (wpAny_typeOf (hT 0 _ hst) ?_)
 have h1 : Builtin.List.listSameRef (.ref S) (.ref I) = false := by simp [Builtin.List.listSameRef, hSI]
 rcases hTm with rfl | rfl
 all_goals
  rw [if_neg (by rw [h1]; decide)]
  refine wpAny_bind (W.self 0 _ _ _ hst ?_)
  refine wpAny_bind (wpAny_holding (hint _ _ _ hst fun b tk htk => ?_))
  have hst' := W.frame 0 s s.heap tk hst htk fun b _ o e => e
  cases b with
  | false =>
   rw [if_neg (by decide)]
   refine wpAny_pure ⟨plainId_quiet F.plain_extend_loop _, codeAny_extend_loopS W hn _ hSf _ n 0 _ _ _ rfl (Nat.zero_le _) hst' hS (ItemsOf.nil P) fun s' acc' c' hm hS' hacc => ?_⟩
   exact hR s' acc' c' (Moved.trans W.gtrans ((Moved.refl W.grefl).then_heap htk fun b o _ e => e) hm) hS' hacc
  | true =>
   rw [if_pos (by decide)]
   refine wpAny_bind (wpAny_rule ?_)
   refine wpAny_bind ?_
   show wpAny _ A.in1 (updateSeq S (·.push .none) >>= fun _ => updateSeq S (·.pop)) _ _ _
   refine wpAny_bind (wpAny_updateSeq hS rfl ?_)
   have hS₂ := Heap.get?_update_self (Obj.mapSeq (·.push Value.none)) hS rfl
   refine wpAny_updateSeq (hz := by seq_fits) hS₂ rfl ?_
   have hS₃ := Heap.get?_update_self (Obj.mapSeq (·.pop)) hS₂ rfl
   have oth : ∀ b o, b ≠ S -> s.heap.get? b = some o -> ((s.heap.update S (Obj.mapSeq (·.push Value.none))).update S (Obj.mapSeq (·.pop))).get? b = some o :=
    fun b o hb e => (Heap.get?_update_other _ _ (Ne.symm hb)).trans ((Heap.get?_update_other _ _ (Ne.symm hb)).trans e)
   refine wpAny_pure ⟨plainId_quiet F.plain_extend_loop _, codeAny_extend_loopS W hn _ hSf _ n 0 _ _ _ rfl (Nat.zero_le _)
    (W.frame 0 s _ tk hst htk fun b hb o e => oth b o (fun h => hSf (h ▸ hb)) e) hS₃ (ItemsOf.nil P) fun s' acc' c' hm hS' hacc => ?_⟩
   exact hR s' acc' c' (Moved.trans W.gtrans ((Moved.refl W.grefl).then_heap htk fun b o hb e => oth b o (fun h => hb (h ▸ List.mem_cons_self)) e) hm) hS' hacc
theorem init_walk {T : String} (hTm : T = "list_reverseiterator" ∨ T = "reversed") (W : WalksS prog w A.in1 I fp wr G n P St) (hT : ∀ i s, St i s -> s.TypeIs (.ref I) T)
  (hint : ∀ (s₁ : Shared) (Q' : Bool -> Shared -> Prop) (E' : Value -> Shared -> Prop), St 0 s₁ -> (∀ b tk, s₁.toks <= tk -> Q' b { s₁ with toks := tk }) -> wpAny (model prog w) A.in1 (Builtin.List.listLengthHint (.ref I)) Q' E' s₁)
  (S : Addr) (hst : St 0 s) (hSf : S ∉ fp) (hI : I ∈ fp)
  (hS : s.heap.get? S = some { cls := .type "list", data := .seq #[] })
  (hR : ∀ s' acc' c', Moved (S :: wr) G s s' -> s'.heap.get? S = some { cls := .type "list", dict := none, data := .seq acc' c', slots := #[] } -> ItemsOf P acc' n -> R (.ok (.ret .none)) s') (hn : n <= sizeLine) :
  wpAny (model prog w) A.in1 (Builtin.«list.__init__» ⟨[.ref S, .ref I], []⟩)
   (fun fin s' => match fin with | .done f => R (.ok f) s' | .again c' => c'.quiet = true /\ codeAny (model prog w) A c' R s') (fun e s' => R (.error e) s') s := by
 show wpAny _ A.in1 (do let old <- Builtin.List.listItems (.ref S); Builtin.List.listUpdate (.ref S) (fun _ => #[]); letGo old.toList.reverse; Builtin.List.listExtendWith (.ref S) (.ref I) .none) _ _ s
 refine wpAny_bind ?_
 unfold Builtin.List.listItems
 refine wpAny_bind (wpAny_seqItems hS rfl (wpAny_pure ?_))
 show wpAny _ A.in1 (updateSeq S (fun _ => #[]) >>= fun _ => letGo (#[] : Array Value).toList.reverse >>= fun _ => Builtin.List.listExtendWith (.ref S) (.ref I) .none) _ _ s
 refine wpAny_bind (wpAny_updateSeq hS rfl ?_)
 have hS₂ := Heap.get?_update_self (Obj.mapSeq (fun _ => (#[] : Array Value))) hS rfl
 have oth : ∀ b o, b ≠ S -> s.heap.get? b = some o -> (s.heap.update S (Obj.mapSeq (fun _ => (#[] : Array Value)))).get? b = some o :=
  fun b o hb e => (Heap.get?_update_other _ _ (Ne.symm hb)).trans e
 refine wpAny_bind (wpAny_letGo ?_)
 refine ext_walk (hn := hn) hTm W hT hint S .none _ (W.frame 0 s _ s.toks hst (Nat.le_refl _) fun b hb o e => oth b o (fun h => hSf (h ▸ hb)) e) hSf hI hS₂ fun s' acc' c' hm hS' hacc => ?_
 exact hR s' acc' c' (Moved.trans W.gtrans ((Moved.refl W.grefl).then_heap (Nat.le_refl _) fun b o hb e => oth b o (fun h => hb (h ▸ List.mem_cons_self)) e) hm) hS' hacc
end
section
variable {prog : Program} {w : World} {A : Around} {E : Value -> Shared -> Prop} {s : Shared}
variable {I : Addr} {fp wr : List Addr} {G : Array GenState -> Array GenState -> Prop} {n : Nat} {P : Nat -> Value -> Prop} {St : Nat -> Shared -> Prop}
theorem call_list_walk {T : String} {Q : Value -> Shared -> Prop} (hTm : T = "list_reverseiterator" ∨ T = "reversed") (W : WalksS prog w A.in1.in1 I fp wr G n P St) (hT : ∀ i s, St i s -> s.TypeIs (.ref I) T)
  (hint : ∀ (s₁ : Shared) (Q' : Bool -> Shared -> Prop) (E' : Value -> Shared -> Prop), St 0 s₁ -> (∀ b tk, s₁.toks <= tk -> Q' b { s₁ with toks := tk }) -> wpAny (model prog w) A.in1.in1 (Builtin.List.listLengthHint (.ref I)) Q' E' s₁)
  (hst : St 0 s) (hfp : ∀ b ∈ fp, b < s.heap.objs.size) (hI : I ∈ fp)
  (hQ : ∀ s' acc' c', Moved (s.heap.objs.size :: wr) G { s with heap := s.heap.push { cls := .type "list", data := .seq #[] } } s' ->
   s'.heap.get? s.heap.objs.size = some { cls := .type "list", dict := none, data := .seq acc' c', slots := #[] } -> ItemsOf P acc' n -> Q (.ref s.heap.objs.size) s') (hn : n <= sizeLine) :
  wpAny (model prog w) A (call (.type "list") [.ref I]) Q E s := by
 have hSf : s.heap.objs.size ∉ fp := fun hm => Nat.lt_irrefl _ (hfp _ hm)
 refine callType_codes (Q₁ := fun obj s₁ => obj = .ref s.heap.objs.size /\ s₁ = { s with heap := s.heap.push { cls := .type "list", data := .seq #[] } }) F.called_list (F.typeCall_list_1 _) F.entry_list_init
  (code_list_new _ ⟨rfl, rfl⟩) fun obj s₁ h₁ => ?_
 obtain ⟨rfl, rfl⟩ := h₁
 have hS : (s.heap.push { cls := .type "list", data := .seq #[] }).get? s.heap.objs.size = some { cls := .type "list", data := .seq #[] } := Heap.get?_push_size _ rfl
 refine ⟨⟨_, hS, rfl⟩, F.args_list_init_2 _ _, init_walk (hn := hn) hTm W hT hint _ (W.frame 0 s _ s.toks hst (Nat.le_refl _) fun b _ o e => Heap.get?_push_of_some _ e) hSf hI hS fun s' acc' c' hm hS' hacc => ?_⟩
 exact ⟨rfl, hQ s' acc' c' hm hS' hacc⟩
theorem nolen_lri : typeLookup (.type "list_reverseiterator") "__len__" = pure none := by rw [typeLookup_type, builtinLookup_eq_fast]; kernel_rfl
theorem hint_lri : typeLookup (.type "list_reverseiterator") "__length_hint__" = pure (some (.builtin "list_reverseiterator.__length_hint__")) := by rw [typeLookup_type, builtinLookup_eq_fast]; kernel_rfl
theorem lri_hint {Q : Bool -> Shared -> Prop} (hT : s.TypeIs (.ref I) "list_reverseiterator") (q : Q false s) : wpAny (model prog w) A (Builtin.List.listLengthHint (.ref I)) Q E s := by
 unfold Builtin.List.listLengthHint
 refine wpAny_bind (wpAny_specialOf hT nolen_lri ?_)
 show wpAny _ A (specialOf (Value.ref I) (Str.ofString "__length_hint__") >>= _) _ _ _
 refine wpAny_bind (wpAny_specialOf hT hint_lri ?_)
 (generalize hid : ("list_reverseiterator.__length_hint__" : String) = id0; (fail_if_success (clear hid id0)); wp_delta; rw [show splitId id0 = some ("list_reverseiterator", "__length_hint__") from by subst hid; decide +kernel]; subst hid)
 refine wpAny_bind (wpAny_isInstance (b := true) hT (by rw [isSubtype_type]; kernel_rfl) ?_)
 exact wpAny_pure q
end
end L2
set_option Elab.async false
set_option linter.all false
set_option maxRecDepth 100000
set_option maxHeartbeats 1000000
namespace L2
open PySem PySem.Spec PyProof.Rows
theorem items_rev {its : List Value} {acc : Array Value} (h : ItemsOf (fun i v => its.toArray[its.toArray.size - 1 - i]? = some v) acc its.toArray.size) : acc = its.reverse.toArray := by
 obtain ⟨h1, h2⟩ := h
 apply Array.ext'
 apply List.ext_getElem?
 intro i
 by_cases hi : i < acc.size
 ·have e : acc[i]? = some acc[i] := Array.getElem?_eq_getElem hi
  have q := h2 i _ e
  rw [Array.getElem?_toList, e]
  rw [<- q]
  simp only [List.size_toArray] at h1 ⊢
  rw [List.getElem?_reverse (by omega)]
  simp
 ·rw [Array.getElem?_toList, Array.getElem?_eq_none (by omega), List.getElem?_eq_none]
  simp only [List.size_toArray] at h1
  simp
  omega
section
variable {X : Cx} {e : Expr} {te : TE} {p p2 pos pos2 : Pos}
theorem boot_list7 : bootBuiltins "list" = some (.type "list") := by decide +kernel
theorem boot_reversed7 : bootBuiltins "reversed" = some (.type "reversed") := by decide +kernel
theorem laid_moved {pins : List (Addr × Obj)} {σ : St} {H : Hp} {s s' : Shared} {Q : VK} {ys : List V} {its : List Value} {c : Nat} {S : Addr} {wr : List Addr} {s2 : Shared} (I : Inv X pins σ H s) (r : Vals ys its) (hz : ys.length <= sizeLine)
  (q : ∀ l, H l = none -> Q (.ref l) (upd H l (.lst ys)))
  (m : Moved (S :: wr) (fun a b => b = a) s2 s') (hS : s.heap.objs.size <= S) (e2 : ∀ b o, s.heap.get? b = some o -> s2.heap.get? b = some o) (hw : ∀ b ∈ wr, s.heap.objs.size <= b) (g2 : s2.gens = s.gens) (d2 : s2.drawn = s.drawn) (o2 : s2.os = s.os)
  (hs : s'.heap.get? S = some { cls := .type "list", dict := none, data := .seq its.toArray c, slots := #[] }) : EP X pins σ Q (.ref S) s' := by
 have e : s' = { s with heap := s'.heap, toks := s'.toks } := by
  have h1 : s'.gens = s.gens := m.gens.trans g2
  have h2 : s'.drawn = s.drawn := m.drawn.trans d2
  have h3 : s'.os = s.os := m.os.trans o2
  obtain ⟨h, g, d, t, os⟩ := s'
  simp only at h1 h2 h3
  subst h1 h2 h3
  rfl
 have kp : ∀ b o, s.heap.get? b = some o -> s'.heap.get? b = some o := fun b o q => by
  have lt := Heap.lt_size q
  refine m.heap b o (fun z => ?_) (e2 b o q)
  rcases List.mem_cons.mp z with z | z
  ·rw [z] at lt; exact absurd hS (Nat.not_le.mpr lt)
  ·exact absurd (hw b z) (Nat.not_le.mpr lt)
 rw [e]
 exact ⟨.ref S, _, I.laid (t' := s'.toks) kp hS (show ObjOk X.prog X.w _ s'.heap _ (.lst ys) from ⟨hz, its, c, r, hs⟩), rfl, q _ (I.hok.fresh hS)⟩
def tListRev (K : W.Frag) (te : TE) : TE := fun σ H Q => te σ H fun x H1 => ∃ a ys, x = .ref a /\ SqL K H1 a ys /\ ∀ l, H1 l = none -> Q (.ref l) (upd H1 l (.lst ys.reverse))
theorem pe_list_rev (hc : X.calm = true) (gl : Gl X "list") (ml : X.mg "list" = none) (gr : Gl X "reversed") (mr : X.mg "reversed" = none) (he : PE X e te)
  (h1 : starEach [(.Call (.Name "reversed" p2) [e] [] pos2)] X.env = [(false, eval (.Call (.Name "reversed" p2) [e] [] pos2) X.env)] := by rfl) (h2 : starEach [e] X.env = [(false, eval e X.env)] := by rfl) :
  PE X (.Call (.Name "list" p) [.Call (.Name "reversed" p2) [e] [] pos2] [] pos) (tListRev X.K te) := by
 intro pins s σ H Q I h
 refine wpAny_Call_Name_kw (ld_blt I gl ml boot_list7 (PyProof.Rows.callWith_type1 ?_ h1 rfl))
 rw [h1]
 show wpAny _ _ (spliced [(false, eval (.Call (.Name "reversed" p2) [e] [] pos2) X.env)]) _ _ s
 refine Calls.spliced_cons (wpAny_Call_Name_kw (ld_blt I gr mr boot_reversed7 (PyProof.Rows.callWith_type1 ?_ h2 rfl)))
 rw [h2]
 show wpAny _ _ (spliced [(false, eval e X.env)]) _ _ s
 refine Calls.spliced_cons (thn (he pins s σ H _ I h) fun u s1 ⟨x, H1, I1, r1, a, ys, ex, hq, q⟩ => Calls.spliced_nil ?_)
 subst ex
 cases r1
 obtain ⟨its, rv, pl, hz⟩ := I1.list hq
 refine call_reversed_list pl.isList (Calls.spliced_nil ?_)
 have hi : (s1.heap.push (revObj a ((its.toArray.size : Int) - 1))).IsRevIter s1.heap.objs.size a ((its.toArray.size : Int) - 1) := ⟨_, Heap.get?_push_size _ rfl, rfl, rfl⟩
 obtain ⟨o, ho, hcl, n, hd⟩ := id pl.isList
 have hla : a < s1.heap.objs.size := Heap.lt_size ho
 have hsz : its.toArray.size <= sizeLine := by rw [List.size_toArray, <- rv.length]; exact hz
 have W := (Walks.listRev (prog := X.prog) (w := X.w) (A := X.A.in1.in1) (show X.A.in1.in1.handled = none from I.ok.hd hc) s1.heap.objs.size a (Nat.ne_of_lt hla) its.toArray).toS
 refine call_list_walk (T := "list_reverseiterator") (.inl rfl) W (fun i s st => st.2.1.typeIs) (fun s₁ Q' E' st q' => lri_hint st.2.1.typeIs (q' false s₁.toks (Nat.le_refl _)))
  ⟨Nat.zero_le _, by simpa using hi, ⟨o, Heap.get?_push_of_some _ ho, hcl, n, hd⟩⟩ (fun b hb => ?_) (by simp) (fun s' acc' c' m hs' hacc => ?_) hsz
 ·show b < (s1.heap.push _).objs.size
  simp only [List.mem_cons, List.not_mem_nil, or_false] at hb
  have : (s1.heap.push (revObj a ((its.toArray.size : Int) - 1))).objs.size = s1.heap.objs.size + 1 := by simp [Heap.push]
  rw [this]
  rcases hb with rfl | rfl
  ·exact Nat.lt_succ_self _
  ·exact Nat.lt_succ_of_lt hla
 ·rw [items_rev hacc] at hs'
  have sz : (s1.heap.push (revObj a ((its.toArray.size : Int) - 1))).objs.size = s1.heap.objs.size + 1 := by simp [Heap.push]
  refine laid_moved (s := s1) (ys := ys.reverse) (its := its.reverse) I1 rv.reverse (by rw [List.length_reverse]; exact hz) q m ?_ (fun b o e => Heap.get?_push_of_some _ (Heap.get?_push_of_some _ e)) ?_ rfl rfl rfl hs'
  ·show s1.heap.objs.size <= (s1.heap.push _).objs.size
   omega
  ·intro b hb
   simp only [List.mem_cons, List.not_mem_nil, or_false] at hb
   rw [hb]
   exact Nat.le_refl _
end
end L2
set_option Elab.async false
set_option linter.all false
set_option maxRecDepth 100000
set_option maxHeartbeats 1000000
namespace L2
open PySem PySem.Spec PyProof.Rows
theorem owner_rvt : Manifest.owners.lookup (String.ofList ['d', 'e', 's', 'r', 'e', 'v', 'e', 'r'].reverse) = some Manifest.sig_reversed := by kernel_rfl
theorem slot_rvt_next : Slot "reversed" "__next__" "reversed.__next__" :=
 .of (owner := "reversed") (n := "__next__") (by rw [typeLookup_type, builtinLookup_eq_fast]; kernel_rfl) (by decide +kernel) (by decide +kernel) (by decide +kernel)
  (by first | exact .inl (by decide +kernel) | exact .inr (by decide +kernel)) (by rw [isSubtype_type]; kernel_rfl)
theorem entry_rvt_next : entryFor table "reversed.__next__" = some Builtin.«reversed.__next__» := entryFor_of_tree (by kernel_rfl)
theorem args_rvt_next_1 (a : Value) : argsOk "reversed.__next__" ⟨[a], []⟩ := by
 unfold argsOk; rw [signature?_of (id := "reversed.__next__") (n := ['_', '_', 't', 'x', 'e', 'n', '_', '_']) (o := ['d', 'e', 's', 'r', 'e', 'v', 'e', 'r']) (by kernel_rfl) owner_rvt]; kernel_rfl
theorem slot_rvt_iter : Slot "reversed" "__iter__" "reversed.__iter__" :=
 .of (owner := "reversed") (n := "__iter__") (by rw [typeLookup_type, builtinLookup_eq_fast]; kernel_rfl) (by decide +kernel) (by decide +kernel) (by decide +kernel)
  (by first | exact .inl (by decide +kernel) | exact .inr (by decide +kernel)) (by rw [isSubtype_type]; kernel_rfl)
theorem args_rvt_iter_1 (a : Value) : argsOk "reversed.__iter__" ⟨[a], []⟩ := by
 unfold argsOk; rw [signature?_of (id := "reversed.__iter__") (n := ['_', '_', 'r', 'e', 't', 'i', '_', '_']) (o := ['d', 'e', 's', 'r', 'e', 'v', 'e', 'r']) (by kernel_rfl) owner_rvt]; kernel_rfl
theorem entry_rvt_iter : entryFor table "reversed.__iter__" = some Builtin.«dict_keyiterator.__iter__» :=
 entryFor_alias (id' := "dict_keyiterator.__iter__") (by kernel_rfl) (by first | rfl | decide +kernel | (unfold String.splitOn; simp +decide [String.splitOnAux])) (by decide +kernel) (by kernel_rfl)
theorem slot_rvt_init : Slot "reversed" "__init__" "object.__init__" :=
 .of (owner := "object") (n := "__init__") (by rw [typeLookup_type, builtinLookup_eq_fast]; kernel_rfl) (by decide +kernel) (by decide +kernel) (by decide +kernel)
  (by first | exact .inl (by decide +kernel) | exact .inr (by decide +kernel)) (by rw [isSubtype_type]; kernel_rfl)
theorem called_reversed : TypeCalled "reversed" "reversed.__new__" "object.__init__" :=
 ⟨by decide +kernel, by decide +kernel, ⟨_, _, F.mro_reversed⟩, F.made_reversed, by decide +kernel, by rw [isSubtype_type]; kernel_rfl, slot_rvt_init⟩
theorem no_rev_tuple : typeLookup (.type "tuple") "__reversed__" = pure none := by rw [typeLookup_type, builtinLookup_eq_fast]; kernel_rfl
theorem tuple_no_dict : isSubtype (.type "tuple") (.type "dict") = pure false := by rw [isSubtype_type]; kernel_rfl
def rvtObj (l : Addr) (i : Int) : Obj := { cls := .type "reversed", data := .fields #[.ref l, rawInt i] }
def IsRvt (h : Heap) (a l : Addr) (i : Int) : Prop := ∃ o, h.get? a = some o /\ o.cls = .type "reversed" /\ o.data = .fields #[.ref l, rawInt i]
theorem IsRvt.typeIs {s : Shared} {a l : Addr} {i : Int} (x : IsRvt s.heap a l i) : s.TypeIs (.ref a) "reversed" := let ⟨o, ho, hc, _⟩ := x; ⟨o, ho, hc⟩
theorem IsRvt.at {h h' : Heap} {a l : Addr} {i : Int} (x : IsRvt h a l i) (e : ∀ o, h.get? a = some o -> h'.get? a = some o) : IsRvt h' a l i := let ⟨o, ho, r⟩ := x; ⟨o, e _ ho, r⟩
section
variable {prog : Program} {w : World} {A : Around} {E : Value -> Shared -> Prop} {s : Shared}
theorem meets_rvt_new (l : Addr) (items : Array Value) (n : Nat) (dd : Option Addr) (sl : Array (Option Value)) (hz : items.size <= sizeLine) :
  Meets (Builtin.«reversed.__new__» ⟨[.type "reversed", .ref l], []⟩) (fun _ R s => s.heap.get? l = some { cls := .type "tuple", dict := dd, data := .seq items n, slots := sl } /\
   R (.ok (.ret (.ref s.heap.objs.size))) { s with heap := s.heap.push (rvtObj l ((items.size : Int) - 1)), toks := s.toks + 1 + 1 }) :=
 .of_wp fun prog w A R s h => by
  obtain ⟨hl, h⟩ := h
  have hT : s.TypeIs (.ref l) "tuple" := ⟨_, hl, rfl⟩
  unfold Builtin.«reversed.__new__»
  refine wpAny_bind (wpAny_of_eq (newClass_reversed _) ?_)
  try dsimp only
  refine wpAny_bind (wpAny_of_eq (a := ()) (by first | rfl | kernel_rfl) ?_)
  refine wpAny_bind (wpAny_of_eq (a := ()) (by first | rfl | kernel_rfl) ?_)
  try dsimp only
  refine wpAny_bind (wpAny_specialOf hT no_rev_tuple ?_)
  have f1 := tuple_no_dict
  have f2 := PyProof.Rows.slot_tuple_getitem.lookup
  have hN : (items.size : Int) < 2 ^ 63 := by
   have := line63
   omega
  have hL : IsTup s.heap l items := ⟨_, hl, rfl, n, rfl⟩
  refine wpAny_bind (wpAny_mono (Q := fun b s' => b = true /\ s' = s) ?_ (fun b s' ⟨hb, hs⟩ => ?_) (fun _ _ e => e))
  ·obtain ⟨hp, g, d, tk, os⟩ := s
   wp_walk using wpAny_loadPart' hl
   exact ⟨rfl, rfl⟩
  ·subst hb hs
   rw [if_neg (by decide)]
   refine wpAny_bind (len_tuple hL hN ?_)
   refine wpAny_bind (wpAny_of_eq (a := some (items.size : Int)) rfl ?_)
   refine wpAny_bind ?_
   show wpAny _ _ (newObj (Value.type "reversed") (Data.fields #[Value.ref l, rawInt ((items.size : Int) - 1)])) _ _ _
   exact wpAny_newObj_type (wpAny_pure ⟨_, rfl, h⟩) (by size_fits)
theorem call_rvt {l : Addr} {items : Array Value} {Q : Value -> Shared -> Prop} (hl : IsTup s.heap l items) (hz : items.size <= sizeLine)
  (h : Q (.ref s.heap.objs.size) { s with heap := s.heap.push (rvtObj l ((items.size : Int) - 1)), toks := s.toks + 1 + 1 }) : wpAny (model prog w) A (call (.type "reversed") [.ref l]) Q E s := by
 obtain ⟨⟨c, dct, dt, sl⟩, ho, hc, n, hd⟩ := hl
 replace hc : c = .type "tuple" := hc
 replace hd : dt = .seq items n := hd
 subst hc hd
 refine callType_new called_reversed (by decide) (F.typeCall_reversed_1 _) (F.newCall_reversed_1 _) (fun obj => F.args_object_init_2 obj _) F.entry_reversed_new
  (meets_rvt_new l items n dct sl hz) ⟨ho, ⟨_, Heap.get?_push_size _ rfl, rfl⟩, h⟩
theorem rvt_next {it l : Addr} {i : Nat} {items : Array Value} {x : Value} {Q : Option Value -> Shared -> Prop} (hit : IsRvt s.heap it l (i : Int)) (hne : l ≠ it) (hl : IsTup s.heap l items) (hx : items[i]? = some x) (hz : items.size <= sizeLine)
  (hQ : ∀ h', IsRvt h' it l ((i : Int) - 1) -> Heap.SameBut it s.heap h' -> Q (some x) { s with heap := h', toks := s.toks + 1 }) : wpAny (model prog w) A (pyNext (.ref it)) Q E s := by
 obtain ⟨o, ho, hc, hd⟩ := id hit
 unfold pyNext
 refine wpAny_bind (wpAny_attempt (wpAny_callSpecial?_slot (name := Str.ofString "__next__") hit.typeIs slot_rvt_next
  (wpAny_call_entry slot_rvt_next hit.typeIs entry_rvt_next ?_ (args_rvt_next_1 _))))
 unfold Builtin.«reversed.__next__»
 refine wpAny_bind (wpAny_of_eq (a := (Value.ref it, [])) rfl ?_)
 try dsimp only
 refine wpAny_bind (wpAny_field ho hd (x := .ref l) rfl ?_)
 refine wpAny_bind (wpAny_field ho hd (x := rawInt (i : Int)) rfl ?_)
 show wpAny _ _ (if (i : Int) < 0 then _ else _) _ _ s
 rw [if_neg (by omega)]
 refine wpAny_bind (wpAny_specialOf hl.typeIs PyProof.Rows.slot_tuple_getitem.lookup ?_)
 rw [if_neg (by decide)]
 refine wpAny_bind (wpAny_mkInt ?_)
 have hlt : i < items.size := by
  rw [Array.getElem?_eq_some_iff] at hx
  exact hx.1
 have hn := line63
 have ht2 : IsTup ({ s with toks := s.toks + 1 } : Shared).heap l items := hl
 refine wpAny_bind (wpAny_attempt (getItem_tuple (j := i) ht2 (by omega) (by omega) (seqIndex_of (by omega) (by omega)) hx ?_))
 refine wpAny_bind (wpAny_field (s := { s with toks := s.toks + 1 }) ho hd (x := rawInt (i : Int)) rfl ?_)
 refine wpAny_bind (wpAny_setField (s := { s with toks := s.toks + 1 }) ho hd (by simp) ?_)
 refine wpAny_pure ⟨x, rfl, wpAny_pure (hQ _ ?_ (Heap.SameBut.update ..))⟩
 exact ⟨_, Heap.get?_update_self _ ho (Obj.isFreed_of_fields (Obj.data_mapFields hd _)), (Obj.cls_mapFields ..).trans hc, by
  rw [Obj.data_mapFields hd]; simp⟩
theorem rvt_end {it l : Addr} {Q : Option Value -> Shared -> Prop} (hh : A.handled = none) (hit : IsRvt s.heap it l (-1))
  (hQ : ∀ h', Heap.ExtBut it s.heap h' -> Q none { s with heap := h' }) : wpAny (model prog w) A (pyNext (.ref it)) Q E s := by
 obtain ⟨o, ho, hc, hd⟩ := id hit
 unfold pyNext
 refine wpAny_bind (wpAny_attempt (wpAny_callSpecial?_slot (name := Str.ofString "__next__") hit.typeIs slot_rvt_next
  (wpAny_call_entry slot_rvt_next hit.typeIs entry_rvt_next ?_ (args_rvt_next_1 _))))
 unfold Builtin.«reversed.__next__»
 refine wpAny_bind (wpAny_of_eq (a := (Value.ref it, [])) rfl ?_)
 try dsimp only
 refine wpAny_bind (wpAny_field ho hd (x := .ref l) rfl ?_)
 refine wpAny_bind (wpAny_field ho hd (x := rawInt (-1)) rfl ?_)
 show wpAny _ _ (if (-1 : Int) < 0 then _ else _) _ _ s
 rw [if_pos (by decide)]
 refine wpAny_bind (wpAny_rule ?_)
 refine wpAny_bind ?_
 show wpAny _ _ (do setField (.ref it) 1 (rawInt (-1)); setField (.ref it) 0 .none) _ _ _
 refine wpAny_bind (wpAny_setField ho hd (by simp) ?_)
 have ho2 := Heap.get?_update_self (Obj.mapFields (·.setIfInBounds 1 (rawInt (-1)))) ho (Obj.isFreed_of_fields (Obj.data_mapFields hd _))
 have hd2 := Obj.data_mapFields hd (·.setIfInBounds 1 (rawInt (-1)))
 refine wpAny_setField ho2 hd2 (by simp) ?_
 refine wpAny_bind ?_
 show wpAny _ _ (newExc (.type "StopIteration") [] >>= _) _ _ _
 refine wpAny_bind ?_
 simp only [newExc, newTuple]
 refine wpAny_bind (wpAny_newObj_type ?_ (by size_fits))
 refine wpAny_bind (m := firstArgMember _ _) (wpAny_of_eq (a := Value.none) (by first | rfl | (simp only [firstArgMember]; rfl)) ?_)
 refine wpAny_newObj_type ?_ (by size_fits)
 simp only [raiseNew]
 refine wpAny_bind (wpAny_handled ?_)
 first | rw [show A.in1.handled = none from hh] | rw [hh]
 refine wpAny_bind (wpAny_pure (wpAny_throw ?_))
 refine wpAny_bind (wpAny_isInstance (T := "StopIteration") (b := true) ⟨_, Heap.get?_push_size _ rfl, rfl⟩ isSubtype_stop ?_)
 have e1 : Heap.ExtBut it s.heap ((s.heap.update it (Obj.mapFields (·.setIfInBounds 1 (rawInt (-1))))).update it (Obj.mapFields (·.setIfInBounds 0 Value.none))) := fun b ob hb e =>
  (Heap.get?_update_other _ _ (Ne.symm hb)).trans ((Heap.get?_update_other _ _ (Ne.symm hb)).trans e)
 exact wpAny_pure (hQ _ ((e1.push _).push _))
theorem rvt_iter {it l : Addr} {i : Int} {Q : Value -> Shared -> Prop} (hit : IsRvt s.heap it l i) (h : Q (.ref it) s) : wpAny (model prog w) A (pyIter (.ref it)) Q E s := by
 refine wpAny_pyIter_slot hit.typeIs slot_rvt_iter (wpAny_call_entry slot_rvt_iter hit.typeIs entry_rvt_iter ?_ (args_rvt_iter_1 _))
 show wpAny _ _ (ret (.ref it)) _ _ s
 exact wpAny_pure ⟨_, rfl, "reversed", _, hit.typeIs, slot_rvt_next.lookup, h⟩
theorem walks_rvt (hh : A.handled = none) (I l : Addr) (hne : l ≠ I) (items : Array Value) (hz : items.size <= sizeLine) :
  Walks prog w A I [I, l] [I] items.size (fun i v => items[items.size - 1 - i]? = some v) (fun i h => i <= items.size /\ IsRvt h I l ((items.size : Int) - 1 - (i : Int)) /\ IsTup h l items) where
 sub := fun b hb => by simp at hb; simp [hb]
 frame := fun _ _ _ x hk => ⟨x.1, x.2.1.at fun o e => hk I (by simp) o e, by
  obtain ⟨o, ho, r⟩ := x.2.2
  exact ⟨o, hk l (by simp) o ho, r⟩⟩
 item := fun i s Q E hi x hQ => by
  have e : (items.size : Int) - 1 - (i : Int) = ((items.size - 1 - i : Nat) : Int) := by omega
  have hit := x.2.1
  rw [e] at hit
  have hx : items[items.size - 1 - i]? = some (items[items.size - 1 - i]'(by omega)) := Array.getElem?_eq_getElem (by omega)
  refine rvt_next hit hne x.2.2 hx hz fun h' hit' hs' => ?_
  have e2 : ((items.size - 1 - i : Nat) : Int) - 1 = (items.size : Int) - 1 - ((i + 1 : Nat) : Int) := by omega
  rw [e2] at hit'
  refine hQ _ h' (s.toks + 1) hx ⟨hi, hit', ?_⟩ fun b o hb eo => hs'.extBut b o (fun h => hb (by simp [h])) eo
  obtain ⟨o, ho, r⟩ := x.2.2
  exact ⟨o, (hs'.2 l hne).trans ho, r⟩
 done := fun s Q E x hQ => by
  have e : (items.size : Int) - 1 - (items.size : Int) = -1 := by omega
  have hit := x.2.1
  rw [e] at hit
  exact rvt_end hh hit fun h' he' => hQ h' s.toks fun b o hb eo => he' b o (fun h => hb (by simp [h])) eo
 self := fun _ _ _ _ x hQ => rvt_iter x.2.1 hQ
theorem nolen_rvt : typeLookup (.type "reversed") "__len__" = pure none := by rw [typeLookup_type, builtinLookup_eq_fast]; kernel_rfl
theorem slot_rvt_hint : Slot "reversed" "__length_hint__" "reversed.__length_hint__" :=
 .of (owner := "reversed") (n := "__length_hint__") (by rw [typeLookup_type, builtinLookup_eq_fast]; kernel_rfl) (by decide +kernel) (by decide +kernel) (by decide +kernel)
  (by first | exact .inl (by decide +kernel) | exact .inr (by decide +kernel)) (by rw [isSubtype_type]; kernel_rfl)
theorem entry_rvt_hint : entryFor table "reversed.__length_hint__" = some Builtin.«reversed.__length_hint__» := entryFor_of_tree (by kernel_rfl)
theorem args_rvt_hint_1 (a : Value) : argsOk "reversed.__length_hint__" ⟨[a], []⟩ := by
 unfold argsOk; rw [signature?_of (id := "reversed.__length_hint__") (n := ['_', '_', 't', 'n', 'i', 'h', '_', 'h', 't', 'g', 'n', 'e', 'l', '_', '_']) (o := ['d', 'e', 's', 'r', 'e', 'v', 'e', 'r']) (by kernel_rfl) owner_rvt]; kernel_rfl
theorem rvt_hint {I l : Addr} {items : Array Value} {Q : Bool -> Shared -> Prop} (hit : IsRvt s.heap I l ((items.size : Int) - 1)) (hl : IsTup s.heap l items) (hz : items.size <= sizeLine) (q : ∀ b tk, s.toks <= tk -> Q b { s with toks := tk }) : wpAny (model prog w) A (Builtin.List.listLengthHint (.ref I)) Q E s := by
 have hT := hit.typeIs
 obtain ⟨o, ho, hc, hd⟩ := id hit
 have hN : (items.size : Int) < 2 ^ 63 := by
  have := line63
  omega
 unfold Builtin.List.listLengthHint
 refine wpAny_bind (wpAny_specialOf hT nolen_rvt ?_)
 show wpAny _ A (specialOf (Value.ref I) (Str.ofString "__length_hint__") >>= _) _ _ _
 refine wpAny_bind (wpAny_specialOf hT slot_rvt_hint.lookup ?_)
 (generalize hid : ("reversed.__length_hint__" : String) = id0; (fail_if_success (clear hid id0)); wp_delta; rw [show splitId id0 = some ("reversed", "__length_hint__") from by subst hid; decide +kernel]; subst hid)
 refine wpAny_bind (wpAny_isInstance (b := true) hT (by rw [isSubtype_type]; kernel_rfl) ?_)
 rw [if_neg (by decide)]
 dsimp only
 rw [if_neg (by decide +kernel)]
 refine wpAny_bind (wpAny_rule ?_)
 refine wpAny_bind (wpAny_of_eq (slot_rvt_hint.bind _) ?_)
 dsimp only
 refine wpAny_bind (wpAny_attempt (wpAny_call_entry slot_rvt_hint hT entry_rvt_hint ?_ (args_rvt_hint_1 _)))
 unfold Builtin.«reversed.__length_hint__»
 refine wpAny_bind (wpAny_of_eq (a := Value.ref I) rfl ?_)
 refine wpAny_bind (wpAny_field ho hd (x := .ref l) rfl ?_)
 rw [if_neg (show ¬ ((Value.ref l == Value.none) = true) from Bool.false_ne_true)]
 refine wpAny_bind (len_tuple hl hN ?_)
 refine wpAny_bind (wpAny_of_eq (a := some (items.size : Int)) rfl ?_)
 dsimp only
 refine wpAny_bind (wpAny_field (s := { s with toks := s.toks + 1 + 1 }) ho hd (x := rawInt ((items.size : Int) - 1)) rfl ?_)
 dsimp only [rawInt]
 rw [if_neg (by omega)]
 refine wpAny_ret_mkInt ?_
 dsimp only
 refine wpAny_bind (wpAny_of_eq (a := some ((items.size : Int) - 1 + 1)) rfl ?_)
 dsimp only
 have hf : ¬ (!Builtin.List.listFitsIndex ((items.size : Int) - 1 + 1)) = true := by
  rw [fitsIndex_both (by omega) (by omega)]
  exact Bool.false_ne_true
 rw [if_neg hf, if_neg (by omega)]
 have hl2 : ¬ Builtin.List.listTooLong ((items.size : Int) - 1 + 1).toNat = true := by
  rw [notLongL (show ((items.size : Int) - 1 + 1).toNat <= sizeLine by omega)]
  exact Bool.false_ne_true
 rw [if_neg hl2]
 exact wpAny_pure (q _ (s.toks + 1 + 1 + 1) (by omega))
end
section
variable {X : Cx} {e : Expr} {te : TE} {p p2 pos pos2 : Pos}
def tListRevT (K : W.Frag) (te : TE) : TE := fun σ H Q => te σ H fun x H1 => ∃ a ys, x = .ref a /\ SqT K H1 a ys /\ ∀ l, H1 l = none -> Q (.ref l) (upd H1 l (.lst ys.reverse))
theorem pe_list_revT (hc : X.calm = true) (gl : Gl X "list") (ml : X.mg "list" = none) (gr : Gl X "reversed") (mr : X.mg "reversed" = none) (he : PE X e te)
  (h1 : starEach [(.Call (.Name "reversed" p2) [e] [] pos2)] X.env = [(false, eval (.Call (.Name "reversed" p2) [e] [] pos2) X.env)] := by rfl) (h2 : starEach [e] X.env = [(false, eval e X.env)] := by rfl) :
  PE X (.Call (.Name "list" p) [.Call (.Name "reversed" p2) [e] [] pos2] [] pos) (tListRevT X.K te) := by
 intro pins s σ H Q I h
 refine wpAny_Call_Name_kw (ld_blt I gl ml boot_list7 (PyProof.Rows.callWith_type1 ?_ h1 rfl))
 rw [h1]
 show wpAny _ _ (spliced [(false, eval (.Call (.Name "reversed" p2) [e] [] pos2) X.env)]) _ _ s
 refine Calls.spliced_cons (wpAny_Call_Name_kw (ld_blt I gr mr boot_reversed7 (PyProof.Rows.callWith_type1 ?_ h2 rfl)))
 rw [h2]
 show wpAny _ _ (spliced [(false, eval e X.env)]) _ _ s
 refine Calls.spliced_cons (thn (he pins s σ H _ I h) fun u s1 ⟨x, H1, I1, r1, a, ys, ex, hq, q⟩ => Calls.spliced_nil ?_)
 subst ex
 cases r1
 obtain ⟨its, rv, pl, hz⟩ := I1.tuple hq
 have hsz : its.toArray.size <= sizeLine := by rw [List.size_toArray, <- rv.length]; exact hz
 refine call_rvt pl hsz (Calls.spliced_nil ?_)
 have hi : IsRvt (s1.heap.push (rvtObj a ((its.toArray.size : Int) - 1))) s1.heap.objs.size a ((its.toArray.size : Int) - 1) := ⟨_, Heap.get?_push_size _ rfl, rfl, rfl⟩
 obtain ⟨o, ho, hcl, n, hd⟩ := id pl
 have hla : a < s1.heap.objs.size := Heap.lt_size ho
 have W := (walks_rvt (prog := X.prog) (w := X.w) (A := X.A.in1.in1) (show X.A.in1.in1.handled = none from I.ok.hd hc) s1.heap.objs.size a (Nat.ne_of_lt hla) its.toArray hsz).toS
 refine call_list_walk (T := "reversed") (.inr rfl) W (fun i s st => st.2.1.typeIs) (fun s₁ Q' E' st q' => rvt_hint (by simpa using st.2.1) st.2.2 hsz q')
  ⟨Nat.zero_le _, by simpa using hi, ⟨o, Heap.get?_push_of_some _ ho, hcl, n, hd⟩⟩ (fun b hb => ?_) (by simp) (fun s' acc' c' m hs' hacc => ?_) hsz
 ·show b < (s1.heap.push _).objs.size
  simp only [List.mem_cons, List.not_mem_nil, or_false] at hb
  have : (s1.heap.push (rvtObj a ((its.toArray.size : Int) - 1))).objs.size = s1.heap.objs.size + 1 := by simp [Heap.push]
  rw [this]
  rcases hb with rfl | rfl
  ·exact Nat.lt_succ_self _
  ·exact Nat.lt_succ_of_lt hla
 ·rw [items_rev hacc] at hs'
  have sz : (s1.heap.push (rvtObj a ((its.toArray.size : Int) - 1))).objs.size = s1.heap.objs.size + 1 := by simp [Heap.push]
  refine laid_moved (s := s1) (ys := ys.reverse) (its := its.reverse) I1 rv.reverse (by rw [List.length_reverse]; exact hz) q m ?_ (fun b o e => Heap.get?_push_of_some _ (Heap.get?_push_of_some _ e)) ?_ rfl rfl rfl hs'
  ·show s1.heap.objs.size <= (s1.heap.push _).objs.size
   omega
  ·intro b hb
   simp only [List.mem_cons, List.not_mem_nil, or_false] at hb
   rw [hb]
   exact Nat.le_refl _
end
end L2
set_option Elab.async false
set_option linter.all false
set_option maxRecDepth 100000
set_option maxHeartbeats 1000000
namespace L2
open PySem PySem.Spec PyProof.Rows
section
variable {X : Cx} {a : Expr} {ta : TE} {pos : Pos}
def tNotT (K : W.Frag) (ta : TE) : TE := fun σ H Q => ta σ H fun x H1 => ∃ k, TruV K x H1 k /\ Q (.bl (!k)) H1
theorem pe_notT (ha : PE X a ta) : PE X (.UnaryOp .Not a pos) (tNotT X.K ta) := by
 intro pins s σ H Q I h
 refine UnaryOp_ (thn (ha pins s σ H _ I h) fun v s1 ⟨x, H1, I1, r1, k, ht, q1⟩ => ?_)
 refine not_of (thn (tru_ok pins s1 σ H1 x v (fun b H2 => Q (.bl (!b)) H2) I1 r1 ⟨k, ht, q1⟩) fun b s2 ⟨H2, I2, q2⟩ => ?_)
 exact ⟨.bl (!b), H2, I2, rfl, q2⟩
end
end L2
set_option Elab.async false
set_option linter.all false
set_option maxRecDepth 100000
set_option maxHeartbeats 1000000
namespace L2
open PySem PySem.Spec PyProof.Rows
open AutoSeq1 (wpAny_loadPart')
section
variable {prog : Program} {w : World} {A : Around} {E : Value -> Shared -> Prop} {s : Shared}
theorem nextT_item {z t : Addr} {i : Nat} {its : Array Value} {y : Value} {Q : Value -> Shared -> Prop} (k1 : s.heap.IsTupleIter z t i) (k2 : s.heap.IsTuple t its) (k3 : its[i]? = some y)
  (k4 : ∀ g, g.IsTupleIter z t (i + 1) -> Heap.SameBut z s.heap g -> Q y { s with heap := g }) : wpAny (model prog w) A (Builtin.SmallTypes.nextOf (.ref z)) Q E s := by
 obtain ⟨q, hq, cq, dq⟩ := id k1
 obtain ⟨r, hr, _, m, dr⟩ := k2
 unfold Builtin.SmallTypes.nextOf
 refine wpAny_bind (wpAny_callSpecial?_slot (name := Str.ofString "__next__") k1.typeIs F.slot_tuple_iterator_next (wpAny_call_entry F.slot_tuple_iterator_next k1.typeIs F.entry_tuple_iterator_next ?_ (F.args_tuple_iterator_next_1 _)))
 refine wpAny_bind (wpAny_of_eq (a := (Value.ref z, [])) rfl ?_)
 try dsimp only
 refine wpAny_bind (wpAny_field hq dq (x := .ref t) rfl ?_)
 show wpAny _ _ (if (Value.ref t == Value.none) = true then _ else _) _ _ _
 rw [if_neg (fun q : (Value.ref t == Value.none) = true => Bool.false_ne_true q)]
 refine wpAny_bind (wpAny_field hq dq (x := .int i 0) rfl (wpAny_bind (wpAny_seqItems hr dr ?_)))
 simp only [Int.toNat_natCast, k3]
 refine wpAny_bind (wpAny_setField hq dq (by simp) (wpAny_pure ⟨y, rfl, wpAny_pure (k4 _ ⟨_, Heap.get?_update_self _ hq (Obj.isFreed_of_fields (Obj.data_mapFields dq _)), (Obj.cls_mapFields ..).trans cq, ?_⟩ (Heap.SameBut.update ..))⟩))
 rw [Obj.data_mapFields dq]; simp [rawInt]
theorem nextT_end {z t : Addr} {i : Nat} {its : Array Value} {Q : Value -> Shared -> Prop} (hh : A.handled = none) (k1 : s.heap.IsTupleIter z t i) (k2 : s.heap.IsTuple t its) (k3 : its[i]? = none)
  (k4 : ∀ g e, Heap.ExtBut z s.heap g -> (∃ o, g.get? e = some o /\ o.cls = .type "StopIteration") -> E (.ref e) { s with heap := g }) : wpAny (model prog w) A (Builtin.SmallTypes.nextOf (.ref z)) Q E s := by
 obtain ⟨q, hq, cq, dq⟩ := id k1
 obtain ⟨r, hr, _, m, dr⟩ := k2
 unfold Builtin.SmallTypes.nextOf
 refine wpAny_bind (wpAny_callSpecial?_slot (name := Str.ofString "__next__") k1.typeIs F.slot_tuple_iterator_next (wpAny_call_entry F.slot_tuple_iterator_next k1.typeIs F.entry_tuple_iterator_next ?_ (F.args_tuple_iterator_next_1 _)))
 refine wpAny_bind (wpAny_of_eq (a := (Value.ref z, [])) rfl ?_)
 try dsimp only
 refine wpAny_bind (wpAny_field hq dq (x := .ref t) rfl ?_)
 show wpAny _ _ (if (Value.ref t == Value.none) = true then _ else _) _ _ _
 rw [if_neg (fun q : (Value.ref t == Value.none) = true => Bool.false_ne_true q)]
 refine wpAny_bind (wpAny_field hq dq (x := .int i 0) rfl (wpAny_bind (wpAny_seqItems hr dr ?_)))
 simp only [Int.toNat_natCast, k3]
 refine wpAny_bind (wpAny_rule (wpAny_bind (wpAny_setField hq dq (by simp) (wpAny_bind ?_))))
 simp only [newExc, newTuple]
 refine wpAny_bind (wpAny_newObj_type (wpAny_bind (m := firstArgMember _ _) (wpAny_of_eq (a := Value.none) (by first | rfl | (simp only [firstArgMember]; rfl)) (wpAny_newObj_type ?_ (by size_fits)))) (by size_fits))
 simp only [raiseNew]
 refine wpAny_bind (wpAny_handled ?_)
 first | rw [show A.in1.handled = none from hh] | rw [hh]
 exact wpAny_bind (wpAny_pure (wpAny_throw (k4 _ _ (((Heap.SameBut.update ..).extBut.push _).push _) ⟨_, Heap.get?_push_size _ rfl, rfl⟩)))
end
theorem tupIter_at {h g : Heap} {a t : Addr} {i : Nat} (x : h.IsTupleIter a t i) (e : ∀ o, h.get? a = some o -> g.get? a = some o) : g.IsTupleIter a t i := let ⟨o, ho, r⟩ := x; ⟨o, e _ ho, r⟩
theorem tuple_at {h g : Heap} {a : Addr} {its : Array Value} (x : h.IsTuple a its) (e : ∀ o, h.get? a = some o -> g.get? a = some o) : g.IsTuple a its := let ⟨o, ho, r⟩ := x; ⟨o, e _ ho, r⟩
theorem drawsT {prog : Program} {w : World} {A : Around} (hh : A.handled = none) (z t : Addr) (ne : t ≠ z) (its : Array Value) :
  Draws prog w A z [z, t] its.size (fun i v => its[i]? = some v) (fun i h => h.IsTupleIter z t i /\ h.IsTuple t its) where
 live := fun _ _ st => let ⟨o, ho, _⟩ := st.1; ⟨o, ho⟩
 frame := fun _ _ _ st k => ⟨tupIter_at st.1 fun o e => k z (by simp) o e, tuple_at st.2 fun o e => k t (by simp) o e⟩
 item := fun i s Q E hi st hQ => nextT_item st.1 st.2 (y := its[i]) (by simp [hi]) fun g a b => hQ _ g s.toks (by simp [hi]) ⟨a, st.2.extBut b.extBut ne⟩ b
 done := fun s Q E st hE => nextT_end hh st.1 st.2 (by simp) hE
theorem new_enumT (l : Addr) (its : Array Value) (n : Nat) (dct : Option Addr) (sl : Array (Option Value)) :
  Meets (Builtin.«enumerate.__new__» ⟨[.type "enumerate", .ref l], []⟩) (fun _ R s => s.heap.get? l = some { cls := .type "tuple", dict := dct, data := .seq its n, slots := sl } /\
   R (.ok (.ret (.ref (s.heap.push { cls := .type "tuple_iterator", data := .fields #[.ref l, .int 0 0] }).objs.size)))
    { s with heap := (s.heap.push { cls := .type "tuple_iterator", data := .fields #[.ref l, .int 0 0] }).push { cls := .type "enumerate", data := .fields #[.none, .bool false, .ref s.heap.objs.size, rawInt 0, .none, .none] } }) :=
 .of_wp fun prog w A R s h => by
  obtain ⟨hp, g, d, tk, os⟩ := s
  obtain ⟨hl, h⟩ := h
  have f := sub_enumerate
  have hT : Heap.IsTuple (Shared.heap ⟨hp, g, d, tk, os⟩) l its := ⟨_, hl, rfl, n, rfl⟩
  wp_walk using wpAny_loadPart' hl
  refine wpAny_stack_any fun st => wpAny_pure ?_
  split
  ·rename_i c _ _ _ _ _
   cases (c == Value.type "enumerate") <;> (wp_walk using wpAny_loadPart' hl, wpAny_pyIter_tuple hT; exact ⟨_, rfl, h⟩)
  ·wp_walk using wpAny_loadPart' hl, wpAny_pyIter_tuple hT
   exact ⟨_, rfl, h⟩
theorem call_enumT {prog : Program} {w : World} {A : Around} {E : Value -> Shared -> Prop} {s : Shared} {l : Addr} {its : Array Value} {Q : Value -> Shared -> Prop} (ht : IsTup s.heap l its)
  (h : ∀ g, IsEnum g (s.heap.objs.size + 1) s.heap.objs.size 0 .none -> g.IsTupleIter s.heap.objs.size l 0 -> (∀ b o, s.heap.get? b = some o -> g.get? b = some o) -> Q (.ref (s.heap.objs.size + 1)) { s with heap := g }) :
  wpAny (model prog w) A (call (.type "enumerate") [.ref l]) Q E s := by
 obtain ⟨⟨c, dct, dt, sl⟩, hl, hc, n, hd⟩ := ht
 replace hc : c = .type "tuple" := hc
 replace hd : dt = .seq its n := hd
 subst hc hd
 refine callType_new F.called_enumerate (by decide) (F.typeCall_enumerate_1 _) (F.newCall_enumerate_1 _) (fun obj => F.args_object_init_2 obj _) F.entry_enumerate_new (new_enumT l its n dct sl) ⟨hl, ?_⟩
 have hz : (s.heap.push { cls := .type "tuple_iterator", data := .fields #[.ref l, .int 0 0] }).objs.size = s.heap.objs.size + 1 := Heap.size_push ..
 rw [hz]
 have he : IsEnum ((s.heap.push { cls := .type "tuple_iterator", data := .fields #[.ref l, .int 0 0] }).push { cls := .type "enumerate", data := .fields #[.none, .bool false, .ref s.heap.objs.size, rawInt 0, .none, .none] }) (s.heap.objs.size + 1) s.heap.objs.size 0 .none := by
  have q := Heap.get?_push_size (s.heap.push { cls := .type "tuple_iterator", data := .fields #[.ref l, .int 0 0] }) (o := { cls := .type "enumerate", data := .fields #[.none, .bool false, .ref s.heap.objs.size, rawInt 0, .none, .none] }) rfl
  rw [hz] at q
  exact q
 exact ⟨⟨_, he, rfl⟩, h _ he ⟨_, Heap.get?_push_of_some _ (Heap.get?_push_size _ rfl), rfl, rfl⟩ fun b o x => Heap.get?_push_of_some _ (Heap.get?_push_of_some _ x)⟩
def ItE (K : W.Frag) (a : Addr) : It :=
 ⟨fun i H => ∃ (xs : List V) (x : V), SqT K H a xs /\ xs[i]? = some x, fun i H v H' => ∃ T x, v = .ref T /\ H T = none /\ H' = upd H T (.tup [.int (i : Nat), x]) /\ ∀ xs, SqT K H a xs -> xs[i]? = some x, fun i H => ∃ xs : List V, SqT K H a xs /\ xs.length <= i⟩
theorem turn_enumT {P : Program} {w : World} {K : W.Frag} {elts : List Expr} {kk : Nat} {tpos : Pos} (a e it : Addr) :
  Turn P w K (.Tuple elts kk tpos) (ItE K a) [e, it] e (fun i h => (∃ old, IsEnum h e it ((i : Nat) : Int) old) /\ h.IsTupleIter it a i /\ e ≠ it) where
 mem := by simp
 obj := fun i h st b hb => by
  obtain ⟨⟨old, he⟩, ⟨o, ho, hc, hd⟩, _⟩ := st
  have e' : b = e ∨ b = it := by simpa using hb
  rcases e' with z | z
  ·rw [z]; exact ⟨_, he, fun v q => nomatch q⟩
  ·rw [z]; exact ⟨o, ho, fun v q => by rw [hd] at q; cases q⟩
 keep := fun i h h' st k => let ⟨⟨old, he⟩, hi, hne⟩ := st; ⟨⟨old, k e (by simp) _ he⟩, tupIter_at hi fun o q => k it (by simp) o q, hne⟩
 item := by
  intro X hP hw hK hc i pins s σ H E I hf st hg
  subst hP hw hK
  obtain ⟨⟨old, he⟩, hit, hne⟩ := st
  obtain ⟨xs, x, hq, hx⟩ := hg
  obtain ⟨its, rv, p, hz⟩ := I.tuple hq
  obtain ⟨u, hu, ru⟩ := rv.get hx
  have ht : s.heap.IsTuple a its.toArray := p
  have hel : e < s.heap.objs.size := Heap.lt_size he
  have hil : it < s.heap.objs.size := by obtain ⟨_, q, _⟩ := hit; exact Heap.lt_size q
  have nai : a ≠ it := by
   rintro rfl
   obtain ⟨o1, h1, c1, _⟩ := ht
   obtain ⟨o2, h2, c2, _⟩ := hit
   rw [h1] at h2
   cases h2
   rw [c1] at c2
   exact absurd c2 (by decide)
  have nae : e ≠ a := by
   rintro rfl
   obtain ⟨o1, h1, c1, _⟩ := ht
   have h2 : s.heap.get? e = some _ := he
   rw [h1] at h2
   cases h2
   exact absurd (show Value.type "enumerate" = Value.type "tuple" from c1) (by decide)
  have hlt : i < its.toArray.size := by
   have := (List.getElem?_eq_some_iff.mp hu).1
   simpa using this
  refine wpAny_pyNext_enum_itemD (drawsT (A := X.A.in1) (show X.A.in1.handled = none from I.ok.hd hc) it a nai its.toArray) he ⟨hit, ht⟩ hlt hne (by simp [hne, nae]) fun y h' tk hy ho st' hT hsz hk => ?_
  have ey : y = u := by
   have : its[i]? = some y := by simpa using hy
   rw [hu] at this
   exact (Option.some.inj this).symm
  subst ey
  refine ⟨_, rfl, wpAny_letOwnedTupleGo_enum (s := { s with heap := h', toks := tk + 1 }) ho fun h'' he' sb => ?_⟩
  have hT2 : h''.get? s.heap.objs.size = some { cls := .type "tuple", data := .seq #[.int i tk, y] } := (sb.2 _ (Nat.ne_of_gt hel)).trans hT
  have new : ObjOk X.prog X.w (upd H s.heap.objs.size (.tup [.int (i : Nat), x])) h'' s.heap.objs.size (.tup [.int (i : Nat), x]) :=
   ⟨by show 2 <= sizeLine; decide, [.int i tk, y], .cons ⟨_, rfl⟩ (.cons ru .nil), ⟨_, hT2, rfl, _, rfl⟩⟩
  have I1 : Inv X pins σ (upd H s.heap.objs.size (.tup [.int (i : Nat), x])) { s with heap := h'', toks := tk + 1 } :=
   I.turnedNew (ch := [e, it]) (fun b ob hb q => (sb.2 b (fun z => hb (by simp [z]))).trans (hk b ob (fun z => hb (by simp [z])) (fun z => hb (by simp [z])) q)) hf (Nat.le_refl _) new
  refine ⟨.ref s.heap.objs.size, _, I1, rfl, ⟨_, x, rfl, I.hok.fresh (Nat.le_refl _), rfl, fun ys hy => by rw [I.tuple_inj hy hq]; exact hx⟩, ⟨⟨y, ?_⟩, tupIter_at st'.1 fun o q => (sb.2 it (Ne.symm hne)).trans q, hne⟩, fun b hb => ?_⟩
  ·have e1 : ((i + 1 : Nat) : Int) = (i : Int) + 1 := by omega
   rw [e1]; exact he'
  ·have hb' : b < s.heap.objs.size := by
    have e' : b = e ∨ b = it := by simpa using hb
    rcases e' with z | z
    ·rw [z]; exact hel
    ·rw [z]; exact hil
   rw [upd_ne (Nat.ne_of_lt hb')]
   exact (hf b hb).1
 done := by
  intro X hP hw hK hc i pins s σ H E I hf st hg
  subst hP hw hK
  obtain ⟨⟨old, he⟩, hit, hne⟩ := st
  obtain ⟨xs, hq, hx⟩ := hg
  obtain ⟨its, rv, p, hz⟩ := I.tuple hq
  obtain ⟨f0, f1, f2, f3, f4, f5⟩ := hf it (by simp)
  have ht : s.heap.IsTuple a its.toArray := p
  have hT : s.TypeIs (.ref e) "enumerate" := ⟨_, he, rfl⟩
  unfold pyNext
  refine wpAny_bind (wpAny_attempt (wpAny_callSpecial?_slot (name := Str.ofString "__next__") hT F.slot_enumerate_next (wpAny_call_entry F.slot_enumerate_next hT F.entry_enumerate_next ?_ (F.args_enumerate_next_1 _))))
  refine wpAny_bind (wpAny_of_eq (a := (Value.ref e, [])) rfl ?_)
  try dsimp only
  refine wpAny_bind (wpAny_field he rfl (x := .ref it) rfl (wpAny_bind (nextT_end (A := X.A.in1) (show X.A.in1.handled = none from I.ok.hd hc) hit ht (by have := rv.length; simp; omega) fun g x eb hx' => ?_)))
  obtain ⟨o, ho, hc'⟩ := hx'
  exact wpAny_bind (wpAny_isInstance (T := "StopIteration") (b := true) ⟨o, ho, hc'⟩ isSubtype_stop (wpAny_pure ⟨rfl, I.turned (t' := s.toks) (fun b o hb q => eb b o hb q) f0 f1 f3 f4 f5⟩))
 self := fun A i s Q E st h => let ⟨⟨_, he⟩, _⟩ := st; wpAny_pyIter_enum he h
def iEnumT (K : W.Frag) (ta : TA) : TI := fun σ H R => ta σ H fun vs H1 => ∃ a xs, vs = [.ref a] /\ SqT K H1 a xs /\ R (ItE K a) H1
theorem pi_enumT {X : Cx} {e : Expr} {ta : TA} {p pos tpos : Pos} {elts : List Expr} {kk : Nat} (hg : Gl X "enumerate") (hm : X.mg "enumerate" = none) (ha : PA X [e] ta) (hs : starEach [e] X.env = [(false, eval e X.env)] := by rfl) :
  PI X (.Tuple elts kk tpos) (.Call (.Name "enumerate" p) [e] [] pos) (iEnumT X.K ta) := by
 intro pins s σ H R I h
 refine Call_ (ld_blt I hg hm boot_enumerate (PyProof.Rows.callWith_type1 (thn (ha pos pins s σ H _ I h) fun us s1 ⟨vs, H1, I1, r1, q1⟩ => ?_) hs rfl))
 obtain ⟨a, xs, ex, hq, q⟩ := q1
 subst ex
 cases r1 with
 | cons r rr =>
  cases rr
  cases r
  obtain ⟨its, rv, p', hz⟩ := I1.tuple hq
  refine call_enumT p' fun h' he hit hk => wpAny_pyIter_enum he ?_
  have I2 : Inv X pins σ H1 { s1 with heap := h' } := I1.kept (t' := s1.toks) hk
  refine ⟨s1.heap.objs.size + 1, [s1.heap.objs.size + 1, s1.heap.objs.size], _, _, H1, rfl, I2, turn_enumT a (s1.heap.objs.size + 1) s1.heap.objs.size, ⟨⟨.none, he⟩, hit, Nat.succ_ne_self _⟩, fun b hb => ?_, q⟩
  have e' : b = s1.heap.objs.size + 1 ∨ b = s1.heap.objs.size := by simpa using hb
  have hle : s1.heap.objs.size <= b := by
   rcases e' with z | z
   ·rw [z]; exact Nat.le_add_right _ _
   ·rw [z]; exact Nat.le_refl _
  exact I1.fpOk hle (I1.hok.fresh hle)
end L2
namespace L2
open PySem PySem.Spec PyProof.Rows
theorem lc_enumT {K : W.Frag} {a : Addr} {xs : List V} {g : TG} {tt : TT} {te : TE} {vs : List Nat} {σ : St} {H1 : Hp} {D : Addr} {Qd : Hp -> Prop} (Pv : Nat -> Hp -> Prop) (h0 : Pv 0 (upd H1 D (.lst []))) (hl : ∀ i H, i <= xs.length -> Pv i H -> SqT K H a xs)
  (hs : ∀ i x H T, xs[i]? = some x -> Pv i H -> H T = none -> g (.ref T) (wipe σ vs) (upd H T (.tup [.int (i : Nat), x])) fun σ2 H2 => wipe σ2 vs = wipe σ vs /\ tt σ2 H2 fun b H3 =>
   if b = true then te σ2 H3 fun y H4 => ∃ acc, H4 D = some (.lst acc) /\ acc.length < sizeLine /\ Pv (i + 1) (upd H4 D (.lst (acc ++ [y]))) else Pv (i + 1) H3) (hd : ∀ H, Pv xs.length H -> Qd H) :
  ∃ W : Nat -> Nat -> Hp -> Prop, (∃ m, W 0 m (upd H1 D (.lst []))) /\ ∀ i m H, W i m H ->
   ((ItE K a).stop i H /\ Qd H) ∨ ((ItE K a).go i H /\ ∃ Nx : Hp -> Prop, (∀ H', Nx H' -> ∃ m', m' < m /\ W (i + 1) m' H') /\ ∀ x H', (ItE K a).yld i H x H' -> g x (wipe σ vs) H' fun σ2 H2 => wipe σ2 vs = wipe σ vs /\ tt σ2 H2 fun b H3 =>
    if b = true then te σ2 H3 fun y H4 => ∃ acc, H4 D = some (.lst acc) /\ acc.length < sizeLine /\ Nx (upd H4 D (.lst (acc ++ [y]))) else Nx H3) := by
 refine ⟨fun i m H => m = xs.length - i /\ i <= xs.length /\ Pv i H, ⟨xs.length, by simp, Nat.zero_le _, h0⟩, ?_⟩
 rintro i m H ⟨rfl, hi, p⟩
 have q := hl i H hi p
 by_cases hlt : i < xs.length
 ·refine .inr ⟨⟨xs, xs[i], q, by simp [hlt]⟩, Pv (i + 1), fun H' p' => ⟨xs.length - (i + 1), by omega, rfl, hlt, p'⟩, fun x H' y => ?_⟩
  obtain ⟨T, y, rfl, hT, rfl, hy⟩ := y
  exact hs i y H T (hy xs q) p hT
 ·have e : i = xs.length := by omega
  subst e
  exact .inl ⟨⟨xs, q, Nat.le_refl _⟩, hd H p⟩
def rCatP : R2 := fun x y H Q => ∃ a b xs ys, x = .ref a /\ y = .ref b /\ H a = some (.tup xs) /\ H b = some (.tup ys) /\ xs.length + ys.length <= sizeLine /\ ∀ p H', Same H H' -> H' p = some (.tup (xs ++ ys)) -> Q (.ref p) H'
theorem op_catP {X : Cx} : OpR X (binaryOp .Add) rCatP := by
 intro pins s σ H x y v u Q I rx ry h
 obtain ⟨a, b, xs, ys, rfl, rfl, ha, hb, hz, q⟩ := h
 by_cases hx : xs = []
 ·subst hx
  cases rx
  cases ry
  obtain ⟨its, r1, p1, _⟩ := I.tuple (SqT.of (K := X.K) ha)
  obtain ⟨its2, r2, p2, _⟩ := I.tuple (SqT.of (K := X.K) hb)
  cases r1
  obtain ⟨⟨cls, dd, data, sl⟩, ho, hc, n, hd⟩ := id p1
  obtain ⟨⟨cls2, dd2, data2, sl2⟩, ho2, hc2, n2, hd2⟩ := id p2
  simp only at hc hd hc2 hd2
  subst hc hd hc2 hd2
  exact concat_meets ⟨_, ho, rfl⟩ ⟨_, ho2, rfl⟩ noFill_tuple_add seq_tuple_add PySem.F.slot_tuple_add PySem.F.entry_tuple_add (PySem.F.args_tuple_add_2 _ _)
   (tuple_addW0 a b _ _ n n2 dd dd2 sl sl2 rfl) ⟨ho, ho2, ⟨.ref b, H, I, rfl, q b H (Same.refl H) (by rw [List.nil_append]; exact hb)⟩⟩
 ·exact op_catT pins s σ H _ _ v u Q I rx ry ⟨a, b, xs, ys, rfl, rfl, SqT.of ha, SqT.of hb, hx, hz, fun e => q a H (Same.refl H) (by rw [e, List.append_nil]; exact ha),
   fun _ p hp => q p _ (same_new hp) upd_same⟩
end L2
set_option Elab.async false
set_option linter.all false
set_option maxRecDepth 100000
namespace L2
open PySem PySem.Spec PyProof.Rows
theorem pe_fldB {X : Cx} (K : W.Frag) {e : Expr} {f : Str} {pos : Pos} {ta : TE} (hK : X.K = K) (he : PE X e ta) (hb : attributeBase e f X.env (eval e X.env) = eval e X.env) : PE X (.Attribute e f pos) (tFld K ta f) := by
 subst hK
 exact pe_fld he hb
def rLen (K : W.Frag) : List V -> Hp -> VK -> Prop := fun xs H Q => ∃ p ys, xs = [.ref p] /\ (SqL K H p ys ∨ SqT K H p ys) /\ Q (.int ys.length) H
theorem pg_tupB {X : Cx} (K : W.Frag) {es : List Expr} {k : Nat} {t : TGs} {n : Nat} {pos : Pos} (hK : X.K = K) (hc : X.calm = true) (h : PGs X es t) (hn : (assignEach es X.env).length = n := by rfl) (hst : (assignEach es X.env).findIdx? (·.1) = none := by rfl) : PG X (.Tuple es k pos) (gTup K n t) := by
 subst hK
 exact pg_tup hc h hn hst
end L2
namespace MC
open Pc
def WF (T : Types) : Prop := ∀ cs ∈ T, ∀ fs ∈ cs, ∀ f ∈ fs, f < T.length
def mk1 (k : List Bool) (fs : List Nat) : Bool := fs.all fun f => k.getD f false
def roundV (T : Types) (k : List Bool) : List Bool := T.map fun cs => cs.any (mk1 k)
def LeV (k l : List Bool) : Prop := ∀ i, k.getD i false = true -> l.getD i false = true
theorem LeV.trans {a b c : List Bool} (x : LeV a b) (y : LeV b c) : LeV a c := fun i h => y i (x i h)
theorem having_succ (T : Types) (n : Nat) : having T (n + 1) = roundV T (having T n) := rfl
theorem having_len (T : Types) (n : Nat) : (having T n).length = T.length := by
 cases n with
 | zero => simp [having]
 | succ n => simp [having]
theorem mk1_mono {k l : List Bool} (h : LeV k l) {fs : List Nat} (a : mk1 k fs = true) : mk1 l fs = true := by
 unfold mk1 at *
 rw [List.all_eq_true] at *
 exact fun f hf => h f (a f hf)
theorem round_get {T : Types} {k : List Bool} {t : Nat} : (roundV T k).getD t false = true ↔ ∃ cs, T[t]? = some cs /\ cs.any (mk1 k) = true := by
 unfold roundV
 rw [List.getD_eq_getElem?_getD, List.getElem?_map]
 cases h : T[t]? with
 | none => simp
 | some cs => simp
theorem round_mono {T : Types} {k l : List Bool} (h : LeV k l) : LeV (roundV T k) (roundV T l) := by
 intro t a
 rw [round_get] at *
 obtain ⟨cs, e, b⟩ := a
 refine ⟨cs, e, ?_⟩
 rw [List.any_eq_true] at *
 obtain ⟨fs, m, q⟩ := b
 exact ⟨fs, m, mk1_mono h q⟩
theorem having_mono1 (T : Types) : ∀ n, LeV (having T n) (having T (n + 1))
 | 0 => by
  intro i h
  simp [having, List.getD_eq_getElem?_getD] at h
  cases e : T[i]? with
  | none => rw [e] at h; simp at h
  | some cs => rw [e] at h; simp at h
 | n + 1 => by
  rw [having_succ T n, having_succ T (n + 1)]
  exact round_mono (having_mono1 T n)
def Closed (T : Types) (k : List Bool) : Prop := LeV (roundV T k) k
theorem closed_above {T : Types} {k : List Bool} (c : Closed T k) : ∀ n, LeV (having T n) k
 | 0 => by
  intro i h
  simp [having, List.getD_eq_getElem?_getD] at h
  cases e : T[i]? with
  | none => rw [e] at h; simp at h
  | some cs => rw [e] at h; simp at h
 | n + 1 => by
  rw [having_succ]
  exact (round_mono (closed_above c n)).trans c
theorem eq_of_le : ∀ {a b : List Bool}, a.length = b.length -> LeV a b -> LeV b a -> a = b
 | [], [], _, _, _ => rfl
 | [], _ :: _, h, _, _ => by simp at h
 | _ :: _, [], h, _, _ => by simp at h
 | x :: a, y :: b, h, p, q => by
  have e : x = y := by
   have p0 := p 0
   have q0 := q 0
   simp at p0 q0
   cases x <;> cases y <;> simp_all
  have r : a = b := eq_of_le (by simpa using h) (fun i z => by simpa using p (i + 1) (by simpa using z)) (fun i z => by simpa using q (i + 1) (by simpa using z))
  rw [e, r]
def cntV (k : List Bool) : Nat := k.countP id
theorem cnt_le_len (k : List Bool) : cntV k <= k.length := List.countP_le_length
theorem cnt_mono : ∀ {a b : List Bool}, a.length = b.length -> LeV a b -> cntV a <= cntV b
 | [], [], _, _ => Nat.le_refl _
 | [], _ :: _, h, _ => by simp at h
 | _ :: _, [], h, _ => by simp at h
 | x :: a, y :: b, h, p => by
  have ih := cnt_mono (a := a) (b := b) (by simpa using h) (fun i z => by simpa using p (i + 1) (by simpa using z))
  have p0 := p 0
  simp at p0
  unfold cntV at *
  rw [List.countP_cons, List.countP_cons]
  cases x <;> cases y <;> simp_all <;> omega
theorem cnt_lt : ∀ {a b : List Bool}, a.length = b.length -> LeV a b -> a ≠ b -> cntV a < cntV b
 | [], [], _, _, n => absurd rfl n
 | [], _ :: _, h, _, _ => by simp at h
 | _ :: _, [], h, _, _ => by simp at h
 | x :: a, y :: b, h, p, n => by
  have hl : a.length = b.length := by simpa using h
  have pl : LeV a b := fun i z => by simpa using p (i + 1) (by simpa using z)
  have p0 := p 0
  simp at p0
  have m := cnt_mono hl pl
  by_cases e : a = b
  ·subst e
   have : x ≠ y := fun q => n (by rw [q])
   unfold cntV at *
   rw [List.countP_cons, List.countP_cons]
   cases x <;> cases y <;> simp_all
  ·have ih := cnt_lt hl pl e
   unfold cntV at *
   rw [List.countP_cons, List.countP_cons]
   cases x <;> cases y <;> simp_all <;> omega
theorem closed_or (T : Types) : ∀ n, Closed T (having T n) ∨ n <= cntV (having T n)
 | 0 => .inr (Nat.zero_le _)
 | n + 1 => by
  by_cases e : having T n = having T (n + 1)
  ·left
   intro i h
   rw [<- e] at h ⊢
   have : having T (n + 1) = roundV T (having T n) := rfl
   rw [<- this, <- e] at h
   exact h
  ·right
   have l := cnt_lt (by rw [having_len, having_len]) (having_mono1 T n) e
   rcases closed_or T n with c | c
   ·exact absurd (eq_of_le (by rw [having_len, having_len]) (having_mono1 T n) c) e
   ·omega
theorem all_of_cnt : ∀ {k : List Bool}, k.length <= cntV k -> ∀ i, i < k.length -> k.getD i false = true
 | [], _, i, h => by simp at h
 | x :: k, c, i, h => by
  have l := cnt_le_len k
  unfold cntV at *
  rw [List.countP_cons] at c
  simp at c h
  have hx : x = true := by
   cases x
   ·simp at c; omega
   ·rfl
  subst hx
  simp at c
  cases i with
  | zero => rfl
  | succ i => simpa using all_of_cnt (k := k) (by unfold cntV; omega) i (by omega)
theorem closed_last (T : Types) : Closed T (having T T.length) := by
 rcases closed_or T T.length with c | c
 ·exact c
 ·intro i h
  rw [round_get] at h
  obtain ⟨cs, e, _⟩ := h
  refine all_of_cnt (by rw [having_len]; exact c) i ?_
  rw [having_len]
  exact (List.getElem?_eq_some_iff.mp e).1
def Sound (T : Types) (k : List Bool) : Prop := ∀ t, k.getD t false = true -> hasValue T t = true
theorem sound_step {T : Types} {k : List Bool} {i : Nat} {cs : List (List Nat)} (s : Sound T k) (e : T[i]? = some cs) (a : cs.any (mk1 k) = true) : Sound T (k.set i true) := by
 intro t h
 by_cases q : i = t
 ·subst q
  exact closed_last T i (round_get.mpr ⟨cs, e, by
   rw [List.any_eq_true] at *
   obtain ⟨fs, m, r⟩ := a
   exact ⟨fs, m, mk1_mono s r⟩⟩)
 ·rw [List.getD_eq_getElem?_getD, List.getElem?_set_ne q] at h
  exact s t (by rw [List.getD_eq_getElem?_getD]; exact h)
theorem sound_start (T : Types) : Sound T (T.map fun _ => false) := by
 intro t h
 rw [List.getD_eq_getElem?_getD, List.getElem?_map] at h
 cases e : T[t]? with
 | none => rw [e] at h; simp at h
 | some cs => rw [e] at h; simp at h
theorem done_valued {T : Types} {k : List Bool} (s : Sound T k) (c : ∀ i cs, T[i]? = some cs -> cs.any (mk1 k) = true -> k.getD i false = true) (t : Nat) : k.getD t false = hasValue T t := by
 have cl : Closed T k := by
  intro i h
  rw [round_get] at h
  obtain ⟨cs, e, a⟩ := h
  exact c i cs e a
 have a := closed_above cl T.length t
 have b := s t
 unfold hasValue at *
 cases x : k.getD t false <;> cases y : (having T T.length).getD t false <;> simp_all
theorem makes_eq {T : Types} {k : List Bool} (h : ∀ t, k.getD t false = hasValue T t) {t c : Nat} {fs : List Nat} (e : fieldsOf T t c = some fs) : makes T t c = mk1 k fs := by
 unfold makes mk1
 rw [e]
 simp only
 congr 1
 funext f
 exact (h f).symm
theorem done_list {T : Types} {k : List Bool} (l : k.length = T.length) (h : ∀ t, k.getD t false = hasValue T t) : k = having T T.length := by
 refine eq_of_le (by rw [having_len]; exact l) (fun i x => ?_) (fun i x => ?_)
 ·have := h i; unfold hasValue at this; rw [<- this]; exact x
 ·have := h i; unfold hasValue at this; rw [this]; exact x
def lackV (k : List Bool) : Nat := k.length - cntV k
theorem lack_set {k : List Bool} {i : Nat} (hi : i < k.length) (h : k.getD i false = false) : lackV (k.set i true) < lackV k := by
 have ne : k ≠ k.set i true := by
  intro e
  have : (k.set i true).getD i false = true := by
   rw [List.getD_eq_getElem?_getD, List.getElem?_set_self hi]; rfl
  rw [<- e, h] at this
  cases this
 have le : LeV k (k.set i true) := by
  intro j x
  by_cases q : i = j
  ·subst q; rw [List.getD_eq_getElem?_getD, List.getElem?_set_self hi]; rfl
  ·rw [List.getD_eq_getElem?_getD, List.getElem?_set_ne q, <- List.getD_eq_getElem?_getD]; exact x
 have c := cnt_lt (by rw [List.length_set]) le ne
 have b := cnt_le_len (k.set i true)
 unfold lackV
 rw [List.length_set] at *
 omega
end MC
namespace MC
open Pc
mutual
def txt : Pat -> List Nat
 | .any => [255]
 | .con c l => c :: txts l
def txts : List Pat -> List Nat
 | [] => []
 | p :: r => txt p ++ txts r
end
mutual
def dep : Pat -> Nat
 | .any => 0
 | .con _ l => deps l + 1
def deps : List Pat -> Nat
 | [] => 0
 | p :: r => max (dep p) (deps r)
end
mutual
theorem textOf_eq : ∀ (p : Pat) (n : Nat), dep p <= n -> textOf n p = txt p
 | .any, n, _ => by cases n <;> simp [textOf, txt, ANY]
 | .con c l, 0, h => by simp [dep] at h
 | .con c l, n + 1, h => by
  simp only [textOf, txt]
  rw [textOfs_eq l n (by simp [dep] at h; exact h)]
theorem textOfs_eq : ∀ (l : List Pat) (n : Nat), deps l <= n -> l.flatMap (textOf n) = txts l
 | [], n, _ => by simp [txts]
 | p :: r, n, h => by
  simp only [deps] at h
  rw [List.flatMap_cons, textOf_eq p n (by omega), textOfs_eq r n (by omega)]
  simp [txts]
end
mutual
theorem dep_le : ∀ (p : Pat), dep p <= (txt p).length
 | .any => by simp [dep, txt]
 | .con c l => by
  have h := deps_le l
  simp only [dep, txt, List.length_cons]
  omega
theorem deps_le : ∀ (l : List Pat), deps l <= (txts l).length
 | [] => by simp [deps]
 | p :: r => by
  have a := dep_le p
  have b := deps_le r
  simp [deps, txts]
  omega
end
theorem txts_append : ∀ (a b : List Pat), txts (a ++ b) = txts a ++ txts b
 | [], b => by simp [txts]
 | p :: a, b => by simp [txts, txts_append a b]
theorem txts_any : ∀ n, txts (List.replicate n .any) = List.replicate n 255
 | 0 => by simp [txts]
 | n + 1 => by rw [List.replicate_succ, List.replicate_succ]; simp [txts, txt, txts_any n]
theorem txt_ne (p : Pat) : txt p ≠ [] := by cases p <;> simp [txt]
theorem txts_single (p : Pat) : txts [p] = txt p := by simp [txts]
mutual
/-- a pattern of a type -/
def OkP (T : Types) : Nat -> Pat -> Prop
 | _, .any => True
 | t, .con c l => ∃ fs, fieldsOf T t c = some fs /\ OkPs T fs l
def OkPs (T : Types) : List Nat -> List Pat -> Prop
 | [], [] => True
 | t :: ts, p :: r => OkP T t p /\ OkPs T ts r
 | [], _ :: _ => False
 | _ :: _, [] => False
end
theorem okps_len {T : Types} : ∀ {ts : List Nat} {l : List Pat}, OkPs T ts l -> ts.length = l.length
 | [], [], _ => rfl
 | t :: ts, p :: r, h => by simp only [OkPs] at h; simp [okps_len h.2]
 | [], _ :: _, h => by simp [OkPs] at h
 | _ :: _, [], h => by simp [OkPs] at h
theorem okps_append {T : Types} : ∀ {a b : List Nat} {l m : List Pat}, OkPs T a l -> OkPs T b m -> OkPs T (a ++ b) (l ++ m)
 | [], b, [], m, _, h => h
 | t :: a, b, p :: l, m, h, k => by
  simp only [OkPs] at h
  simp only [List.cons_append, OkPs]
  exact ⟨h.1, okps_append h.2 k⟩
 | [], _, _ :: _, _, h, _ => by simp [OkPs] at h
 | _ :: _, _, [], _, h, _ => by simp [OkPs] at h
theorem okps_any {T : Types} : ∀ (ts : List Nat), OkPs T ts (List.replicate ts.length .any)
 | [] => by simp [OkPs]
 | t :: ts => by simp only [List.length_cons, List.replicate_succ, OkPs, OkP]; exact ⟨trivial, okps_any ts⟩
theorem okps_split {T : Types} : ∀ {a b : List Nat} {l : List Pat}, OkPs T (a ++ b) l -> ∃ x y, l = x ++ y /\ OkPs T a x /\ OkPs T b y
 | [], b, l, h => ⟨[], l, rfl, by simp [OkPs], h⟩
 | t :: a, b, p :: l, h => by
  simp only [List.cons_append, OkPs] at h
  obtain ⟨x, y, e, h1, h2⟩ := okps_split h.2
  exact ⟨p :: x, y, by rw [e]; rfl, by simp only [OkPs]; exact ⟨h.1, h1⟩, h2⟩
 | _ :: _, _, [], h => by simp [OkPs] at h
def Few (T : Types) : Prop := ∀ t, (consOf T t).length <= 255
theorem Few.ne {T : Types} (h : Few T) {t c : Nat} {fs : List Nat} (e : fieldsOf T t c = some fs) : c ≠ 255 := by
 unfold fieldsOf at e
 have := (List.getElem?_eq_some_iff.mp e).1
 have := h t
 omega
theorem read_ok {T : Types} : ∀ (f : Nat) (ts b : List Nat) (l : List Pat) (r : List Nat), readPats T f ts b = some (l, r) -> OkPs T ts l /\ b = txts l ++ r
 | 0, _, _, _, _, h => by simp [readPats] at h
 | f + 1, [], b, l, r, h => by
  simp [readPats] at h
  obtain ⟨rfl, rfl⟩ := h
  simp [OkPs, txts]
 | f + 1, t :: ts, [], l, r, h => by simp [readPats] at h
 | f + 1, t :: ts, c :: b, l, r, h => by
  rw [readPats] at h
  by_cases hc : c = ANY
  ·rw [if_pos hc] at h
   cases e : readPats T f ts b with
   | none => rw [e] at h; simp at h
   | some x =>
    obtain ⟨l', r'⟩ := x
    rw [e] at h
    simp at h
    obtain ⟨rfl, rfl⟩ := h
    obtain ⟨h1, h2⟩ := read_ok f ts b l' r' e
    refine ⟨by simp only [OkPs, OkP]; exact ⟨trivial, h1⟩, ?_⟩
    rw [h2, hc]; simp [txts, txt, ANY]
  ·rw [if_neg hc] at h
   cases e0 : fieldsOf T t c with
   | none => rw [e0] at h; simp at h
   | some fs =>
    rw [e0] at h
    simp only at h
    cases e : readPats T f fs b with
    | none => rw [e] at h; simp at h
    | some x =>
     obtain ⟨a, r'⟩ := x
     rw [e] at h
     simp only at h
     cases e2 : readPats T f ts r' with
     | none => rw [e2] at h; simp at h
     | some y =>
      obtain ⟨l', u⟩ := y
      rw [e2] at h
      simp at h
      obtain ⟨rfl, rfl⟩ := h
      obtain ⟨h1, h2⟩ := read_ok f fs b a r' e
      obtain ⟨h3, h4⟩ := read_ok f ts r' l' u e2
      refine ⟨by simp only [OkPs, OkP]; exact ⟨⟨fs, e0, h1⟩, h3⟩, ?_⟩
      rw [h2, h4]; simp [txts, txt]
theorem read_of {T : Types} (F : Few T) : ∀ (f : Nat) (ts : List Nat) (l : List Pat) (r : List Nat), OkPs T ts l -> (txts l).length < f -> readPats T f ts (txts l ++ r) = some (l, r)
 | 0, _, _, _, _, h => by omega
 | f + 1, [], [], r, _, _ => by simp [readPats, txts]
 | f + 1, [], _ :: _, r, h, _ => by simp [OkPs] at h
 | f + 1, _ :: _, [], r, h, _ => by simp [OkPs] at h
 | f + 1, t :: ts, .any :: l, r, h, hf => by
  simp only [OkPs] at h
  simp only [txts, txt, List.length_append, List.length_cons, List.length_nil] at hf
  simp only [txts, txt, List.cons_append, List.nil_append, readPats, ANY, if_true]
  rw [read_of F f ts l r h.2 (by omega)]
 | f + 1, t :: ts, .con c a :: l, r, h, hf => by
  simp only [OkPs, OkP] at h
  obtain ⟨⟨fs, e, h1⟩, h2⟩ := h
  simp only [txts, txt, List.length_append, List.length_cons] at hf
  have hc : c ≠ ANY := F.ne e
  simp only [txts, txt, List.cons_append, List.append_assoc, readPats]
  rw [if_neg hc, e]
  simp only
  rw [read_of F f fs a (txts l ++ r) h1 (by omega)]
  simp only
  rw [read_of F f ts l r h2 (by omega)]
theorem readPat_some {T : Types} {t : Nat} {b : List Nat} {p : Pat} (h : readPat T t b = some p) : OkP T t p /\ b = txt p := by
 unfold readPat at h
 split at h
 ·rename_i q e
  simp at h
  subst h
  obtain ⟨h1, h2⟩ := read_ok _ _ _ _ _ e
  simp only [OkPs, and_true] at h1
  exact ⟨h1, by rw [h2]; simp [txts]⟩
 ·simp at h
theorem readPat_of {T : Types} (F : Few T) {t : Nat} {p : Pat} (h : OkP T t p) : readPat T t (txt p) = some p := by
 unfold readPat
 have e : readPats T (2 * (txt p).length + 4) [t] (txt p) = some ([p], []) := by
  have := read_of F (2 * (txt p).length + 4) [t] [p] [] (by simp only [OkPs, and_true]; exact h) (by simp [txts]; omega)
  simpa [txts] using this
 rw [e]
theorem readPat_none {T : Types} (F : Few T) {t : Nat} {b : List Nat} : readPat T t b = none ↔ ¬ ∃ p, OkP T t p /\ b = txt p := by
 constructor
 ·rintro h ⟨p, h1, rfl⟩
  rw [readPat_of F h1] at h
  cases h
 ·intro h
  cases e : readPat T t b with
  | none => rfl
  | some p => exact absurd ⟨p, readPat_some e⟩ h
def eat (T : Types) : List Nat -> List Nat -> Bool
 | [], [] => true
 | _ :: _, [] => false
 | [], _ :: _ => false
 | t :: ts, c :: b => if c < (consOf T t).length then eat T ((consOf T t).getD c [] ++ ts) b else if c = 255 then eat T ts b else false
theorem fields_get {T : Types} {t c : Nat} {fs : List Nat} (e : fieldsOf T t c = some fs) : c < (consOf T t).length /\ (consOf T t).getD c [] = fs := by
 unfold fieldsOf at e
 obtain ⟨h, q⟩ := List.getElem?_eq_some_iff.mp e
 refine ⟨h, ?_⟩
 rw [List.getD_eq_getElem?_getD, e]; rfl
theorem eat_ok {T : Types} : ∀ (b ts : List Nat), eat T ts b = true -> ∃ l, OkPs T ts l /\ b = txts l
 | [], [], _ => ⟨[], by simp [OkPs], by simp [txts]⟩
 | [], _ :: _, h => by simp [eat] at h
 | _ :: _, [], h => by simp [eat] at h
 | c :: b, t :: ts, h => by
  rw [eat] at h
  by_cases hc : c < (consOf T t).length
  ·rw [if_pos hc] at h
   obtain ⟨l, h1, h2⟩ := eat_ok b _ h
   obtain ⟨x, y, rfl, h3, h4⟩ := okps_split h1
   refine ⟨.con c x :: y, ?_, ?_⟩
   ·simp only [OkPs, OkP]
    refine ⟨⟨_, ?_, h3⟩, h4⟩
    unfold fieldsOf
    rw [List.getD_eq_getElem?_getD, List.getElem?_eq_getElem hc]; rfl
   ·rw [h2, txts_append]; simp [txts, txt]
  ·rw [if_neg hc] at h
   by_cases h5 : c = 255
   ·rw [if_pos h5] at h
    obtain ⟨l, h1, h2⟩ := eat_ok b _ h
    exact ⟨.any :: l, by simp only [OkPs, OkP]; exact ⟨trivial, h1⟩, by rw [h2, h5]; simp [txts, txt]⟩
   ·rw [if_neg h5] at h; cases h
mutual
theorem eat_p {T : Types} (F : Few T) : ∀ (p : Pat) (t : Nat) (ws b : List Nat), OkP T t p -> eat T (t :: ws) (txt p ++ b) = eat T ws b
 | .any, t, ws, b, _ => by
  have := F t
  simp only [txt, List.cons_append, List.nil_append, eat]
  rw [if_neg (by omega)]
  simp
 | .con c l, t, ws, b, h => by
  simp only [OkP] at h
  obtain ⟨fs, e, h1⟩ := h
  obtain ⟨h2, h3⟩ := fields_get e
  simp only [txt, List.cons_append, eat]
  rw [if_pos h2, h3, eat_ps F l fs ws b h1]
theorem eat_ps {T : Types} (F : Few T) : ∀ (l : List Pat) (ts ws b : List Nat), OkPs T ts l -> eat T (ts ++ ws) (txts l ++ b) = eat T ws b
 | [], [], ws, b, _ => by simp [txts]
 | [], _ :: _, _, _, h => by simp [OkPs] at h
 | _ :: _, [], _, _, h => by simp [OkPs] at h
 | p :: l, t :: ts, ws, b, h => by
  simp only [OkPs] at h
  simp only [txts, List.append_assoc, List.cons_append]
  rw [eat_p F p t (ts ++ ws) (txts l ++ b) h.1, eat_ps F l ts ws b h.2]
end
theorem eat_read {T : Types} (F : Few T) (t : Nat) (b : List Nat) : eat T [t] b = (readPat T t b).isSome := by
 cases e : readPat T t b with
 | some p =>
  obtain ⟨h1, rfl⟩ := readPat_some e
  have := eat_p F p t [] [] h1
  simp only [List.append_nil] at this
  rw [this]; rfl
 | none =>
  cases q : eat T [t] b with
  | false => rfl
  | true =>
   obtain ⟨l, h1, h2⟩ := eat_ok b _ q
   match l, h1 with
   | [p], h1 =>
    simp only [OkPs, and_true] at h1
    exact absurd ⟨p, h1, by rw [h2]; simp [txts]⟩ ((readPat_none F).mp e)
end MC
namespace MC
open Pc
abbrev Prob := List Nat × List (List Nat) × List Nat
def offF (c n : Nat) : List Nat -> List Nat
 | [] => []
 | x :: r => if x = c then r else List.replicate n 255 ++ r
def keepF (c : Nat) : List Nat -> Bool
 | [] => false
 | x :: _ => x == c || x == 255
def underF (c n : Nat) (rows : List (List Nat)) : List (List Nat) := (rows.filter (keepF c)).map (offF c n)
def headF : List Nat -> Option Nat
 | [] => none
 | x :: _ => if x = 255 then none else some x
def headsF (rows : List (List Nat)) : List Nat := rows.filterMap headF
def worth (T : Types) (t : Nat) (hs : List Nat) : List Nat :=
 let l := (List.range (consOf T t).length).filter (makes T t)
 let free := l.find? fun c => !hs.contains c
 l.filter fun c => hs.contains c || free == some c
def flds (T : Types) (t c : Nat) : List Nat := (consOf T t).getD c []
def kids (T : Types) : Prob -> List (Nat × Prob)
 | ([], _, _) => []
 | (_ :: _, _, []) => []
 | (t :: ts, rows, h :: q) =>
  if h ≠ 255 then (if makes T t h = true then [(h, (flds T t h ++ ts, underF h (flds T t h).length rows, offF h (flds T t h).length (h :: q)))] else [])
  else if hasValue T t = false then []
  else if headsF rows = [] then [(255, (ts, underF 255 0 rows, offF 255 0 (h :: q)))]
  else (worth T t (headsF rows)).map fun c => (c, (flds T t c ++ ts, underF c (flds T t c).length rows, offF c (flds T t c).length (h :: q)))
def fl (T : Types) : Nat -> Prob -> Option (List Nat)
 | 0, _ => none
 | f + 1, p => if p.1 = [] then (if p.2.1 = [] then some [] else none) else (kids T p).findSome? fun x => (fl T f x.2).map (x.1 :: ·)
theorem kids_cons (T : Types) (t : Nat) (ts : List Nat) (rows : List (List Nat)) (h : Nat) (q : List Nat) : kids T (t :: ts, rows, h :: q) =
  if h ≠ 255 then (if makes T t h = true then [(h, (flds T t h ++ ts, underF h (flds T t h).length rows, offF h (flds T t h).length (h :: q)))] else [])
  else if hasValue T t = false then []
  else if headsF rows = [] then [(255, (ts, underF 255 0 rows, offF 255 0 (h :: q)))]
  else (worth T t (headsF rows)).map fun c => (c, (flds T t c ++ ts, underF c (flds T t c).length rows, offF c (flds T t c).length (h :: q))) := rfl
theorem unc_con (T : Types) (f t : Nat) (ts : List Nat) (rows : List (List Pat)) (c : Nat) (l q : List Pat) : uncaught T (f + 1) (t :: ts) rows (.con c l :: q) =
  if (rows.any fun (r : List Pat) => r.all isAny) = true then none else if makes T t c = false then none else (match fieldsOf T t c with
   | none => none
   | some fs => (uncaught T f (fs ++ ts) (rows.filterMap (special c fs.length)) (l ++ q)).map (rebuilt c fs.length)) := by
 rw [uncaught]
 rfl
theorem unc_any (T : Types) (f t : Nat) (ts : List Nat) (rows : List (List Pat)) (q : List Pat) : uncaught T (f + 1) (t :: ts) rows (.any :: q) =
  if (rows.any fun (r : List Pat) => r.all isAny) = true then none else if hasValue T t = false then none
   else if headed rows = false then (uncaught T f ts (rows.filterMap default_) q).map fun (r : List Pat) => .any :: r
   else (lookedAt T t rows).findSome? fun (c : Nat) => match fieldsOf T t c with
    | none => none
    | some fs => (uncaught T f (fs ++ ts) (rows.filterMap (special c fs.length)) (List.replicate fs.length .any ++ q)).map (rebuilt c fs.length) := by
 rw [uncaught]
 rfl
theorem makes_fields {T : Types} {t c : Nat} (h : makes T t c = true) : fieldsOf T t c = some (flds T t c) /\ c < (consOf T t).length := by
 unfold makes at h
 cases e : fieldsOf T t c with
 | none => rw [e] at h; cases h
 | some fs =>
  obtain ⟨a, b⟩ := fields_get e
  exact ⟨by unfold flds; rw [b], a⟩
theorem worth_makes {T : Types} {t c : Nat} {hs : List Nat} (h : c ∈ worth T t hs) : makes T t c = true := by
 unfold worth at h
 simp only [List.mem_filter] at h
 exact h.1.2
theorem fl_caught {T : Types} (F : Few T) : ∀ (f : Nat) (ts : List Nat) (rows : List (List Nat)) (q : List Nat), List.replicate ts.length 255 ∈ rows -> fl T f (ts, rows, q) = none
 | 0, _, _, _, _ => rfl
 | f + 1, [], rows, q, h => by
  have : rows ≠ [] := List.ne_nil_of_mem h
  simp [fl, this]
 | f + 1, t :: ts, rows, [], h => by simp [fl, kids]
 | f + 1, t :: ts, rows, x :: q, h => by
  simp only [fl, List.cons_ne_nil, if_false]
  rw [List.findSome?_eq_none_iff]
  intro y hy
  have key : ∀ c n, c ≠ 255 -> List.replicate (n + ts.length) 255 ∈ underF c n rows := by
   intro c n hc
   unfold underF
   refine List.mem_map.mpr ⟨List.replicate (ts.length + 1) 255, List.mem_filter.mpr ⟨h, ?_⟩, ?_⟩
   ·rw [List.replicate_succ]; simp [keepF]
   ·rw [List.replicate_succ]
    simp only [offF]
    rw [if_neg (fun e => hc e.symm), <- List.replicate_append_replicate]
  have stp : List.replicate ts.length 255 ∈ underF 255 0 rows := by
   unfold underF
   refine List.mem_map.mpr ⟨List.replicate (ts.length + 1) 255, List.mem_filter.mpr ⟨h, ?_⟩, ?_⟩
   ·rw [List.replicate_succ]; simp [keepF]
   ·rw [List.replicate_succ]; simp [offF]
  have go : ∀ c, makes T t c = true -> fl T f (flds T t c ++ ts, underF c (flds T t c).length rows, offF c (flds T t c).length (x :: q)) = none := by
   intro c hm
   refine fl_caught F f _ _ _ ?_
   rw [List.length_append]
   exact key c _ (F.ne (makes_fields hm).1)
  rw [kids_cons] at hy
  by_cases h1 : x ≠ 255
  ·rw [if_pos h1] at hy
   by_cases h2 : makes T t x = true
   ·rw [if_pos h2] at hy
    simp at hy
    subst hy
    simp only [Option.map_eq_none_iff]
    exact go x h2
   ·rw [if_neg h2] at hy; simp at hy
  ·rw [if_neg h1] at hy
   by_cases h2 : hasValue T t = false
   ·rw [if_pos h2] at hy; simp at hy
   ·rw [if_neg h2] at hy
    by_cases h3 : headsF rows = []
    ·rw [if_pos h3] at hy
     simp at hy
     subst hy
     simp only [Option.map_eq_none_iff]
     exact fl_caught F f _ _ _ stp
    ·rw [if_neg h3] at hy
     obtain ⟨c, hc, rfl⟩ := List.mem_map.mp hy
     simp only [Option.map_eq_none_iff]
     exact go c (worth_makes hc)
theorem all_any_txts : ∀ {r : List Pat}, r.all isAny = true -> txts r = List.replicate r.length 255
 | [], _ => by simp [txts]
 | .any :: r, h => by
  rw [List.all_cons, Bool.and_eq_true] at h
  simp [txts, txt, all_any_txts h.2, List.replicate_succ]
 | .con _ _ :: r, h => by simp [isAny] at h
theorem special_txts {T : Types} (F : Few T) {t c : Nat} {ts fs : List Nat} (e : fieldsOf T t c = some fs) : ∀ (rows : List (List Pat)), (∀ r ∈ rows, OkPs T (t :: ts) r) ->
  underF c fs.length (rows.map txts) = (rows.filterMap (special c fs.length)).map txts
 | [], _ => rfl
 | r :: rows, h => by
  have hc := F.ne e
  have ih := special_txts F e rows fun r' h' => h r' (List.mem_cons_of_mem _ h')
  have hr := h r List.mem_cons_self
  unfold underF at ih ⊢
  match r, hr with
  | .any :: r, _ =>
   simp only [List.map_cons, txts, txt, List.cons_append, List.nil_append, List.filter_cons, keepF, List.filterMap_cons, special]
   simp only [beq_self_eq_true, Bool.or_true, if_true, List.map_cons, offF]
   rw [if_neg (fun q => hc q.symm), ih, txts_append, txts_any]
  | .con d l :: r, hr =>
   simp only [OkPs, OkP] at hr
   obtain ⟨⟨gs, e2, _⟩, _⟩ := hr
   have hd := F.ne e2
   simp only [List.map_cons, txts, txt, List.cons_append, List.filterMap_cons, special]
   by_cases q : d = c
   ·subst q
    rw [List.filter_cons_of_pos (by simp [keepF]), if_pos rfl]
    simp only [List.map_cons, offF, if_true]
    rw [ih, txts_append]
   ·rw [if_neg q, List.filter_cons_of_neg (by simp [keepF, q, hd])]
    exact ih
  | [], hr => simp [OkPs] at hr
theorem default_txts {T : Types} (F : Few T) {t : Nat} {ts : List Nat} : ∀ (rows : List (List Pat)), (∀ r ∈ rows, OkPs T (t :: ts) r) ->
  underF 255 0 (rows.map txts) = (rows.filterMap default_).map txts
 | [], _ => rfl
 | r :: rows, h => by
  have ih := default_txts F rows fun r' h' => h r' (List.mem_cons_of_mem _ h')
  have hr := h r List.mem_cons_self
  unfold underF at ih ⊢
  match r, hr with
  | .any :: r, _ =>
   simp only [List.map_cons, txts, txt, List.cons_append, List.nil_append, List.filter_cons, keepF, List.filterMap_cons, default_]
   simp only [beq_self_eq_true, Bool.or_true, if_true, List.map_cons, offF]
   rw [ih]
  | .con d l :: r, hr =>
   simp only [OkPs, OkP] at hr
   obtain ⟨⟨gs, e2, _⟩, _⟩ := hr
   have hd := F.ne e2
   simp only [List.map_cons, txts, txt, List.cons_append, List.filterMap_cons, default_]
   rw [List.filter_cons_of_neg (by simp [keepF, hd])]
   exact ih
  | [], hr => simp [OkPs] at hr
theorem heads_txts {T : Types} (F : Few T) {t : Nat} {ts : List Nat} : ∀ (rows : List (List Pat)), (∀ r ∈ rows, OkPs T (t :: ts) r) ->
  (headsF (rows.map txts) = [] ↔ headed rows = false) /\ ∀ c, (headsF (rows.map txts)).contains c = begins rows c
 | [], _ => by simp [headsF, headed, begins]
 | r :: rows, h => by
  have ih := heads_txts F rows fun r' h' => h r' (List.mem_cons_of_mem _ h')
  have hr := h r List.mem_cons_self
  unfold headsF headed begins at ih ⊢
  match r, hr with
  | .any :: r, _ =>
   simp only [List.map_cons, txts, txt, List.cons_append, List.nil_append, List.filterMap_cons, headF, if_true, List.any_cons, Bool.false_or]
   exact ih
  | .con d l :: r, hr =>
   simp only [OkPs, OkP] at hr
   obtain ⟨⟨gs, e2, _⟩, _⟩ := hr
   have hd := F.ne e2
   simp only [List.map_cons, txts, txt, List.cons_append, List.filterMap_cons, headF, if_neg hd, List.any_cons, Bool.true_or, List.contains_cons]
   refine ⟨by simp, fun c => ?_⟩
   rw [ih.2 c]
   congr 1
   exact Bool.beq_comm
  | [], hr => simp [OkPs] at hr
theorem worth_eq {T : Types} {t : Nat} {rows : List (List Pat)} {hs : List Nat} (h : ∀ c, hs.contains c = begins rows c) : worth T t hs = lookedAt T t rows := by
 unfold worth lookedAt
 simp only [h]
theorem special_ok {T : Types} {t c : Nat} {ts fs : List Nat} (e : fieldsOf T t c = some fs) {r r' : List Pat} (h : OkPs T (t :: ts) r) (s : special c fs.length r = some r') : OkPs T (fs ++ ts) r' := by
 match r, h, s with
 | .any :: r, h, s =>
  simp only [special, Option.some.injEq] at s
  subst s
  simp only [OkPs] at h
  exact okps_append (okps_any fs) h.2
 | .con d l :: r, h, s =>
  simp only [special] at s
  by_cases q : d = c
  ·rw [if_pos q] at s
   simp only [Option.some.injEq] at s
   subst s q
   simp only [OkPs, OkP] at h
   obtain ⟨⟨gs, e2, h1⟩, h2⟩ := h
   rw [e] at e2
   cases e2
   exact okps_append h1 h2
  ·rw [if_neg q] at s; cases s
theorem default_ok {T : Types} {t : Nat} {ts : List Nat} {r r' : List Pat} (h : OkPs T (t :: ts) r) (s : default_ r = some r') : OkPs T ts r' := by
 match r, h, s with
 | .any :: r, h, s =>
  simp only [default_, Option.some.injEq] at s
  subst s
  simp only [OkPs] at h
  exact h.2
theorem txts_rebuilt (c n : Nat) (l : List Pat) : txts (rebuilt c n l) = c :: txts l := by
 unfold rebuilt
 simp only [txts, txt, List.cons_append]
 rw [<- txts_append, List.take_append_drop]
theorem findSome_map {α β γ : Type} (g : β -> γ) (f : α -> Option β) : ∀ l : List α, (l.findSome? f).map g = l.findSome? fun a => (f a).map g
 | [] => rfl
 | a :: l => by
  rw [List.findSome?_cons, List.findSome?_cons]
  cases f a with
  | none => simpa using findSome_map g f l
  | some b => rfl
theorem findSome_congr {α β : Type} {f g : α -> Option β} : ∀ {l : List α}, (∀ a ∈ l, f a = g a) -> l.findSome? f = l.findSome? g
 | [], _ => rfl
 | a :: l, h => by
  rw [List.findSome?_cons, List.findSome?_cons, h a List.mem_cons_self, findSome_congr fun b hb => h b (List.mem_cons_of_mem _ hb)]
theorem fl_uncaught {T : Types} (F : Few T) : ∀ (f : Nat) (ts : List Nat) (rows : List (List Pat)) (q : List Pat), (∀ r ∈ rows, OkPs T ts r) -> OkPs T ts q ->
  fl T f (ts, rows.map txts, txts q) = (uncaught T f ts rows q).map txts
 | 0, _, _, _, _, _ => by simp [fl, uncaught]
 | f + 1, [], rows, q, _, _ => by
  cases rows with
  | nil => simp [fl, uncaught, txts]
  | cons r rows => simp [fl, uncaught]
 | f + 1, t :: ts, rows, [], _, hq => by simp [OkPs] at hq
 | f + 1, t :: ts, rows, p :: q, hr, hq => by
  by_cases ha : (rows.any fun (r : List Pat) => r.all isAny) = true
  ·have eu : uncaught T (f + 1) (t :: ts) rows (p :: q) = none := by
    cases p with
    | any => rw [unc_any, if_pos ha]
    | con c l => rw [unc_con, if_pos ha]
   rw [eu]
   rw [List.any_eq_true] at ha
   obtain ⟨r, m, ha⟩ := ha
   rw [Option.map_none]
   refine fl_caught F (f + 1) (t :: ts) _ _ (List.mem_map.mpr ⟨r, m, ?_⟩)
   rw [all_any_txts ha, okps_len (hr r m)]
  ·have sub : ∀ (c : Nat) (fs : List Nat), fieldsOf T t c = some fs -> ∀ (l : List Pat), OkPs T (fs ++ ts) l -> txts l = offF c fs.length (txts (p :: q)) ->
     (fl T f (flds T t c ++ ts, underF c (flds T t c).length (rows.map txts), offF c (flds T t c).length (txts (p :: q)))).map (c :: ·) =
     ((uncaught T f (fs ++ ts) (rows.filterMap (special c fs.length)) l).map (rebuilt c fs.length)).map txts := by
    intro c fs e l hl el
    have ef : flds T t c = fs := (fields_get e).2
    rw [ef, special_txts F e rows hr, <- el]
    rw [fl_uncaught F f (fs ++ ts) (rows.filterMap (special c fs.length)) l (fun r' h' => by
     obtain ⟨r, m, s⟩ := List.mem_filterMap.mp h'
     exact special_ok e (hr r m) s) hl]
    rw [Option.map_map, Option.map_map]
    congr 1
    funext l'
    simp only [Function.comp, txts_rebuilt]
   match p, hq, sub with
   | .con c l, hq, sub =>
    simp only [OkPs, OkP] at hq
    obtain ⟨⟨fs, e, h1⟩, h2⟩ := hq
    have hc := F.ne e
    rw [unc_con, if_neg ha]
    by_cases hm : makes T t c = false
    ·rw [if_pos hm]
     simp [fl, kids, txts, txt, hc, hm]
    ·rw [if_neg hm]
     have hm' : makes T t c = true := by cases x : makes T t c <;> simp_all
     rw [e]
     simp only
     rw [<- sub c fs e (l ++ q) (okps_append h1 h2) (by simp only [txts, txt, List.cons_append, offF, if_true, txts_append])]
     simp only [fl, List.cons_ne_nil, if_false, kids, txts, txt, List.cons_append, ne_eq, hc, not_false_eq_true, if_true, hm']
     simp only [List.findSome?_cons, List.findSome?_nil]
     cases fl T f _ <;> rfl
   | .any, hq, sub =>
    simp only [OkPs] at hq
    rw [unc_any, if_neg ha]
    by_cases hv : hasValue T t = false
    ·rw [if_pos hv]
     simp [fl, kids, txts, txt, hv]
    ·rw [if_neg hv]
     obtain ⟨hh, hb⟩ := heads_txts F rows hr
     by_cases hd : headed rows = false
     ·rw [if_pos hd]
      have hh' := hh.mpr hd
      simp only [fl, List.cons_ne_nil, if_false, kids, txts, txt, List.cons_append, List.nil_append, ne_eq, not_true_eq_false, hv, hh', if_true, reduceCtorEq, if_false]
      simp only [List.findSome?_cons, List.findSome?_nil, offF, if_true]
      rw [default_txts F rows hr]
      rw [fl_uncaught F f ts (rows.filterMap default_) q (fun r' h' => by
       obtain ⟨r, m, s⟩ := List.mem_filterMap.mp h'
       exact default_ok (hr r m) s) hq.2]
      cases uncaught T f ts (rows.filterMap default_) q <;> simp [txts, txt]
     ·rw [if_neg hd]
      have hh' : ¬ headsF (rows.map txts) = [] := fun z => hd (hh.mp z)
      rw [findSome_map]
      simp only [fl, List.cons_ne_nil, if_false, kids, txts, txt, List.cons_append, List.nil_append, ne_eq, not_true_eq_false, hv, hh', reduceCtorEq, if_false]
      rw [List.findSome?_map, worth_eq hb]
      refine findSome_congr fun c hc => ?_
      have hm : makes T t c = true := by
       unfold lookedAt at hc
       simp only [List.mem_filter] at hc
       exact hc.1.2
      have e := (makes_fields hm).1
      rw [e]
      simp only [Function.comp]
      refine sub c _ e _ (okps_append (okps_any _) hq.2) ?_
      have hc5 := F.ne e
      simp only [txts, txt, List.cons_append, List.nil_append, offF]
      rw [if_neg (fun z => hc5 z.symm), txts_append, txts_any]
end MC
namespace MC
open Pc
def Nar (T : Types) : Prop := ∀ t c, (flds T t c).length <= 4
def cn (r : List Nat) : Nat := r.countP (· != 255)
def cns (rows : List (List Nat)) : Nat := (rows.map cn).sum
def hgt (p : Prob) : Nat := p.1.length + 4 * (cns p.2.1 + cn p.2.2)
theorem cn_cons (x : Nat) (r : List Nat) : cn (x :: r) = cn r + if x = 255 then 0 else 1 := by
 unfold cn
 rw [List.countP_cons]
 by_cases h : x = 255 <;> simp [h]
theorem cn_rep (n : Nat) (r : List Nat) : cn (List.replicate n 255 ++ r) = cn r := by
 induction n with
 | zero => simp
 | succ n ih => rw [List.replicate_succ, List.cons_append, cn_cons, ih]; simp
theorem cn_off (c n x : Nat) (r : List Nat) : cn (offF c n (x :: r)) = cn r := by
 by_cases h : x = c
 ·simp only [offF, if_pos h]
 ·simp only [offF, if_neg h, cn_rep]
theorem cns_cons (r : List Nat) (rows : List (List Nat)) : cns (r :: rows) = cn r + cns rows := by simp [cns]
theorem under_cns (c n : Nat) : ∀ rows, cns (underF c n rows) + (headsF rows).length <= cns rows
 | [] => by simp [underF, headsF, cns]
 | [] :: rows => by
  have ih := under_cns c n rows
  have e1 : underF c n ([] :: rows) = underF c n rows := by unfold underF; rw [List.filter_cons_of_neg (by simp [keepF])]
  have e2 : headsF ([] :: rows) = headsF rows := by unfold headsF; rw [List.filterMap_cons_none (by rfl)]
  rw [e1, e2, cns_cons]
  omega
 | (x :: r) :: rows => by
  have ih := under_cns c n rows
  rw [cns_cons, cn_cons]
  by_cases hx : x = 255
  ·have e2 : headsF ((x :: r) :: rows) = headsF rows := by simp [headsF, headF, hx]
   have e1 : underF c n ((x :: r) :: rows) = offF c n (x :: r) :: underF c n rows := by unfold underF; rw [List.filter_cons_of_pos (by simp [keepF, hx]), List.map_cons]
   rw [e1, e2, cns_cons, cn_off]
   omega
  ·have e2 : headsF ((x :: r) :: rows) = x :: headsF rows := by simp [headsF, headF, hx]
   rw [e2, if_neg hx, List.length_cons]
   by_cases hc : x = c
   ·have e1 : underF c n ((x :: r) :: rows) = offF c n (x :: r) :: underF c n rows := by unfold underF; rw [List.filter_cons_of_pos (by simp [keepF, hc]), List.map_cons]
    rw [e1, cns_cons, cn_off]
    omega
   ·have e1 : underF c n ((x :: r) :: rows) = underF c n rows := by unfold underF; rw [List.filter_cons_of_neg (by simp [keepF, hc, hx])]
    rw [e1]
    omega
theorem kid_cases {T : Types} {p : Prob} {x : Nat × Prob} (h : x ∈ kids T p) : ∃ t ts rows y q, p = (t :: ts, rows, y :: q) /\
  ((x = (255, (ts, underF 255 0 rows, offF 255 0 (y :: q))) /\ y = 255 /\ headsF rows = [] /\ hasValue T t = true) ∨
   (∃ c, makes T t c = true /\ x = (c, (flds T t c ++ ts, underF c (flds T t c).length rows, offF c (flds T t c).length (y :: q))) /\ ((y ≠ 255 /\ y = c) ∨ (y = 255 /\ headsF rows ≠ [] /\ hasValue T t = true /\ c ∈ worth T t (headsF rows))))) := by
 match p, h with
 | ([], _, _), h => simp [kids] at h
 | (_ :: _, _, []), h => simp [kids] at h
 | (t :: ts, rows, y :: q), h =>
  rw [kids_cons] at h
  refine ⟨t, ts, rows, y, q, rfl, ?_⟩
  by_cases h1 : y ≠ 255
  ·rw [if_pos h1] at h
   by_cases h2 : makes T t y = true
   ·rw [if_pos h2] at h
    exact .inr ⟨y, h2, by simpa using h, .inl ⟨h1, rfl⟩⟩
   ·rw [if_neg h2] at h; simp at h
  ·rw [if_neg h1] at h
   have h1' : y = 255 := Classical.not_not.mp h1
   by_cases h2 : hasValue T t = false
   ·rw [if_pos h2] at h; simp at h
   ·rw [if_neg h2] at h
    have h2' : hasValue T t = true := by cases z : hasValue T t <;> simp_all
    by_cases h3 : headsF rows = []
    ·rw [if_pos h3] at h
     exact .inl ⟨by simpa using h, h1', h3, h2'⟩
    ·rw [if_neg h3] at h
     obtain ⟨c, hc, rfl⟩ := List.mem_map.mp h
     exact .inr ⟨c, worth_makes hc, rfl, .inr ⟨h1', h3, h2', hc⟩⟩
theorem kid_hgt {T : Types} (N : Nar T) {p : Prob} {x : Nat × Prob} (h : x ∈ kids T p) : hgt x.2 < hgt p := by
 obtain ⟨t, ts, rows, y, q, e, hk⟩ := kid_cases h
 subst e
 rcases hk with ⟨rfl, hy, hh, _⟩ | ⟨c, hm, rfl, hk⟩
 ·have a := under_cns 255 0 rows
  unfold hgt
  simp only [List.length_cons]
  rw [cn_off, cn_cons]
  omega
 ·clear h
  have a := under_cns c (flds T t c).length rows
  have b := N t c
  unfold hgt
  simp only [List.length_cons, List.length_append]
  rw [cn_off, cn_cons]
  rcases hk with ⟨h, _⟩ | ⟨_, h, _⟩
  ·rw [if_neg h]; omega
  ·have := List.length_pos_iff.mpr h
   omega
theorem kids_nil {T : Types} {p : Prob} (h : p.1 = []) : kids T p = [] := by
 match p, h with
 | ([], _, _), _ => rfl
theorem fl_fuel {T : Types} (N : Nar T) : ∀ (f g : Nat) (p : Prob), hgt p < f -> hgt p < g -> fl T f p = fl T g p
 | 0, _, _, h, _ => by omega
 | _, 0, _, _, h => by omega
 | f + 1, g + 1, p, hf, hg => by
  rw [fl, fl]
  by_cases h : p.1 = []
  ·rw [if_pos h, if_pos h]
  ·rw [if_neg h, if_neg h]
   refine findSome_congr fun x hx => ?_
   have := kid_hgt N hx
   rw [fl_fuel N f g x.2 (by omega) (by omega)]
def flv (T : Types) (p : Prob) : Option (List Nat) := fl T (hgt p + 1) p
theorem fl_flv {T : Types} (N : Nar T) {f : Nat} {p : Prob} (h : hgt p < f) : fl T f p = flv T p := fl_fuel N f _ p h (Nat.lt_succ_self _)
theorem flv_eq {T : Types} (N : Nar T) {p : Prob} (h : p.1 ≠ []) : flv T p = (kids T p).findSome? fun x => (flv T x.2).map (x.1 :: ·) := by
 unfold flv
 rw [fl, if_neg h]
 refine findSome_congr fun x hx => ?_
 have := kid_hgt N hx
 rw [fl_fuel N (hgt p) (hgt x.2 + 1) x.2 (by omega) (by omega)]
theorem flv_nil {T : Types} {p : Prob} (h : p.1 = []) : flv T p = if p.2.1 = [] then some [] else none := by
 unfold flv
 rw [fl, if_pos h]
theorem fl_len {T : Types} : ∀ (f : Nat) (p : Prob) (l : List Nat), fl T f p = some l -> l.length <= f
 | 0, _, _, h => by simp [fl] at h
 | f + 1, p, l, h => by
  rw [fl] at h
  by_cases h1 : p.1 = []
  ·rw [if_pos h1] at h
   by_cases h2 : p.2.1 = []
   ·rw [if_pos h2] at h; simp at h; subst h; simp
   ·rw [if_neg h2] at h; cases h
  ·rw [if_neg h1] at h
   obtain ⟨x, _, e⟩ := List.exists_of_findSome?_eq_some h
   obtain ⟨m, e1, rfl⟩ := Option.map_eq_some_iff.mp e
   have := fl_len f x.2 m e1
   simp; omega
def tsz (T : Types) : Nat -> Prob -> Nat
 | 0, _ => 1
 | f + 1, p => 1 + ((kids T p).map fun x => tsz T f x.2).sum
theorem tsz_fuel {T : Types} (N : Nar T) : ∀ (f g : Nat) (p : Prob), hgt p <= f -> hgt p <= g -> tsz T f p = tsz T g p := by
 have zero : ∀ p, hgt p = 0 -> kids T p = [] := by
  intro p h
  cases e : kids T p with
  | nil => rfl
  | cons x l =>
   have := kid_hgt N (p := p) (x := x) (by rw [e]; exact List.mem_cons_self)
   omega
 intro f
 induction f with
 | zero =>
  intro g p hf hg
  cases g with
  | zero => rfl
  | succ g => rw [tsz, tsz, zero p (by omega)]; simp
 | succ f ih =>
  intro g p hf hg
  cases g with
  | zero => rw [tsz, tsz, zero p (by omega)]; simp
  | succ g =>
   rw [tsz, tsz]
   congr 2
   refine List.map_congr_left fun x hx => ?_
   have := kid_hgt N hx
   exact ih g x.2 (by omega) (by omega)
def tsv (T : Types) (p : Prob) : Nat := tsz T (hgt p) p
theorem tsv_eq {T : Types} (N : Nar T) (p : Prob) : tsv T p = 1 + ((kids T p).map fun x => tsv T x.2).sum := by
 unfold tsv
 rw [tsz_fuel N (hgt p) (hgt p + 1) p (Nat.le_refl _) (Nat.le_succ _), tsz]
 congr 2
 refine List.map_congr_left fun x hx => ?_
 have := kid_hgt N hx
 exact tsz_fuel N _ _ x.2 (by omega) (by omega)
abbrev Ent := List Nat × Prob
def val (T : Types) (e : Ent) : Option (List Nat) := (flv T e.2).map (e.1 ++ ·)
def push (T : Types) (e : Ent) : List Ent := (kids T e.2).map fun x => (e.1 ++ [x.1], x.2)
theorem val_push {T : Types} (N : Nar T) {e : Ent} (h : e.2.1 ≠ []) : (push T e).findSome? (val T) = val T e := by
 unfold push val
 rw [flv_eq N h, findSome_map, List.findSome?_map]
 refine findSome_congr fun x _ => ?_
 simp only [Function.comp]
 cases flv T x.2 <;> simp
def Good (T : Types) (H : Nat) : List Ent -> Prop
 | [] => False
 | x :: st => hgt x.2 < H /\ (val T x ≠ none ∨ Good T H st)
def Stk (H0 : Nat) : List Ent -> Prop
 | [] => True
 | x :: st => st.length <= 16 * (H0 - hgt x.2) /\ hgt x.2 <= H0 /\ Stk H0 st
theorem stk_len {H0 : Nat} : ∀ {st : List Ent}, Stk H0 st -> st.length <= 16 * H0 + 1
 | [], _ => by simp
 | x :: st, h => by
  obtain ⟨a, b, _⟩ := h
  simp
  omega
theorem worth_len (T : Types) (t : Nat) (hs : List Nat) : (worth T t hs).length <= (consOf T t).length := by
 unfold worth
 refine Nat.le_trans (List.length_filter_le _ _) (Nat.le_trans (List.length_filter_le _ _) ?_)
 rw [List.length_range]; exact Nat.le_refl _
def Cons16 (T : Types) : Prop := ∀ t, (consOf T t).length <= 16
theorem Cons16.few {T : Types} (C : Cons16 T) : Few T := fun t => Nat.le_trans (C t) (by decide)
theorem kids_len {T : Types} (C : Cons16 T) (p : Prob) : (kids T p).length <= 16 := by
 match p with
 | ([], _, _) => simp [kids]
 | (_ :: _, _, []) => simp [kids]
 | (t :: ts, rows, y :: q) =>
  rw [kids_cons]
  have := worth_len T t (headsF rows)
  have := C t
  split
  ·split <;> simp
  ·split
   ·simp
   ·split
    ·simp
    ·simp; omega
theorem stk_push {H0 : Nat} {e : Ent} {st : List Ent} (a : st.length <= 16 * (H0 - hgt e.2)) (b : hgt e.2 <= H0) (hs : Stk H0 st) : ∀ (l : List Ent), l.length <= 16 -> (∀ x ∈ l, hgt x.2 < hgt e.2) -> Stk H0 (l ++ st)
 | [], _, _ => hs
 | x :: l, hl, hx => by
  have h1 := hx x List.mem_cons_self
  simp at hl
  refine ⟨?_, by omega, stk_push a b hs l (by omega) fun y hy => hx y (List.mem_cons_of_mem _ hy)⟩
  show (l ++ st).length <= _
  rw [List.length_append]
  omega
theorem push_hgt {T : Types} (N : Nar T) {e x : Ent} (h : x ∈ push T e) : hgt x.2 < hgt e.2 := by
 unfold push at h
 obtain ⟨y, hy, rfl⟩ := List.mem_map.mp h
 exact kid_hgt N hy
theorem good_app {T : Types} {H : Nat} {st : List Ent} : ∀ {l : List Ent}, (∀ x ∈ l, hgt x.2 < H) -> ((∃ x ∈ l, val T x ≠ none) ∨ Good T H st) -> Good T H (l ++ st)
 | [], _, h => by
  rcases h with ⟨x, hx, _⟩ | h
  ·simp at hx
  ·exact h
 | y :: l, hl, h => by
  refine ⟨hl y List.mem_cons_self, ?_⟩
  by_cases q : val T y = none
  ·right
   refine good_app (fun x hx => hl x (List.mem_cons_of_mem _ hx)) ?_
   rcases h with ⟨x, hx, hv⟩ | h
   ·rcases List.mem_cons.mp hx with rfl | hx
    ·exact absurd q hv
    ·exact .inl ⟨x, hx, hv⟩
   ·exact .inr h
  ·exact .inl q
structure Loop (T : Types) (ans : Option (List Nat)) (H0 : Nat) (Q : Prob -> Prop) (st : List Ent) (tried : List Prob) : Prop where
 ans : st.findSome? (val T) = ans
 mem : ∀ P ∈ tried, flv T P ≠ none -> Good T (hgt P) st
 stk : Stk H0 st
 told : ∀ e ∈ st, e.1.length + hgt e.2 <= H0
 q : ∀ e ∈ st, Q e.2
 tq : ∀ P ∈ tried, Q P /\ P.1 ≠ []
 nd : tried.Nodup
def msr (T : Types) (st : List Ent) : Nat := (st.map fun e => tsv T e.2).sum
theorem msr_push {T : Types} (N : Nar T) (e : Ent) (st : List Ent) : msr T (push T e ++ st) < msr T (e :: st) := by
 unfold msr push
 rw [List.map_append, List.sum_append, List.map_cons, List.sum_cons, tsv_eq N e.2, List.map_map]
 have : ((fun (e : Ent) => tsv T e.2) ∘ fun (x : Nat × Prob) => (e.1 ++ [x.1], x.2)) = fun x => tsv T x.2 := rfl
 rw [this]
 omega
theorem tsv_pos {T : Types} (N : Nar T) (p : Prob) : 0 < tsv T p := by rw [tsv_eq N]; omega
theorem msr_pop {T : Types} (N : Nar T) (e : Ent) (st : List Ent) : msr T st < msr T (e :: st) := by
 unfold msr
 have := tsv_pos N e.2
 rw [List.map_cons, List.sum_cons]
 omega
theorem Loop.start {T : Types} {Q : Prob -> Prop} (p : Prob) (h : Q p) : Loop T (flv T p) (hgt p) Q [([], p)] [] where
 ans := by simp [val]
 mem := by simp
 stk := ⟨by simp, Nat.le_refl _, trivial⟩
 told := by simp
 q := by simpa using h
 tq := by simp
 nd := List.nodup_nil
theorem Loop.empty {T : Types} {ans : Option (List Nat)} {H0 : Nat} {Q : Prob -> Prop} {tried : List Prob} (L : Loop T ans H0 Q [] tried) : ans = none := by
 have := L.ans
 simpa using this.symm
theorem Loop.found {T : Types} {ans : Option (List Nat)} {H0 : Nat} {Q : Prob -> Prop} {e : Ent} {st : List Ent} {tried : List Prob} (L : Loop T ans H0 Q (e :: st) tried) (h1 : e.2.1 = []) (h2 : e.2.2.1 = []) : ans = some e.1 := by
 have := L.ans
 rw [List.findSome?_cons] at this
 have v : val T e = some e.1 := by unfold val; rw [flv_nil h1, if_pos h2]; simp
 rw [v] at this
 exact this.symm
theorem Loop.drop {T : Types} {ans : Option (List Nat)} {H0 : Nat} {Q : Prob -> Prop} {e : Ent} {st : List Ent} {tried : List Prob} (L : Loop T ans H0 Q (e :: st) tried) (h : val T e = none) : Loop T ans H0 Q st tried where
 ans := by
  have := L.ans
  rw [List.findSome?_cons, h] at this
  exact this
 mem := fun P hP hf => by
  obtain ⟨_, g⟩ := L.mem P hP hf
  rcases g with g | g
  ·exact absurd h g
  ·exact g
 stk := L.stk.2.2
 told := fun x hx => L.told x (List.mem_cons_of_mem _ hx)
 q := fun x hx => L.q x (List.mem_cons_of_mem _ hx)
 tq := L.tq
 nd := L.nd
theorem Loop.caught {T : Types} {ans : Option (List Nat)} {H0 : Nat} {Q : Prob -> Prop} {e : Ent} {st : List Ent} {tried : List Prob} (L : Loop T ans H0 Q (e :: st) tried) (h1 : e.2.1 = []) (h2 : e.2.2.1 ≠ []) : Loop T ans H0 Q st tried :=
 L.drop (by unfold val; rw [flv_nil h1, if_neg h2]; rfl)
theorem Loop.again {T : Types} {ans : Option (List Nat)} {H0 : Nat} {Q : Prob -> Prop} {e : Ent} {st : List Ent} {tried : List Prob} (L : Loop T ans H0 Q (e :: st) tried) (h : e.2 ∈ tried) : Loop T ans H0 Q st tried := by
 refine L.drop ?_
 by_cases f : flv T e.2 = none
 ·unfold val; rw [f]; rfl
 ·exact absurd (L.mem _ h f).1 (Nat.lt_irrefl _)
theorem Loop.new {T : Types} (N : Nar T) (C : Cons16 T) {ans : Option (List Nat)} {H0 : Nat} {Q : Prob -> Prop} {e : Ent} {st : List Ent} {tried : List Prob} (L : Loop T ans H0 Q (e :: st) tried) (h1 : e.2.1 ≠ []) (h : e.2 ∉ tried)
  (hQ : ∀ x ∈ kids T e.2, Q x.2) : Loop T ans H0 Q (push T e ++ st) (tried ++ [e.2]) where
 ans := by
  have := L.ans
  rw [List.findSome?_cons] at this
  rw [List.findSome?_append, val_push N h1, <- this]
  cases val T e <;> rfl
 mem := fun P hP hf => by
  rcases List.mem_append.mp hP with hP | hP
  ·obtain ⟨a, g⟩ := L.mem P hP hf
   refine good_app (fun x hx => Nat.lt_trans (push_hgt N hx) a) ?_
   rcases g with g | g
   ·left
    rw [<- val_push N h1] at g
    obtain ⟨v, hv⟩ := Option.ne_none_iff_exists'.mp g
    obtain ⟨x, hx, hxv⟩ := List.exists_of_findSome?_eq_some hv
    exact ⟨x, hx, by rw [hxv]; simp⟩
   ·exact .inr g
  ·simp at hP
   subst hP
   refine good_app (fun x hx => push_hgt N hx) (.inl ?_)
   have g : val T e ≠ none := by unfold val; simpa using hf
   rw [<- val_push N h1] at g
   obtain ⟨v, hv⟩ := Option.ne_none_iff_exists'.mp g
   obtain ⟨x, hx, hxv⟩ := List.exists_of_findSome?_eq_some hv
   exact ⟨x, hx, by rw [hxv]; simp⟩
 stk := stk_push L.stk.1 L.stk.2.1 L.stk.2.2 _ (by unfold push; rw [List.length_map]; exact kids_len C _) fun x hx => push_hgt N hx
 told := fun x hx => by
  rcases List.mem_append.mp hx with hx | hx
  ·have a := push_hgt N hx
   have b := L.told e List.mem_cons_self
   unfold push at hx
   obtain ⟨y, hy, rfl⟩ := List.mem_map.mp hx
   simp at a ⊢
   omega
  ·exact L.told x (List.mem_cons_of_mem _ hx)
 q := fun x hx => by
  rcases List.mem_append.mp hx with hx | hx
  ·unfold push at hx
   obtain ⟨y, hy, rfl⟩ := List.mem_map.mp hx
   exact hQ y hy
  ·exact L.q x (List.mem_cons_of_mem _ hx)
 tq := fun P hP => by
  rcases List.mem_append.mp hP with hP | hP
  ·exact L.tq P hP
  ·simp at hP
   subst hP
   exact ⟨L.q e List.mem_cons_self, h1⟩
 nd := by
  rw [List.nodup_append]
  refine ⟨L.nd, List.pairwise_singleton _ _, fun a ha b hb z => ?_⟩
  simp at hb
  subst hb
  exact h (z ▸ ha)
end MC
namespace MC
open Pc
abbrev PP := List Nat × List (List Pat) × List Pat
def flat (P : PP) : Prob := (P.1, P.2.1.map txts, txts P.2.2)
def OkPP (T : Types) (P : PP) : Prop := (∀ r ∈ P.2.1, OkPs T P.1 r) /\ OkPs T P.1 P.2.2
def spq (c n : Nat) : List Pat -> List Pat
 | .any :: r => List.replicate n .any ++ r
 | .con _ l :: r => l ++ r
 | [] => []
inductive Kid (T : Types) : PP -> PP -> Prop
 | strip {t : Nat} {ts : List Nat} {X : List (List Pat)} {q : List Pat} : headed X = false -> Kid T (t :: ts, X, .any :: q) (ts, X.filterMap default_, q)
 | con {t : Nat} {ts : List Nat} {X : List (List Pat)} {c : Nat} {l q : List Pat} : makes T t c = true -> Kid T (t :: ts, X, .con c l :: q) (flds T t c ++ ts, X.filterMap (special c (flds T t c).length), spq c (flds T t c).length (.con c l :: q))
 | pick {t : Nat} {ts : List Nat} {X : List (List Pat)} {c : Nat} {q : List Pat} : headed X = true -> c ∈ lookedAt T t X -> Kid T (t :: ts, X, .any :: q) (flds T t c ++ ts, X.filterMap (special c (flds T t c).length), spq c (flds T t c).length (.any :: q))
theorem looked_makes {T : Types} {t c : Nat} {X : List (List Pat)} (h : c ∈ lookedAt T t X) : makes T t c = true := by
 unfold lookedAt at h
 simp only [List.mem_filter] at h
 exact h.1.2
theorem off_spq {T : Types} (F : Few T) {t c : Nat} {ts : List Nat} {q : List Pat} (hc : makes T t c = true) (h : OkPs T (t :: ts) q) (hq : (∃ r, q = .any :: r) ∨ ∃ l r, q = .con c l :: r) : offF c (flds T t c).length (txts q) = txts (spq c (flds T t c).length q) := by
 have e := F.ne (makes_fields hc).1
 rcases hq with ⟨r, rfl⟩ | ⟨l, r, rfl⟩
 ·simp only [txts, txt, List.cons_append, List.nil_append, offF, spq]
  rw [if_neg (fun z => e z.symm), txts_append, txts_any]
 ·simp only [txts, txt, List.cons_append, offF, spq, if_true, txts_append]
theorem spq_ok {T : Types} {t c : Nat} {ts : List Nat} {q : List Pat} (hc : makes T t c = true) (h : OkPs T (t :: ts) q) (hq : (∃ r, q = .any :: r) ∨ ∃ l r, q = .con c l :: r) : OkPs T (flds T t c ++ ts) (spq c (flds T t c).length q) := by
 have e := (makes_fields hc).1
 rcases hq with ⟨r, rfl⟩ | ⟨l, r, rfl⟩
 ·simp only [OkPs] at h
  exact okps_append (okps_any _) h.2
 ·simp only [OkPs, OkP] at h
  obtain ⟨⟨fs, e2, h1⟩, h2⟩ := h
  rw [e] at e2
  cases e2
  exact okps_append h1 h2
theorem Kid.ok {T : Types} {P P' : PP} (k : Kid T P P') (h : OkPP T P) : OkPP T P' := by
 cases k with
 | strip hh =>
  refine ⟨fun r' h' => ?_, ?_⟩
  ·obtain ⟨r, m, s⟩ := List.mem_filterMap.mp h'
   exact default_ok (h.1 r m) s
  ·have := h.2
   simp only [OkPs] at this
   exact this.2
 | con hm =>
  refine ⟨fun r' h' => ?_, spq_ok hm h.2 (.inr ⟨_, _, rfl⟩)⟩
  obtain ⟨r, m, s⟩ := List.mem_filterMap.mp h'
  exact special_ok (makes_fields hm).1 (h.1 r m) s
 | pick hh hc =>
  have hm := looked_makes hc
  refine ⟨fun r' h' => ?_, spq_ok hm h.2 (.inl ⟨_, rfl⟩)⟩
  obtain ⟨r, m, s⟩ := List.mem_filterMap.mp h'
  exact special_ok (makes_fields hm).1 (h.1 r m) s
theorem kid_pat {T : Types} (F : Few T) {P : PP} (h : OkPP T P) {x : Nat × Prob} (hx : x ∈ kids T (flat P)) : ∃ P', Kid T P P' /\ x.2 = flat P' := by
 obtain ⟨ts0, X, q0⟩ := P
 obtain ⟨t, ts, rows, y, q, e, hk⟩ := kid_cases hx
 clear hx
 unfold flat at e
 simp only [Prod.mk.injEq] at e
 obtain ⟨rfl, rfl, e3⟩ := e
 obtain ⟨hX, hq⟩ := h
 simp only at hX hq
 obtain ⟨hh, hb⟩ := heads_txts F X hX
 match q0, hq, e3 with
 | [], hq, _ => simp [OkPs] at hq
 | .any :: q0, hq, e3 =>
  simp only [txts, txt, List.cons_append, List.nil_append, List.cons.injEq] at e3
  obtain ⟨rfl, rfl⟩ := e3
  rcases hk with ⟨rfl, _, h3, _⟩ | ⟨c, hm, rfl, hk⟩
  ·refine ⟨_, .strip (hh.mp h3), ?_⟩
   unfold flat
   simp only [offF, if_true]
   rw [default_txts F X hX]
  ·rcases hk with ⟨h1, _⟩ | ⟨_, h3, _, h4⟩
   ·exact absurd rfl h1
   ·have hd : headed X = true := by
     cases z : headed X with
     | true => rfl
     | false => exact absurd (hh.mpr z) h3
    rw [worth_eq hb] at h4
    refine ⟨_, .pick hd h4, ?_⟩
    unfold flat
    simp only
    rw [special_txts F (makes_fields hm).1 X hX, <- off_spq F hm hq (.inl ⟨_, rfl⟩)]
    simp [txts, txt]
 | .con d l :: q0, hq, e3 =>
  have hd : d ≠ 255 := by
   simp only [OkPs, OkP] at hq
   obtain ⟨⟨fs, e2, _⟩, _⟩ := hq
   exact F.ne e2
  simp only [txts, txt, List.cons_append, List.cons.injEq] at e3
  obtain ⟨rfl, rfl⟩ := e3
  rcases hk with ⟨_, h2, _⟩ | ⟨c, hm, rfl, hk⟩
  ·exact absurd h2 hd
  ·rcases hk with ⟨_, rfl⟩ | ⟨h1, _⟩
   ·refine ⟨_, .con hm, ?_⟩
    unfold flat
    simp only
    rw [special_txts F (makes_fields hm).1 X hX, <- off_spq F hm hq (.inr ⟨_, _, rfl⟩)]
    simp [txts, txt]
   ·exact absurd h1 hd
abbrev FR := List (Bool × List Pat)
def subs : FR -> List (List (List Pat))
 | [] => [[]]
 | (b, r) :: R => (subs R).map (r :: ·) ++ (if b = true then [] else subs R)
def un (R : FR) : Nat := R.countP fun x => !x.1
theorem subs_len : ∀ R : FR, (subs R).length = 2 ^ un R
 | [] => by simp [subs, un]
 | (b, r) :: R => by
  have ih := subs_len R
  unfold un at *
  simp only [subs, List.length_append, List.length_map, List.countP_cons]
  cases b
  ·simp only [Bool.false_eq_true, if_false, Bool.not_false, if_true, ih, Nat.pow_succ]; omega
  ·simp [ih]
inductive Sb : List (List Pat) -> FR -> Prop
 | nil : Sb [] []
 | keep {X : List (List Pat)} {R : FR} {b : Bool} {r : List Pat} : Sb X R -> Sb (r :: X) ((b, r) :: R)
 | drop {X : List (List Pat)} {R : FR} {r : List Pat} : Sb X R -> Sb X ((false, r) :: R)
theorem Sb.mem {X : List (List Pat)} {R : FR} (h : Sb X R) : X ∈ subs R := by
 induction h with
 | nil => simp [subs]
 | keep _ ih => simp only [subs]; exact List.mem_append_left _ (List.mem_map.mpr ⟨_, ih, rfl⟩)
 | drop _ ih => simp only [subs]; exact List.mem_append_right _ (by simpa using ih)
theorem Sb.of_mem : ∀ {R : FR} {X : List (List Pat)}, X ∈ subs R -> Sb X R
 | [], X, h => by simp [subs] at h; subst h; exact .nil
 | (b, r) :: R, X, h => by
  simp only [subs] at h
  rcases List.mem_append.mp h with h | h
  ·obtain ⟨Y, hY, rfl⟩ := List.mem_map.mp h
   exact .keep (Sb.of_mem hY)
  ·cases b
   ·exact .drop (Sb.of_mem (by simpa using h))
   ·simp at h
theorem Sb.sub {X : List (List Pat)} {R : FR} (h : Sb X R) : ∀ r ∈ X, ∃ b, (b, r) ∈ R := by
 induction h with
 | nil => intro r h; simp at h
 | keep _ ih =>
  intro r h
  rcases List.mem_cons.mp h with rfl | h
  ·exact ⟨_, List.mem_cons_self⟩
  ·obtain ⟨b, hb⟩ := ih r h
   exact ⟨b, List.mem_cons_of_mem _ hb⟩
 | drop _ ih =>
  intro r h
  obtain ⟨b, hb⟩ := ih r h
  exact ⟨b, List.mem_cons_of_mem _ hb⟩
def specB (c n : Nat) (x : Bool × List Pat) : Option (Bool × List Pat) := (special c n x.2).map fun r => (x.1, r)
def dropB (n : Nat) (x : Bool × List Pat) : Bool × List Pat := (x.1, x.2.drop n)
theorem Sb.special {c n : Nat} {X : List (List Pat)} {R : FR} (h : Sb X R) : Sb (X.filterMap (special c n)) (R.filterMap (specB c n)) := by
 induction h with
 | nil => exact .nil
 | @keep X R b r _ ih =>
  rw [List.filterMap_cons, List.filterMap_cons]
  unfold specB
  simp only
  cases Pc.special c n r with
  | none => exact ih
  | some r' => exact .keep ih
 | @drop X R r _ ih =>
  rw [List.filterMap_cons]
  unfold specB
  simp only
  cases Pc.special c n r with
  | none => exact ih
  | some r' => exact .drop ih
theorem Sb.strip {X : List (List Pat)} {R : FR} (h : Sb X R) (hX : ∀ r ∈ X, ∃ r', r = Pat.any :: r') : Sb (X.filterMap default_) (R.map (dropB 1)) := by
 induction h with
 | nil => exact .nil
 | @keep X R b r _ ih =>
  obtain ⟨r', rfl⟩ := hX r List.mem_cons_self
  exact .keep (ih fun r h => hX r (List.mem_cons_of_mem _ h))
 | drop _ ih => exact .drop (ih hX)
inductive SubB : FR -> FR -> Prop
 | nil : SubB [] []
 | keep {R' R : FR} {b' b : Bool} {r : List Pat} : SubB R' R -> (b = true -> b' = true) -> SubB ((b', r) :: R') ((b, r) :: R)
 | drop {R' R : FR} {r : List Pat} : SubB R' R -> SubB R' ((false, r) :: R)
theorem SubB.sb {R' R : FR} (s : SubB R' R) : ∀ {X : List (List Pat)}, Sb X R' -> Sb X R := by
 induction s with
 | nil => intro X h; exact h
 | @keep R' R b' b r s hb ih =>
  intro X h
  cases h with
  | keep h => exact .keep (ih h)
  | drop h =>
   cases b
   ·exact .drop (ih h)
   ·cases hb rfl
 | drop s ih => intro X h; exact .drop (ih h)
def FlagOk (R : FR) : Prop := ∀ r, (true, r) ∈ R -> r.all isAny = true
def OkR (T : Types) (ts : List Nat) (R : FR) : Prop := ∀ x ∈ R, OkPs T ts x.2
theorem spec_drop {T : Types} {t c : Nat} {ts : List Nat} (hm : makes T t c = true) : ∀ {R : FR}, OkR T (t :: ts) R -> FlagOk R -> SubB ((R.filterMap (specB c (flds T t c).length)).map (dropB (flds T t c).length)) (R.map (dropB 1))
 | [], _, _ => .nil
 | (b, r) :: R, ho, hf => by
  have ih := spec_drop hm (R := R) (fun x hx => ho x (List.mem_cons_of_mem _ hx)) (fun r hr => hf r (List.mem_cons_of_mem _ hr))
  have hr := ho _ List.mem_cons_self
  simp only at hr
  match r, hr with
  | [], hr => simp [OkPs] at hr
  | .any :: r, _ =>
   have e : specB c (flds T t c).length (b, .any :: r) = some (b, List.replicate (flds T t c).length .any ++ r) := rfl
   rw [List.filterMap_cons, e]
   simp only [List.map_cons, dropB]
   rw [List.drop_append_of_le_length (by simp), List.drop_eq_nil_of_le (by simp), List.nil_append]
   exact .keep ih id
  | .con d l :: r, hr =>
   simp only [OkPs, OkP] at hr
   obtain ⟨⟨gs, e2, h1⟩, _⟩ := hr
   by_cases q : d = c
   ·subst q
    have e3 : gs = flds T t d := by
     have := (makes_fields hm).1
     rw [e2] at this
     exact Option.some.inj this
    have e : specB d (flds T t d).length (b, .con d l :: r) = some (b, l ++ r) := by simp [specB, special]
    have ll : l.length = (flds T t d).length := by rw [<- okps_len h1, e3]
    rw [List.filterMap_cons, e]
    simp only [List.map_cons, dropB]
    rw [List.drop_append_of_le_length (by omega), List.drop_eq_nil_of_le (by omega), List.nil_append]
    exact .keep ih id
   ·have e : specB c (flds T t c).length (b, .con d l :: r) = none := by simp [specB, special, q]
    rw [List.filterMap_cons, e]
    simp only [List.map_cons, dropB]
    cases b
    ·exact .drop ih
    ·have := hf _ List.mem_cons_self
     simp [isAny] at this
def flagX (X : List (List Pat)) : FR := X.map fun r => (r.all isAny, r)
theorem flag_ok (X : List (List Pat)) : FlagOk (flagX X) := by
 intro r h
 unfold flagX at h
 obtain ⟨r', _, e⟩ := List.mem_map.mp h
 simp only [Prod.mk.injEq] at e
 obtain ⟨e1, rfl⟩ := e
 exact e1
theorem flag_okR {T : Types} {ts : List Nat} {X : List (List Pat)} (h : ∀ r ∈ X, OkPs T ts r) : OkR T ts (flagX X) := by
 intro x hx
 unfold flagX at hx
 obtain ⟨r', hr, rfl⟩ := List.mem_map.mp hx
 exact h r' hr
theorem flag_snd (X : List (List Pat)) : (flagX X).map (·.2) = X := by
 unfold flagX
 rw [List.map_map]
 exact (List.map_congr_left (fun _ _ => rfl)).trans (List.map_id _)
theorem all_rep (n : Nat) (r : List Pat) : (List.replicate n Pat.any ++ r).all isAny = r.all isAny := by
 rw [List.all_append]
 have : (List.replicate n Pat.any).all isAny = true := by
  rw [List.all_eq_true]
  intro x hx
  rw [(List.mem_replicate.mp hx).2]
  rfl
 rw [this, Bool.true_and]
theorem flag_drop {T : Types} {t c : Nat} {ts : List Nat} (hm : makes T t c = true) : ∀ {X : List (List Pat)}, (∀ r ∈ X, OkPs T (t :: ts) r) -> SubB ((flagX (X.filterMap (special c (flds T t c).length))).map (dropB (flds T t c).length)) ((flagX X).map (dropB 1))
 | [], _ => .nil
 | r :: X, ho => by
  have ih := flag_drop hm (X := X) (fun x hx => ho x (List.mem_cons_of_mem _ hx))
  have hr := ho _ List.mem_cons_self
  unfold flagX at ih ⊢
  match r, hr with
  | [], hr => simp [OkPs] at hr
  | .any :: r, _ =>
   have e : special c (flds T t c).length (.any :: r) = some (List.replicate (flds T t c).length .any ++ r) := rfl
   rw [List.filterMap_cons, e]
   simp only [List.map_cons, dropB]
   rw [all_rep, List.drop_append_of_le_length (by simp), List.drop_eq_nil_of_le (by simp), List.nil_append]
   exact .keep ih (by simp [isAny])
  | .con d l :: r, hr =>
   simp only [OkPs, OkP] at hr
   obtain ⟨⟨gs, e2, h1⟩, _⟩ := hr
   by_cases q : d = c
   ·subst q
    have e3 : gs = flds T t d := by
     have := (makes_fields hm).1
     rw [e2] at this
     exact Option.some.inj this
    have e : special d (flds T t d).length (.con d l :: r) = some (l ++ r) := by simp [special]
    have ll : l.length = (flds T t d).length := by rw [<- okps_len h1, e3]
    rw [List.filterMap_cons, e]
    simp only [List.map_cons, dropB]
    rw [List.drop_append_of_le_length (by omega), List.drop_eq_nil_of_le (by omega), List.nil_append]
    exact .keep ih (by simp [isAny])
   ·have e : special c (flds T t c).length (.con d l :: r) = none := by simp [special, q]
    rw [List.filterMap_cons, e]
    simp only [List.map_cons, dropB, List.all_cons, isAny, Bool.false_and]
    exact .drop ih
def innerR (T : Types) (t : Nat) (X : List (List Pat)) : List Pat -> List Nat
 | .con c _ :: _ => if makes T t c = true then [c] else []
 | .any :: _ => if headed X = true then lookedAt T t X else []
 | [] => []
def Lp (T : Types) : Nat -> List Nat -> List Nat -> FR -> List Pat -> List PP
 | 0, _, _, _, _ => []
 | _ + 1, [], _, _, _ => []
 | f + 1, t :: pre, ts, R, q => (subs R).map (fun X => (t :: (pre ++ ts), X, q)) ++
   ((innerR T t (R.map (·.2)) q).flatMap fun c => Lp T f (flds T t c) (pre ++ ts) (R.filterMap (specB c (flds T t c).length)) (spq c (flds T t c).length q)) ++
   Lp T f pre ts (R.map (dropB 1)) (q.drop 1)
def cR (R : FR) : Nat := cns ((R.map (·.2)).map txts)
def FuelOk (f : Nat) (pre : List Nat) (R : FR) (q : List Pat) : Prop := pre.length + 4 * (cR R + cn (txts q)) <= f
def Exit (ts pre : List Nat) (R : FR) (q : List Pat) (P : PP) : Prop := P.1 = ts /\ Sb P.2.1 (R.map (dropB pre.length)) /\ P.2.2 = q.drop pre.length
theorem dropB_zero (R : FR) : R.map (dropB 0) = R := by
 have : dropB 0 = id := by funext x; simp [dropB]
 rw [this, List.map_id]
theorem dropB_succ (R : FR) (n : Nat) : (R.map (dropB 1)).map (dropB n) = R.map (dropB (n + 1)) := by
 rw [List.map_map]
 refine List.map_congr_left fun x _ => ?_
 simp only [Function.comp, dropB, List.drop_drop]
 rw [Nat.add_comm]
theorem Lp_enter {T : Types} {f : Nat} {pre ts : List Nat} {R : FR} {q : List Pat} {X : List (List Pat)} (hf : FuelOk f pre R q) (h : Sb X R) : (pre ++ ts, X, q) ∈ Lp T f pre ts R q ∨ Exit ts pre R q (pre ++ ts, X, q) := by
 cases pre with
 | nil => right; exact ⟨rfl, by rw [List.length_nil, dropB_zero]; exact h, by simp⟩
 | cons t pre =>
  left
  unfold FuelOk at hf
  simp only [List.length_cons] at hf
  obtain ⟨f, rfl⟩ : ∃ g, f = g + 1 := ⟨f - 1, by omega⟩
  rw [Lp]
  exact List.mem_append_left _ (List.mem_append_left _ (List.mem_map.mpr ⟨X, h.mem, rfl⟩))
theorem cn_append (a b : List Nat) : cn (a ++ b) = cn a + cn b := by unfold cn; rw [List.countP_append]
theorem cn_drop1 (r : List Pat) : cn (txts (r.drop 1)) <= cn (txts r) := by
 cases r with
 | nil => simp
 | cons p r => simp only [List.drop_succ_cons, List.drop_zero, txts]; rw [cn_append]; omega
theorem cR_drop1 : ∀ R : FR, cR (R.map (dropB 1)) <= cR R
 | [] => by simp [cR]
 | x :: R => by
  have ih := cR_drop1 R
  unfold cR at *
  simp only [List.map_cons, cns_cons]
  have := cn_drop1 x.2
  simp only [dropB] at this ⊢
  omega
theorem snd_specB (c n : Nat) : ∀ R : FR, (R.filterMap (specB c n)).map (·.2) = (R.map (·.2)).filterMap (special c n)
 | [] => rfl
 | x :: R => by
  have ih := snd_specB c n R
  rw [List.filterMap_cons, List.map_cons, List.filterMap_cons]
  unfold specB at ih ⊢
  cases special c n x.2 with
  | none => simpa using ih
  | some r => simpa using ih
theorem inner_makes {T : Types} {t c : Nat} {X : List (List Pat)} {q : List Pat} (h : c ∈ innerR T t X q) : makes T t c = true /\ ((∃ r, q = .any :: r /\ headed X = true /\ c ∈ lookedAt T t X) ∨ ∃ l r, q = .con c l :: r) := by
 match q, h with
 | [], h => simp [innerR] at h
 | .any :: r, h =>
  simp only [innerR] at h
  by_cases e : headed X = true
  ·rw [if_pos e] at h
   exact ⟨looked_makes h, .inl ⟨r, rfl, e, h⟩⟩
  ·rw [if_neg e] at h; simp at h
 | .con d l :: r, h =>
  simp only [innerR] at h
  by_cases e : makes T t d = true
  ·rw [if_pos e] at h
   simp at h
   subst h
   exact ⟨e, .inr ⟨l, r, rfl⟩⟩
  ·rw [if_neg e] at h; simp at h
theorem inner_q {T : Types} {t c : Nat} {X : List (List Pat)} {q : List Pat} (h : c ∈ innerR T t X q) : (∃ r, q = .any :: r) ∨ ∃ l r, q = .con c l :: r := by
 rcases (inner_makes h).2 with ⟨r, e, _⟩ | e
 ·exact .inl ⟨r, e⟩
 ·exact .inr e
theorem fuel_inner {T : Types} (N : Nar T) (F : Few T) {f t c : Nat} {pre ts : List Nat} {R : FR} {q : List Pat} (ho : OkR T (t :: ts) R) (hq : OkPs T (t :: ts) q) (hc : c ∈ innerR T t (R.map (·.2)) q) (hf : FuelOk (f + 1) (t :: pre) R q) :
  FuelOk f (flds T t c) (R.filterMap (specB c (flds T t c).length)) (spq c (flds T t c).length q) := by
 obtain ⟨hm, hk⟩ := inner_makes hc
 have oX : ∀ r ∈ R.map (·.2), OkPs T (t :: ts) r := by
  intro r hr
  obtain ⟨x, hx, rfl⟩ := List.mem_map.mp hr
  exact ho x hx
 have a := under_cns c (flds T t c).length ((R.map (·.2)).map txts)
 rw [special_txts F (makes_fields hm).1 (ts := ts) (R.map (·.2)) oX, <- snd_specB] at a
 have b := N t c
 unfold FuelOk cR at *
 simp only [List.length_cons] at hf
 rw [<- off_spq F hm hq (inner_q hc)]
 rcases hk with ⟨r, rfl, hh, _⟩ | ⟨l, r, rfl⟩
 ·have hp : headsF ((R.map (·.2)).map txts) ≠ [] := by
   intro z
   have := ((heads_txts F (ts := ts) (R.map (·.2)) oX).1).mp z
   rw [this] at hh
   cases hh
  have := List.length_pos_iff.mpr hp
  simp only [txts, txt, List.cons_append, List.nil_append] at hf ⊢
  rw [cn_off]
  rw [cn_cons] at hf
  simp only [if_true] at hf
  omega
 ·have hc5 := F.ne (makes_fields hm).1
  simp only [txts, txt, List.cons_append] at hf ⊢
  rw [cn_off]
  rw [cn_cons, if_neg hc5] at hf
  omega
theorem fuel_drop {f t : Nat} {pre : List Nat} {R : FR} {q : List Pat} (hf : FuelOk (f + 1) (t :: pre) R q) : FuelOk f pre (R.map (dropB 1)) (q.drop 1) := by
 have a := cR_drop1 R
 have b := cn_drop1 q
 unfold FuelOk at *
 simp only [List.length_cons] at hf
 omega
theorem ok_drop {T : Types} {t : Nat} {ts : List Nat} {r : List Pat} (h : OkPs T (t :: ts) r) : OkPs T ts (r.drop 1) := by
 match r, h with
 | [], h => simp [OkPs] at h
 | p :: r, h => simp only [OkPs] at h; exact h.2
theorem okR_drop {T : Types} {t : Nat} {ts : List Nat} {R : FR} (h : OkR T (t :: ts) R) : OkR T ts (R.map (dropB 1)) := by
 intro x hx
 obtain ⟨y, hy, rfl⟩ := List.mem_map.mp hx
 exact ok_drop (h y hy)
theorem flagOk_drop {R : FR} (h : FlagOk R) : FlagOk (R.map (dropB 1)) := by
 intro r hr
 obtain ⟨y, hy, e⟩ := List.mem_map.mp hr
 unfold dropB at e
 simp only [Prod.mk.injEq] at e
 obtain ⟨e1, rfl⟩ := e
 have := h y.2 (by rw [<- e1]; exact hy)
 rw [List.all_eq_true] at this ⊢
 exact fun p hp => this p (List.mem_of_mem_drop hp)
theorem okR_spec {T : Types} {t c : Nat} {ts : List Nat} {R : FR} (hm : makes T t c = true) (h : OkR T (t :: ts) R) : OkR T (flds T t c ++ ts) (R.filterMap (specB c (flds T t c).length)) := by
 intro x hx
 obtain ⟨y, hy, e⟩ := List.mem_filterMap.mp hx
 unfold specB at e
 obtain ⟨r, e1, rfl⟩ := Option.map_eq_some_iff.mp e
 exact special_ok (makes_fields hm).1 (h y hy) e1
theorem flagOk_spec {c n : Nat} {R : FR} (h : FlagOk R) : FlagOk (R.filterMap (specB c n)) := by
 intro r hr
 obtain ⟨y, hy, e⟩ := List.mem_filterMap.mp hr
 unfold specB at e
 obtain ⟨r', e1, e2⟩ := Option.map_eq_some_iff.mp e
 simp only [Prod.mk.injEq] at e2
 obtain ⟨e2, rfl⟩ := e2
 have ha := h y.2 (by rw [<- e2]; exact hy)
 match y.2, ha, e1 with
 | .any :: r0, ha, e1 =>
  simp only [special, Option.some.injEq] at e1
  subst e1
  rw [all_rep]
  simpa [isAny] using ha
 | .con _ _ :: _, ha, _ => simp [isAny] at ha
 | [], _, e1 => simp [special] at e1
theorem headed_mono {X Y : List (List Pat)} (h : ∀ r ∈ X, r ∈ Y) (k : headed X = true) : headed Y = true := by
 unfold headed at *
 rw [List.any_eq_true] at *
 obtain ⟨r, hr, q⟩ := k
 exact ⟨r, h r hr, q⟩
theorem begins_mono {X Y : List (List Pat)} {c : Nat} (h : ∀ r ∈ X, r ∈ Y) (k : begins X c = true) : begins Y c = true := by
 unfold begins at *
 rw [List.any_eq_true] at *
 obtain ⟨r, hr, q⟩ := k
 exact ⟨r, h r hr, q⟩
theorem find_first {p q : Nat -> Bool} : ∀ {l : List Nat} {c : Nat}, (∀ x, q x = true -> p x = true) -> l.find? p = some c -> q c = true -> l.find? q = some c
 | [], _, _, h, _ => by simp at h
 | a :: l, c, hm, h, hq => by
  rw [List.find?_cons] at h ⊢
  cases e : p a with
  | true =>
   rw [e] at h
   simp at h
   subst h
   rw [hq]
  | false =>
   rw [e] at h
   have : q a = false := by
    cases z : q a with
    | false => rfl
    | true => rw [hm a z] at e; cases e
   rw [this]
   exact find_first hm h hq
theorem looked_mono {T : Types} {t c : Nat} {X Y : List (List Pat)} (h : ∀ r ∈ X, r ∈ Y) (k : c ∈ lookedAt T t X) : c ∈ lookedAt T t Y := by
 unfold lookedAt at *
 simp only [List.mem_filter, Bool.or_eq_true, beq_iff_eq] at *
 refine ⟨k.1, ?_⟩
 rcases k.2 with k | k
 ·exact .inl (begins_mono h k)
 ·by_cases b : begins Y c = true
  ·exact .inl b
  ·right
   refine find_first (fun x hx => ?_) k (by simpa using b)
   cases z : begins X x with
   | false => rfl
   | true => rw [begins_mono h z] at hx; cases hx
theorem not_headed {T : Types} {t : Nat} {ts : List Nat} {X : List (List Pat)} (ho : ∀ r ∈ X, OkPs T (t :: ts) r) (h : headed X = false) : ∀ r ∈ X, ∃ r', r = Pat.any :: r' := by
 intro r hr
 have hok := ho r hr
 match r, hok with
 | [], hok => simp [OkPs] at hok
 | .any :: r', _ => exact ⟨r', rfl⟩
 | .con d l :: r', _ =>
  unfold headed at h
  have := (List.any_eq_false.mp h) _ hr
  simp at this
theorem spq_drop {T : Types} {t c : Nat} {ts : List Nat} {q : List Pat} (hm : makes T t c = true) (h : OkPs T (t :: ts) q) (hq : (∃ r, q = .any :: r) ∨ ∃ l r, q = .con c l :: r) : (spq c (flds T t c).length q).drop (flds T t c).length = q.drop 1 := by
 rcases hq with ⟨r, rfl⟩ | ⟨l, r, rfl⟩
 ·simp only [spq]
  rw [List.drop_append_of_le_length (by simp), List.drop_eq_nil_of_le (by simp), List.nil_append]
  rfl
 ·simp only [OkPs, OkP] at h
  obtain ⟨⟨gs, e2, h1⟩, _⟩ := h
  have e3 : gs = flds T t c := by
   have := (makes_fields hm).1
   rw [e2] at this
   exact Option.some.inj this
  have ll : l.length = (flds T t c).length := by rw [<- okps_len h1, e3]
  simp only [spq]
  rw [List.drop_append_of_le_length (by omega), List.drop_eq_nil_of_le (by omega), List.nil_append]
  rfl
theorem Lp_closed {T : Types} (N : Nar T) (F : Few T) : ∀ (f : Nat) (pre ts : List Nat) (R : FR) (q : List Pat), OkR T (pre ++ ts) R -> OkPs T (pre ++ ts) q -> FlagOk R -> FuelOk f pre R q ->
  ∀ P ∈ Lp T f pre ts R q, ∀ P', Kid T P P' -> P' ∈ Lp T f pre ts R q ∨ Exit ts pre R q P'
 | 0, _, _, _, _, _, _, _, _, P, hP, _, _ => by simp [Lp] at hP
 | f + 1, [], _, _, _, _, _, _, _, P, hP, _, _ => by simp [Lp] at hP
 | f + 1, t :: pre, ts, R, q, ho, hq, hg, hf, P, hP, P', hk => by
  have ho' : OkR T (t :: (pre ++ ts)) R := ho
  have hq' : OkPs T (t :: (pre ++ ts)) q := hq
  have third : ∀ {P : PP}, (P ∈ Lp T f pre ts (R.map (dropB 1)) (q.drop 1) ∨ Exit ts pre (R.map (dropB 1)) (q.drop 1) P) -> P ∈ Lp T (f + 1) (t :: pre) ts R q ∨ Exit ts (t :: pre) R q P := by
   intro P h
   rcases h with h | ⟨h1, h2, h3⟩
   ·left; rw [Lp]; exact List.mem_append_right _ h
   ·right
    refine ⟨h1, ?_, ?_⟩
    ·rw [dropB_succ] at h2; exact h2
    ·rw [h3, List.drop_drop, List.length_cons, Nat.add_comm]
  have second : ∀ {P : PP} {c : Nat}, c ∈ innerR T t (R.map (·.2)) q -> (P ∈ Lp T f (flds T t c) (pre ++ ts) (R.filterMap (specB c (flds T t c).length)) (spq c (flds T t c).length q) ∨ Exit (pre ++ ts) (flds T t c) (R.filterMap (specB c (flds T t c).length)) (spq c (flds T t c).length q) P) ->
    P ∈ Lp T (f + 1) (t :: pre) ts R q ∨ Exit ts (t :: pre) R q P := by
   intro P c hc h
   have hm := (inner_makes hc).1
   rcases h with h | ⟨h1, h2, h3⟩
   ·left
    rw [Lp]
    exact List.mem_append_left _ (List.mem_append_right _ (List.mem_flatMap.mpr ⟨c, hc, h⟩))
   ·refine third ?_
    have s := (spec_drop hm ho' hg).sb h2
    have e : P = (pre ++ ts, P.2.1, q.drop 1) := by
     rw [<- spq_drop hm hq' (inner_q hc), <- h3, <- h1]
    rw [e]
    exact Lp_enter (fuel_drop hf) s
  rw [Lp] at hP
  rcases List.mem_append.mp hP with hP | hP
  ·rcases List.mem_append.mp hP with hP | hP
   ·obtain ⟨X, hX, rfl⟩ := List.mem_map.mp hP
    have hS := Sb.of_mem hX
    have hsub : ∀ r ∈ X, r ∈ R.map (·.2) := fun r hr => by
     obtain ⟨b, hb⟩ := hS.sub r hr
     exact List.mem_map.mpr ⟨_, hb, rfl⟩
    have oX : ∀ r ∈ X, OkPs T (t :: (pre ++ ts)) r := fun r hr => by
     obtain ⟨b, hb⟩ := hS.sub r hr
     exact ho' _ hb
    cases hk with
    | @strip _ _ _ q0 hh =>
     refine third ?_
     have := hS.strip (not_headed oX hh)
     exact Lp_enter (q := (Pat.any :: q0).drop 1) (fuel_drop hf) this
    | @con _ _ _ c l q0 hm =>
     have hc : c ∈ innerR T t (R.map (·.2)) (.con c l :: q0) := by simp [innerR, hm]
     exact second hc (Lp_enter (fuel_inner N F ho' hq' hc hf) hS.special)
    | @pick _ _ _ c q0 hh hcX =>
     have hc : c ∈ innerR T t (R.map (·.2)) (.any :: q0) := by
      simp only [innerR]
      rw [if_pos (headed_mono hsub hh)]
      exact looked_mono hsub hcX
     exact second hc (Lp_enter (fuel_inner N F ho' hq' hc hf) hS.special)
   ·obtain ⟨c, hc, hP⟩ := List.mem_flatMap.mp hP
    have hm := (inner_makes hc).1
    exact second hc (Lp_closed N F f _ _ _ _ (okR_spec hm ho') (spq_ok hm hq' (inner_q hc)) (flagOk_spec hg) (fuel_inner N F ho' hq' hc hf) P hP P' hk)
  ·exact third (Lp_closed N F f _ _ _ _ (okR_drop ho') (ok_drop hq') (flagOk_drop hg) (fuel_drop hf) P hP P' hk)
end MC
namespace MC
open Pc
def anyHead : List Pat -> Bool
 | .any :: _ => true
 | _ => false
def LE (T : Types) : Nat -> List Nat -> List Nat -> List (List Pat) -> List Pat -> List PP
 | 0, _, _, _, _ => []
 | _ + 1, [], _, _, _ => []
 | f + 1, t :: pre, ts, X, q => (t :: (pre ++ ts), X, q) ::
   (if (anyHead q && !headed X) = true then LE T f pre ts (X.filterMap default_) (q.drop 1)
    else ((innerR T t X q).flatMap fun c => LE T f (flds T t c) (pre ++ ts) (X.filterMap (special c (flds T t c).length)) (spq c (flds T t c).length q)) ++
    Lp T f pre ts ((flagX X).map (dropB 1)) (q.drop 1))
theorem sb_flag : ∀ X : List (List Pat), Sb X (flagX X)
 | [] => .nil
 | _ :: X => .keep (sb_flag X)
theorem LE_enter {T : Types} {f : Nat} {pre ts : List Nat} {X : List (List Pat)} {q : List Pat} (hf : FuelOk f pre (flagX X) q) : (pre ++ ts, X, q) ∈ LE T f pre ts X q ∨ Exit ts pre (flagX X) q (pre ++ ts, X, q) := by
 cases pre with
 | nil => right; exact ⟨rfl, by rw [List.length_nil, dropB_zero]; exact sb_flag X, by simp⟩
 | cons t pre =>
  left
  unfold FuelOk at hf
  simp only [List.length_cons] at hf
  obtain ⟨f, rfl⟩ : ∃ g, f = g + 1 := ⟨f - 1, by omega⟩
  rw [LE]
  exact List.mem_cons_self
theorem flag_strip : ∀ {X : List (List Pat)}, (∀ r ∈ X, ∃ r', r = Pat.any :: r') -> flagX (X.filterMap default_) = (flagX X).map (dropB 1)
 | [], _ => rfl
 | r :: X, h => by
  have ih := flag_strip (X := X) fun r hr => h r (List.mem_cons_of_mem _ hr)
  obtain ⟨r', rfl⟩ := h r List.mem_cons_self
  have e : default_ (.any :: r') = some r' := rfl
  rw [List.filterMap_cons, e]
  unfold flagX at ih ⊢
  simp only [List.map_cons, ih, dropB, List.all_cons, isAny, Bool.true_and, List.drop_succ_cons, List.drop_zero]
theorem fuel_congr {f : Nat} {pre : List Nat} {R R' : FR} {q : List Pat} (e : R.map (·.2) = R'.map (·.2)) (h : FuelOk f pre R q) : FuelOk f pre R' q := by
 unfold FuelOk cR at *
 rw [<- e]
 exact h
theorem LE_closed {T : Types} (N : Nar T) (F : Few T) : ∀ (f : Nat) (pre ts : List Nat) (X : List (List Pat)) (q : List Pat), (∀ r ∈ X, OkPs T (pre ++ ts) r) -> OkPs T (pre ++ ts) q -> FuelOk f pre (flagX X) q ->
  ∀ P ∈ LE T f pre ts X q, ∀ P', Kid T P P' -> P' ∈ LE T f pre ts X q ∨ Exit ts pre (flagX X) q P'
 | 0, _, _, _, _, _, _, _, P, hP, _, _ => by simp [LE] at hP
 | f + 1, [], _, _, _, _, _, _, P, hP, _, _ => by simp [LE] at hP
 | f + 1, t :: pre, ts, X, q, ho, hq, hf, P, hP, P', hk => by
  have ho' : ∀ r ∈ X, OkPs T (t :: (pre ++ ts)) r := ho
  have hq' : OkPs T (t :: (pre ++ ts)) q := hq
  have oR := flag_okR ho'
  by_cases hc : (anyHead q && !headed X) = true
  ·-- nothing is headed: on with the next column
   have hh : headed X = false := by
    rw [Bool.and_eq_true] at hc
    simpa using hc.2
   have fs := flag_strip (not_headed ho' hh)
   have third : ∀ {P : PP}, (P ∈ LE T f pre ts (X.filterMap default_) (q.drop 1) ∨ Exit ts pre (flagX (X.filterMap default_)) (q.drop 1) P) -> P ∈ LE T (f + 1) (t :: pre) ts X q ∨ Exit ts (t :: pre) (flagX X) q P := by
    intro P h
    rcases h with h | ⟨h1, h2, h3⟩
    ·left; rw [LE, if_pos hc]; exact List.mem_cons_of_mem _ h
    ·right
     refine ⟨h1, ?_, ?_⟩
     ·rw [fs, dropB_succ] at h2; exact h2
     ·rw [h3, List.drop_drop, List.length_cons, Nat.add_comm]
   have fl' : FuelOk f pre (flagX (X.filterMap default_)) (q.drop 1) := by rw [fs]; exact fuel_drop hf
   rw [LE, if_pos hc] at hP
   rcases List.mem_cons.mp hP with rfl | hP
   ·cases hk with
    | @strip _ _ _ q0 _ => exact third (LE_enter (q := (Pat.any :: q0).drop 1) fl')
    | con hm => simp [anyHead] at hc
    | pick h _ => rw [hh] at h; cases h
   ·refine third (LE_closed N F f _ _ _ _ (fun r' h' => ?_) (ok_drop hq') fl' P hP P' hk)
    obtain ⟨r, m, s⟩ := List.mem_filterMap.mp h'
    exact default_ok (ho' r m) s
  ·have third : ∀ {P : PP}, (P ∈ Lp T f pre ts ((flagX X).map (dropB 1)) (q.drop 1) ∨ Exit ts pre ((flagX X).map (dropB 1)) (q.drop 1) P) -> P ∈ LE T (f + 1) (t :: pre) ts X q ∨ Exit ts (t :: pre) (flagX X) q P := by
    intro P h
    rcases h with h | ⟨h1, h2, h3⟩
    ·left; rw [LE, if_neg hc]; exact List.mem_cons_of_mem _ (List.mem_append_right _ h)
    ·right
     refine ⟨h1, ?_, ?_⟩
     ·rw [dropB_succ] at h2; exact h2
     ·rw [h3, List.drop_drop, List.length_cons, Nat.add_comm]
   have second : ∀ {P : PP} {c : Nat}, c ∈ innerR T t X q -> (P ∈ LE T f (flds T t c) (pre ++ ts) (X.filterMap (special c (flds T t c).length)) (spq c (flds T t c).length q) ∨ Exit (pre ++ ts) (flds T t c) (flagX (X.filterMap (special c (flds T t c).length))) (spq c (flds T t c).length q) P) ->
     P ∈ LE T (f + 1) (t :: pre) ts X q ∨ Exit ts (t :: pre) (flagX X) q P := by
    intro P c hcc h
    have hm := (inner_makes hcc).1
    rcases h with h | ⟨h1, h2, h3⟩
    ·left
     rw [LE, if_neg hc]
     exact List.mem_cons_of_mem _ (List.mem_append_left _ (List.mem_flatMap.mpr ⟨c, hcc, h⟩))
    ·refine third ?_
     have s := (flag_drop hm ho').sb h2
     have e : P = (pre ++ ts, P.2.1, q.drop 1) := by
      rw [<- spq_drop hm hq' (inner_q hcc), <- h3, <- h1]
     rw [e]
     exact Lp_enter (fuel_drop hf) s
   have fin : ∀ {c : Nat}, c ∈ innerR T t X q -> FuelOk f (flds T t c) (flagX (X.filterMap (special c (flds T t c).length))) (spq c (flds T t c).length q) := by
    intro c hcc
    have := fuel_inner N F (ts := pre ++ ts) (R := flagX X) oR hq' (by rw [flag_snd]; exact hcc) hf
    refine fuel_congr ?_ this
    rw [snd_specB, flag_snd, flag_snd]
   rw [LE, if_neg hc] at hP
   rcases List.mem_cons.mp hP with rfl | hP
   ·cases hk with
    | strip hh => simp [anyHead, hh] at hc
    | @con _ _ _ c l q0 hm =>
     have hcc : c ∈ innerR T t X (.con c l :: q0) := by simp [innerR, hm]
     exact second hcc (LE_enter (fin hcc))
    | @pick _ _ _ c q0 hh hcX =>
     have hcc : c ∈ innerR T t X (.any :: q0) := by
      simp only [innerR]
      rw [if_pos hh]
      exact hcX
     exact second hcc (LE_enter (fin hcc))
   ·rcases List.mem_append.mp hP with hP | hP
    ·obtain ⟨c, hcc, hP⟩ := List.mem_flatMap.mp hP
     have hm := (inner_makes hcc).1
     refine second hcc (LE_closed N F f _ _ _ _ (fun r' h' => ?_) (spq_ok hm hq' (inner_q hcc)) (fin hcc) P hP P' hk)
     obtain ⟨r, m, s⟩ := List.mem_filterMap.mp h'
     exact special_ok (makes_fields hm).1 (ho' r m) s
    ·exact third (Lp_closed N F f _ _ _ _ (okR_drop oR) (ok_drop hq') (flagOk_drop (flag_ok X)) (fuel_drop hf) P hP P' hk)
def ex (p : Pat) : Nat := (txt p).length - 1
def exn : Nat -> List Pat -> Nat
 | 0, _ => 0
 | _ + 1, [] => 0
 | n + 1, p :: r => ex p + exn n r
def exs (n : Nat) (X : List (List Pat)) : Nat := (X.map (exn n)).sum
def Vw (n : Nat) (X : List (List Pat)) (q : List Pat) : Nat := n + exs n X + exn n q
def hd1 (X : List (List Pat)) (q : List Pat) : Nat := if (headed X || !anyHead q) = true then 1 else 0
def tails (X : List (List Pat)) : List (List Pat) := X.map (List.drop 1)
def Gw : Nat -> List (List Pat) -> List Pat -> Nat
 | 0, _, _ => 0
 | n + 1, X, q => 1 + 2 * hd1 X q + 3 * (exs 1 X + exn 1 q) + Gw n (tails X) (q.drop 1)
theorem exn_succ (n : Nat) (r : List Pat) : exn (n + 1) r = exn 1 r + exn n (r.drop 1) := by
 cases r with
 | nil => cases n <;> simp [exn]
 | cons p r => simp [exn]
theorem exs_succ (n : Nat) : ∀ X, exs (n + 1) X = exs 1 X + exs n (tails X)
 | [] => by simp [exs, tails]
 | r :: X => by
  have ih := exs_succ n X
  unfold exs tails at *
  simp only [List.map_cons, List.sum_cons]
  rw [ih, exn_succ n r]
  omega
theorem Gw_le : ∀ (n : Nat) (X : List (List Pat)) (q : List Pat), Gw n X q <= 3 * Vw n X q
 | 0, X, q => by simp [Gw]
 | n + 1, X, q => by
  have ih := Gw_le n (tails X) (q.drop 1)
  unfold Vw at *
  rw [Gw, exs_succ n X, exn_succ n q]
  have : hd1 X q <= 1 := by unfold hd1; split <;> omega
  omega
theorem ex_con (c : Nat) (l : List Pat) : ex (.con c l) = (txts l).length := by simp [ex, txt]
theorem exn_rep : ∀ (n : Nat) (r : List Pat), exn n (List.replicate n Pat.any ++ r) = 0
 | 0, r => rfl
 | n + 1, r => by
  rw [List.replicate_succ, List.cons_append]
  simp [exn, exn_rep n r, ex, txt]
theorem exn_full : ∀ (l r : List Pat), exn l.length (l ++ r) + l.length = (txts l).length
 | [], r => by simp [exn, txts]
 | p :: l, r => by
  have ih := exn_full l r
  have : 0 < (txt p).length := List.length_pos_iff.mpr (txt_ne p)
  simp only [List.length_cons, List.cons_append, exn, txts, List.length_append, ex]
  omega
theorem sum_zero : ∀ {l : List Nat}, (∀ x ∈ l, x = 0) -> l.sum = 0
 | [], _ => rfl
 | a :: l, h => by rw [List.sum_cons, h a List.mem_cons_self, sum_zero fun x hx => h x (List.mem_cons_of_mem _ hx)]
def bh (c : Nat) : List Pat -> Bool
 | .con d _ :: _ => d == c
 | _ => false
theorem begins_cons (c : Nat) (r : List Pat) (X : List (List Pat)) : begins (r :: X) c = (bh c r || begins X c) := rfl
def wat (c : Nat) : List Pat -> Nat
 | .con d l :: _ => if d = c then ex (.con d l) else 0
 | _ => 0
def yat (c : Nat) (X : List (List Pat)) : Nat := (X.map (wat c)).sum
theorem wat_le (c : Nat) (r : List Pat) : wat c r <= exn 1 r := by
 match r with
 | [] => simp [wat]
 | .any :: r => simp [wat]
 | .con d l :: r =>
  simp only [wat, exn]
  split <;> omega
theorem wat_sum : ∀ {L : List Nat} (r : List Pat), L.Nodup -> (L.map fun c => wat c r).sum <= exn 1 r
 | [], r, _ => by simp
 | c :: L, r, h => by
  rw [List.nodup_cons] at h
  have ih := wat_sum (L := L) r h.2
  rw [List.map_cons, List.sum_cons]
  match r, ih with
  | [], ih => simp [wat, exn] at ih ⊢; exact ih
  | .any :: r, ih => simp only [wat, Nat.zero_add] at ih ⊢; exact ih
  | .con d l :: r, ih =>
   by_cases e : d = c
   ·subst e
    have z : (L.map fun c => wat c (.con d l :: r)).sum = 0 := by
     refine sum_zero ?_
     intro x hx
     obtain ⟨c, hc, rfl⟩ := List.mem_map.mp hx
     simp only [wat]
     by_cases q : d = c
     ·exact absurd (q ▸ hc) h.1
     ·rw [if_neg q]
    rw [z, Nat.add_zero]
    exact wat_le _ _
   ·simp only [wat] at ih ⊢
    rw [if_neg e]
    omega
theorem yat_sum {L : List Nat} (h : L.Nodup) : ∀ X : List (List Pat), (L.map fun c => yat c X).sum <= exs 1 X
 | [] => by
  have : (L.map fun c => yat c []).sum = 0 := by
   refine sum_zero ?_
   intro x hx
   obtain ⟨c, _, rfl⟩ := List.mem_map.mp hx
   rfl
  rw [this]
  exact Nat.zero_le _
 | r :: X => by
  have ih := yat_sum h X
  have a := wat_sum r h
  have e : (L.map fun c => yat c (r :: X)).sum = (L.map fun c => wat c r).sum + (L.map fun c => yat c X).sum := by
   clear ih a h
   induction L with
   | nil => rfl
   | cons c L ih =>
    simp only [List.map_cons, List.sum_cons, ih]
    unfold yat
    simp only [List.map_cons, List.sum_cons]
    omega
  rw [e]
  unfold exs at *
  simp only [List.map_cons, List.sum_cons]
  omega
theorem exn_special {T : Types} {t c : Nat} {ts : List Nat} (hm : makes T t c = true) {r r' : List Pat} (h : OkPs T (t :: ts) r) (s : special c (flds T t c).length r = some r') :
  (exn (flds T t c).length r' = 0 /\ wat c r = 0 /\ (∃ r0, r = .any :: r0)) ∨ (exn (flds T t c).length r' + (flds T t c).length = wat c r /\ ∃ l r0, r = .con c l :: r0) := by
 match r, h, s with
 | .any :: r, h, s =>
  simp only [special, Option.some.injEq] at s
  subst s
  exact .inl ⟨exn_rep _ _, rfl, r, rfl⟩
 | .con d l :: r, h, s =>
  simp only [special] at s
  by_cases q : d = c
  ·rw [if_pos q] at s
   simp only [Option.some.injEq] at s
   subst s q
   simp only [OkPs, OkP] at h
   obtain ⟨⟨gs, e2, h1⟩, _⟩ := h
   have e3 : gs = flds T t d := by
    have := (makes_fields hm).1
    rw [e2] at this
    exact Option.some.inj this
   have ll : l.length = (flds T t d).length := by rw [<- okps_len h1, e3]
   right
   refine ⟨?_, l, r, rfl⟩
   rw [<- ll]
   simp only [wat, if_true]
   rw [ex_con]
   exact exn_full l r
  ·rw [if_neg q] at s; cases s
theorem exs_special {T : Types} {t c : Nat} {ts : List Nat} (hm : makes T t c = true) : ∀ {X : List (List Pat)}, (∀ r ∈ X, OkPs T (t :: ts) r) ->
  exs (flds T t c).length (X.filterMap (special c (flds T t c).length)) + (if begins X c = true then (flds T t c).length else 0) <= yat c X
 | [], _ => by simp [exs, begins]
 | r :: X, h => by
  have ih := exs_special hm (X := X) fun r hr => h r (List.mem_cons_of_mem _ hr)
  have hr := h r List.mem_cons_self
  have hb := begins_cons c r X
  have hy : yat c (r :: X) = wat c r + yat c X := by unfold yat; simp
  rw [List.filterMap_cons, hy, hb]
  cases s : special c (flds T t c).length r with
  | none =>
   match r, hr, s with
   | .any :: r, _, s => simp [special] at s
   | .con d l :: r, _, s =>
    simp only [special] at s
    by_cases q : d = c
    ·rw [if_pos q] at s; cases s
    ·have e : (d == c) = false := by simpa using q
     simp only [bh, e, Bool.false_or]
     omega
   | [], hr, _ => simp [OkPs] at hr
  | some r' =>
   have e : exs (flds T t c).length (r' :: X.filterMap (special c (flds T t c).length)) = exn (flds T t c).length r' + exs (flds T t c).length (X.filterMap (special c (flds T t c).length)) := by
    unfold exs; simp
   simp only
   rw [e]
   rcases exn_special hm hr s with ⟨h1, h2, r0, rfl⟩ | ⟨h1, l, r0, rfl⟩
   ·simp only [bh, Bool.false_or]
    omega
   ·simp only [bh, beq_self_eq_true, Bool.true_or, if_true]
    split at ih <;> omega
end MC
namespace MC
open Pc
theorem un_drop (n : Nat) (R : FR) : un (R.map (dropB n)) = un R := by
 unfold un
 rw [List.countP_map]
 rfl
theorem un_spec_le (c n : Nat) : ∀ R : FR, un (R.filterMap (specB c n)) <= un R
 | [] => by simp [un]
 | (b, r) :: R => by
  have ih := un_spec_le c n R
  unfold un at *
  rw [List.filterMap_cons, List.countP_cons]
  unfold specB at *
  cases special c n r with
  | none => simp only [Option.map_none]; omega
  | some r' => simp only [Option.map_some, List.countP_cons]; omega
theorem un_spec_lt {T : Types} {ts : List Nat} {t c : Nat} (n : Nat) : ∀ {R : FR}, OkR T (t :: ts) R -> FlagOk R -> headed (R.map (·.2)) = true -> begins (R.map (·.2)) c = false -> un (R.filterMap (specB c n)) < un R
 | [], _, _, h, _ => by simp [headed] at h
 | (b, r) :: R, ho, hf, h, hb => by
  have le := un_spec_le c n R
  have hr := ho _ List.mem_cons_self
  rw [List.map_cons, begins_cons, Bool.or_eq_false_iff] at hb
  match r, hr with
  | [], hr => simp [OkPs] at hr
  | .any :: r, _ =>
   have h' : headed (R.map (·.2)) = true := by
    unfold headed at h ⊢
    simpa using h
   have ih := un_spec_lt (c := c) n (R := R) (fun x hx => ho x (List.mem_cons_of_mem _ hx)) (fun r hr => hf r (List.mem_cons_of_mem _ hr)) h' hb.2
   unfold un at *
   rw [List.filterMap_cons, List.countP_cons]
   simp only [specB, special, Option.map_some, List.countP_cons]
   omega
  | .con d l :: r, _ =>
   have e : b = false := by
    cases b
    ·rfl
    ·have := hf _ List.mem_cons_self
     simp [isAny] at this
   subst e
   have q : ¬ d = c := by simpa [bh] using hb.1
   have e : specB c n (false, .con d l :: r) = none := by simp [specB, special, q]
   unfold un at *
   rw [List.filterMap_cons, e, List.countP_cons]
   simp only [Bool.not_false, if_true]
   omega
theorem looked_nodup (T : Types) (t : Nat) (X : List (List Pat)) : (lookedAt T t X).Nodup := by
 unfold lookedAt
 exact (List.nodup_range.sublist List.filter_sublist).sublist List.filter_sublist
theorem looked_free {T : Types} {t : Nat} {X : List (List Pat)} : ∃ c0 : Nat, ∀ c ∈ lookedAt T t X, begins X c = false -> c = c0 := by
 cases e : ((List.range (consOf T t).length).filter (makes T t)).find? (fun c => !begins X c) with
 | none =>
  refine ⟨0, fun c hc hb => ?_⟩
  unfold lookedAt at hc
  simp only [List.mem_filter, Bool.or_eq_true, beq_iff_eq] at hc
  rcases hc.2 with h | h
  ·rw [hb] at h; cases h
  ·rw [e] at h; cases h
 | some c0 =>
  refine ⟨c0, fun c hc hb => ?_⟩
  unfold lookedAt at hc
  simp only [List.mem_filter, Bool.or_eq_true, beq_iff_eq] at hc
  rcases hc.2 with h | h
  ·rw [hb] at h; cases h
  ·rw [e] at h; exact (Option.some.inj h).symm
theorem sum_once {L : List Nat} {p : Nat -> Bool} {K c0 : Nat} (h : L.Nodup) (o : ∀ c ∈ L, p c = false -> c = c0) : (L.map fun c => if p c = true then 0 else K).sum <= K := by
 induction L with
 | nil => simp
 | cons c L ih =>
  rw [List.nodup_cons] at h
  rw [List.map_cons, List.sum_cons]
  have ih := ih h.2 fun c hc => o c (List.mem_cons_of_mem _ hc)
  by_cases e : p c = true
  ·rw [if_pos e]; omega
  ·have e' : p c = false := by simpa using e
   have q := o c List.mem_cons_self e'
   have z : (L.map fun c => if p c = true then 0 else K).sum = 0 := by
    refine sum_zero fun x hx => ?_
    obtain ⟨d, hd, rfl⟩ := List.mem_map.mp hx
    by_cases e2 : p d = true
    ·rw [if_pos e2]
    ·have q2 := o d (List.mem_cons_of_mem _ hd) (by simpa using e2)
     exact absurd (by rw [q, <- q2]; exact hd) h.1
   rw [z, if_neg e]
   exact Nat.le_refl _
theorem sum_le {L : List Nat} {f g : Nat -> Nat} (h : ∀ c ∈ L, f c <= g c) : (L.map f).sum <= (L.map g).sum := by
 induction L with
 | nil => simp
 | cons c L ih =>
  rw [List.map_cons, List.map_cons, List.sum_cons, List.sum_cons]
  have := h c List.mem_cons_self
  have := ih fun c hc => h c (List.mem_cons_of_mem _ hc)
  omega
theorem sum_add (L : List Nat) (f g : Nat -> Nat) : (L.map fun c => f c + g c).sum = (L.map f).sum + (L.map g).sum := by
 induction L with
 | nil => rfl
 | cons c L ih => simp only [List.map_cons, List.sum_cons, ih]; omega
theorem sum_mul (L : List Nat) (k : Nat) (f : Nat -> Nat) : (L.map fun c => k * f c).sum = k * (L.map f).sum := by
 induction L with
 | nil => simp
 | cons c L ih => simp only [List.map_cons, List.sum_cons, ih, Nat.mul_add]
theorem len_flatMap {α β : Type} (L : List α) (f : α -> List β) : (L.flatMap f).length = (L.map fun c => (f c).length).sum := by
 induction L with
 | nil => rfl
 | cons c L ih => simp only [List.flatMap_cons, List.length_append, List.map_cons, List.sum_cons, ih]
def AnyCols (n : Nat) (X : List (List Pat)) : Prop := ∀ r ∈ X, ∃ r0, r = List.replicate n Pat.any ++ r0
theorem anyCols_head {n : Nat} {X : List (List Pat)} (h : AnyCols (n + 1) X) : headed X = false /\ exs 1 X = 0 /\ AnyCols n (tails X) /\ X.filterMap default_ = tails X := by
 induction X with
 | nil => exact ⟨rfl, rfl, fun r hr => by simp [tails] at hr, rfl⟩
 | cons r X ih =>
  obtain ⟨h1, h2, h3, h4⟩ := ih fun r hr => h r (List.mem_cons_of_mem _ hr)
  obtain ⟨r0, rfl⟩ := h r List.mem_cons_self
  rw [List.replicate_succ, List.cons_append]
  refine ⟨?_, ?_, ?_, ?_⟩
  ·unfold headed at *; simpa using h1
  ·unfold exs at *
   simp only [List.map_cons, List.sum_cons, h2, exn, ex, txt]
   simp
  ·intro x hx
   unfold tails at hx
   rcases List.mem_cons.mp hx with rfl | hx
   ·exact ⟨r0, rfl⟩
   ·exact h3 x hx
  ·rw [List.filterMap_cons]
   simp only [default_]
   unfold tails at *
   rw [h4]
   rfl
theorem Gw_any : ∀ (n : Nat) (X : List (List Pat)) (q : List Pat), AnyCols n X -> (∃ q0, q = List.replicate n Pat.any ++ q0) -> Gw n X q = n
 | 0, _, _, _, _ => rfl
 | n + 1, X, q, hX, hq => by
  obtain ⟨q0, rfl⟩ := hq
  obtain ⟨h1, h2, h3, _⟩ := anyCols_head hX
  rw [List.replicate_succ, List.cons_append, Gw, h2]
  have ih := Gw_any n (tails X) ((Pat.any :: (List.replicate n Pat.any ++ q0)).drop 1) h3 ⟨q0, rfl⟩
  rw [ih]
  have e : hd1 X (Pat.any :: (List.replicate n Pat.any ++ q0)) = 0 := by unfold hd1; rw [h1]; rfl
  rw [e]
  simp [exn, ex, txt]
  omega
theorem spec_any {c n : Nat} {X : List (List Pat)} (h : begins X c = false) : AnyCols n (X.filterMap (special c n)) := by
 intro r' hr'
 obtain ⟨r, hr, s⟩ := List.mem_filterMap.mp hr'
 match r, hr, s with
 | [], _, s => simp [special] at s
 | .any :: r, _, s =>
  simp only [special, Option.some.injEq] at s
  exact ⟨r, s.symm⟩
 | .con d l :: r, hr, s =>
  simp only [special] at s
  by_cases q : d = c
  ·exfalso
   unfold begins at h
   have := (List.any_eq_false.mp h) _ hr
   simp [q] at this
  ·rw [if_neg q] at s; cases s
theorem exn_spq {T : Types} {t c : Nat} {ts : List Nat} {q : List Pat} (hm : makes T t c = true) (h : OkPs T (t :: ts) q) (hq : (∃ r, q = .any :: r) ∨ ∃ l r, q = .con c l :: r) :
  exn (flds T t c).length (spq c (flds T t c).length q) + (if bh c q = true then (flds T t c).length else 0) = wat c q := by
 rcases hq with ⟨r, rfl⟩ | ⟨l, r, rfl⟩
 ·simp only [spq, exn_rep, bh, wat]; simp
 ·simp only [OkPs, OkP] at h
  obtain ⟨⟨gs, e2, h1⟩, _⟩ := h
  have e3 : gs = flds T t c := by
   have := (makes_fields hm).1
   rw [e2] at this
   exact Option.some.inj this
  have ll : l.length = (flds T t c).length := by rw [<- okps_len h1, e3]
  simp only [spq, bh, beq_self_eq_true, if_true, wat]
  rw [<- ll, ex_con]
  exact exn_full l r
theorem Vw_named {T : Types} {t c : Nat} {ts : List Nat} {X : List (List Pat)} {q : List Pat} (hm : makes T t c = true) (ho : ∀ r ∈ X, OkPs T (t :: ts) r) (h : OkPs T (t :: ts) q) (hq : (∃ r, q = .any :: r) ∨ ∃ l r, q = .con c l :: r) (hb : begins X c = true ∨ bh c q = true) :
  Vw (flds T t c).length (X.filterMap (special c (flds T t c).length)) (spq c (flds T t c).length q) <= yat c X + wat c q := by
 have a := exs_special hm ho
 have b := exn_spq hm h hq
 unfold Vw
 rcases hb with hb | hb
 ·rw [if_pos hb] at a; omega
 ·rw [if_pos hb] at b; omega
theorem yat_le (c : Nat) : ∀ X, yat c X <= exs 1 X
 | [] => by simp [yat]
 | r :: X => by
  have := yat_le c X
  have := wat_le c r
  unfold yat exs at *
  simp only [List.map_cons, List.sum_cons]
  omega
theorem wat_any (c : Nat) (r : List Pat) : wat c (.any :: r) = 0 := rfl
theorem pow_mono {a b : Nat} (h : a <= b) : 2 ^ a <= 2 ^ b := Nat.pow_le_pow_right (by decide) h
theorem snd_drop (R : FR) : (R.map (dropB 1)).map (·.2) = tails (R.map (·.2)) := by
 unfold tails
 rw [List.map_map, List.map_map]
 rfl
theorem Lp_count {T : Types} (N : Nar T) : ∀ (f : Nat) (pre ts : List Nat) (R : FR) (q : List Pat), OkR T (pre ++ ts) R -> OkPs T (pre ++ ts) q -> FlagOk R ->
  (Lp T f pre ts R q).length <= 2 ^ un R * Gw pre.length (R.map (·.2)) q
 | 0, _, _, _, _, _, _, _ => by simp [Lp]
 | f + 1, [], _, _, _, _, _, _ => by simp [Lp]
 | f + 1, t :: pre, ts, R, q, ho, hq, hg => by
  have ho' : OkR T (t :: (pre ++ ts)) R := ho
  have hq' : OkPs T (t :: (pre ++ ts)) q := hq
  have oX : ∀ r ∈ R.map (·.2), OkPs T (t :: (pre ++ ts)) r := by
   intro r hr
   obtain ⟨x, hx, rfl⟩ := List.mem_map.mp hr
   exact ho' x hx
  have third := Lp_count N f pre ts (R.map (dropB 1)) (q.drop 1) (okR_drop ho') (ok_drop hq') (flagOk_drop hg)
  rw [un_drop, snd_drop] at third
  have one : ∀ c ∈ innerR T t (R.map (·.2)) q, (Lp T f (flds T t c) (pre ++ ts) (R.filterMap (specB c (flds T t c).length)) (spq c (flds T t c).length q)).length <=
    2 ^ un (R.filterMap (specB c (flds T t c).length)) * Gw (flds T t c).length ((R.map (·.2)).filterMap (special c (flds T t c).length)) (spq c (flds T t c).length q) := by
   intro c hc
   have hm := (inner_makes hc).1
   have := Lp_count N f (flds T t c) (pre ++ ts) _ _ (okR_spec hm ho') (spq_ok hm hq' (inner_q hc)) (flagOk_spec hg)
   rw [snd_specB] at this
   exact this
  have named : ∀ c ∈ innerR T t (R.map (·.2)) q, (begins (R.map (·.2)) c = true ∨ bh c q = true) -> (Lp T f (flds T t c) (pre ++ ts) (R.filterMap (specB c (flds T t c).length)) (spq c (flds T t c).length q)).length <=
    2 ^ un R * 3 * (yat c (R.map (·.2)) + wat c q) := by
   intro c hc hb
   have hm := (inner_makes hc).1
   refine Nat.le_trans (one c hc) ?_
   have g := Gw_le (flds T t c).length ((R.map (·.2)).filterMap (special c (flds T t c).length)) (spq c (flds T t c).length q)
   have v := Vw_named hm oX hq' (inner_q hc) hb
   have p := pow_mono (un_spec_le c (flds T t c).length R)
   rw [Nat.mul_assoc]
   exact Nat.mul_le_mul p (Nat.le_trans g (Nat.mul_le_mul_left 3 v))
  have mid : ((innerR T t (R.map (·.2)) q).flatMap fun c => Lp T f (flds T t c) (pre ++ ts) (R.filterMap (specB c (flds T t c).length)) (spq c (flds T t c).length q)).length <= 2 ^ un R * (2 * hd1 (R.map (·.2)) q + 3 * (exs 1 (R.map (·.2)) + exn 1 q)) := by
   rw [len_flatMap]
   match q, hq', named, one with
   | [], hq', _, _ => simp [OkPs] at hq'
   | .con d l :: r, hq', named, _ =>
    by_cases hm : makes T t d = true
    ·have e : innerR T t (R.map (·.2)) (.con d l :: r) = [d] := by simp [innerR, hm]
     rw [e] at named ⊢
     have n1 := named d (by simp) (.inr (by simp [bh]))
     simp only [List.map_cons, List.map_nil, List.sum_cons, List.sum_nil, Nat.add_zero]
     refine Nat.le_trans n1 ?_
     rw [Nat.mul_assoc]
     refine Nat.mul_le_mul_left _ ?_
     have := yat_le d (R.map (·.2))
     have := wat_le d (.con d l :: r)
     omega
    ·have e : innerR T t (R.map (·.2)) (.con d l :: r) = [] := by simp [innerR, hm]
     rw [e]; simp
   | .any :: r, hq', named, one =>
    by_cases hh : headed (R.map (·.2)) = true
    ·have e : innerR T t (R.map (·.2)) (.any :: r) = lookedAt T t (R.map (·.2)) := by simp [innerR, hh]
     rw [e] at named one ⊢
     have e1 : hd1 (R.map (·.2)) (.any :: r) = 1 := by unfold hd1; rw [hh]; rfl
     obtain ⟨c0, h0⟩ := looked_free (T := T) (t := t) (X := R.map (·.2))
     have nd := looked_nodup T t (R.map (·.2))
     have bound : ∀ c ∈ lookedAt T t (R.map (·.2)), (Lp T f (flds T t c) (pre ++ ts) (R.filterMap (specB c (flds T t c).length)) (spq c (flds T t c).length (.any :: r))).length <=
       2 ^ un R * 3 * yat c (R.map (·.2)) + (if begins (R.map (·.2)) c = true then 0 else 2 ^ un R * 2) := by
      intro c hc
      by_cases b : begins (R.map (·.2)) c = true
      ·have := named c hc (.inl b)
       rw [wat_any] at this
       rw [if_pos b]
       omega
      ·have b' : begins (R.map (·.2)) c = false := by simpa using b
       rw [if_neg b]
       have o := one c hc
       have ga := Gw_any (flds T t c).length ((R.map (·.2)).filterMap (special c (flds T t c).length)) (spq c (flds T t c).length (.any :: r)) (spec_any b') ⟨r, rfl⟩
       rw [ga] at o
       have lt := un_spec_lt (flds T t c).length (c := c) ho' hg hh b'
       have p : 2 * 2 ^ un (R.filterMap (specB c (flds T t c).length)) <= 2 ^ un R := by
        have := pow_mono (Nat.succ_le_of_lt lt)
        rw [Nat.pow_succ] at this
        omega
       have n4 := N t c
       have : 2 ^ un (R.filterMap (specB c (flds T t c).length)) * (flds T t c).length <= 2 ^ un (R.filterMap (specB c (flds T t c).length)) * 4 := Nat.mul_le_mul_left _ n4
       omega
     refine Nat.le_trans (sum_le bound) ?_
     rw [sum_add, sum_mul]
     have s1 := yat_sum nd (R.map (·.2))
     have s2 := sum_once (K := 2 ^ un R * 2) nd h0
     have : 2 ^ un R * 3 * ((lookedAt T t (R.map (·.2))).map fun c => yat c (R.map (·.2))).sum <= 2 ^ un R * 3 * exs 1 (R.map (·.2)) := Nat.mul_le_mul_left _ s1
     rw [e1]
     refine Nat.le_trans (Nat.add_le_add this s2) ?_
     rw [Nat.mul_assoc, <- Nat.mul_add]
     refine Nat.mul_le_mul_left _ ?_
     omega
    ·have e : innerR T t (R.map (·.2)) (.any :: r) = [] := by simp [innerR, hh]
     rw [e]; simp
  rw [Lp, List.length_append, List.length_append, List.length_map, subs_len, List.length_cons, Gw]
  have e : 2 ^ un R * (1 + 2 * hd1 (R.map (·.2)) q + 3 * (exs 1 (R.map (·.2)) + exn 1 q) + Gw pre.length (tails (R.map (·.2))) (q.drop 1)) =
    2 ^ un R + 2 ^ un R * (2 * hd1 (R.map (·.2)) q + 3 * (exs 1 (R.map (·.2)) + exn 1 q)) + 2 ^ un R * Gw pre.length (tails (R.map (·.2))) (q.drop 1) := by
   rw [Nat.mul_add, Nat.add_assoc 1, Nat.mul_add _ 1, Nat.mul_one]
  rw [e]
  omega
end MC
namespace MC
open Pc
theorem LE_any {T : Types} : ∀ (f : Nat) (pre ts : List Nat) (X : List (List Pat)) (q : List Pat), AnyCols pre.length X -> (∃ q0, q = List.replicate pre.length Pat.any ++ q0) -> (LE T f pre ts X q).length <= pre.length
 | 0, _, _, _, _, _, _ => by simp [LE]
 | f + 1, [], _, _, _, _, _ => by simp [LE]
 | f + 1, t :: pre, ts, X, q, hX, hq => by
  obtain ⟨q0, rfl⟩ := hq
  obtain ⟨h1, _, h3, h4⟩ := anyCols_head hX
  have hc : (anyHead (List.replicate (t :: pre).length Pat.any ++ q0) && !headed X) = true := by
   rw [List.length_cons, List.replicate_succ, List.cons_append, h1]; rfl
  rw [LE, if_pos hc, List.length_cons, List.length_cons, h4]
  have ih := LE_any (T := T) f pre ts (tails X) ((List.replicate (pre.length + 1) Pat.any ++ q0).drop 1) h3 ⟨q0, by rw [List.replicate_succ]; rfl⟩
  have e : (List.replicate (t :: pre).length Pat.any ++ q0).drop 1 = (List.replicate (pre.length + 1) Pat.any ++ q0).drop 1 := rfl
  omega
theorem not_any_special {c n : Nat} {r r' : List Pat} (s : special c n r = some r') (h : r.all isAny = true) : r'.all isAny = true := by
 match r, s, h with
 | .any :: r, s, h =>
  simp only [special, Option.some.injEq] at s
  subst s
  rw [all_rep]
  simpa [isAny] using h
 | .con _ _ :: _, _, h => simp [isAny] at h
 | [], s, _ => simp [special] at s
theorem un_flag (X : List (List Pat)) : un (flagX X) = X.countP fun r => !r.all isAny := by
 unfold un flagX
 rw [List.countP_map]
 rfl
theorem un_flag_spec (c n : Nat) : ∀ X : List (List Pat), un (flagX (X.filterMap (special c n))) <= un (flagX X)
 | [] => by simp [flagX]
 | r :: X => by
  have ih := un_flag_spec c n X
  rw [un_flag] at *
  rw [un_flag] at *
  rw [List.filterMap_cons, List.countP_cons]
  cases s : special c n r with
  | none => simp only; omega
  | some r' =>
   simp only [List.countP_cons]
   have : (!r'.all isAny) = true -> (!r.all isAny) = true := by
    intro h
    cases z : r.all isAny with
    | false => rfl
    | true => rw [not_any_special s z] at h; cases h
   by_cases e : (!r'.all isAny) = true
   ·rw [if_pos e, if_pos (this e)]; omega
   ·rw [if_neg e]; omega
theorem strip_tails {T : Types} {t : Nat} {ts : List Nat} {X : List (List Pat)} (ho : ∀ r ∈ X, OkPs T (t :: ts) r) (h : headed X = false) : X.filterMap default_ = tails X /\ exs 1 X = 0 := by
 have a : AnyCols 1 X := by
  intro r hr
  obtain ⟨r', rfl⟩ := not_headed ho h r hr
  exact ⟨r', rfl⟩
 exact ⟨(anyCols_head a).2.2.2, (anyCols_head a).2.1⟩
theorem Vw_succ (n : Nat) (X : List (List Pat)) (q : List Pat) : Vw (n + 1) X q = 1 + (exs 1 X + exn 1 q) + Vw n (tails X) (q.drop 1) := by
 unfold Vw
 rw [exs_succ n X, exn_succ n q]
 omega
theorem snd_flag_drop (X : List (List Pat)) : ((flagX X).map (dropB 1)).map (·.2) = tails X := by
 rw [snd_drop, flag_snd]
theorem parts {T : Types} {t : Nat} {ts : List Nat} {X : List (List Pat)} {q : List Pat} (hq : OkPs T (t :: ts) q) {len : Nat -> Nat} {K : Nat}
  (named : ∀ c ∈ innerR T t X q, (begins X c = true ∨ bh c q = true) -> len c <= K * (yat c X + wat c q))
  (free : ∀ c ∈ innerR T t X q, begins X c = false -> (∃ r, q = .any :: r) -> len c <= 4) : ((innerR T t X q).map len).sum <= K * (exs 1 X + exn 1 q) + 4 := by
 match q, hq, named, free with
 | [], hq', _, _ => simp [OkPs] at hq'
 | .con d l :: r, hq', named, _ =>
  by_cases hm : makes T t d = true
  ·have e : innerR T t X (.con d l :: r) = [d] := by simp [innerR, hm]
   rw [e] at named ⊢
   have n1 := named d (by simp) (.inr (by simp [bh]))
   simp only [List.map_cons, List.map_nil, List.sum_cons, List.sum_nil, Nat.add_zero]
   refine Nat.le_trans n1 (Nat.le_trans (Nat.mul_le_mul_left K ?_) (Nat.le_add_right _ _))
   have := yat_le d X
   have := wat_le d (.con d l :: r)
   omega
  ·have e : innerR T t X (.con d l :: r) = [] := by simp [innerR, hm]
   rw [e]; simp
 | .any :: r, hq', named, free =>
  by_cases hh : headed X = true
  ·have e : innerR T t X (.any :: r) = lookedAt T t X := by simp [innerR, hh]
   rw [e] at named free ⊢
   obtain ⟨c0, h0⟩ := looked_free (T := T) (t := t) (X := X)
   have nd := looked_nodup T t X
   have bound : ∀ c ∈ lookedAt T t X, len c <= K * yat c X + (if begins X c = true then 0 else 4) := by
    intro c hc
    by_cases b : begins X c = true
    ·have := named c hc (.inl b)
     rw [wat_any] at this
     rw [if_pos b]
     exact this
    ·rw [if_neg b]
     have := free c hc (by simpa using b) ⟨r, rfl⟩
     omega
   refine Nat.le_trans (sum_le bound) ?_
   rw [sum_add, sum_mul]
   have s1 := Nat.mul_le_mul_left K (yat_sum nd X)
   have s2 := sum_once (K := 4) nd h0
   have : K * exs 1 X <= K * (exs 1 X + exn 1 (.any :: r)) := Nat.mul_le_mul_left K (Nat.le_add_right _ _)
   omega
  ·have e : innerR T t X (.any :: r) = [] := by simp [innerR, hh]
   rw [e]; simp
theorem LE_count {T : Types} (N : Nar T) : ∀ (f : Nat) (pre ts : List Nat) (X : List (List Pat)) (q : List Pat), (∀ r ∈ X, OkPs T (pre ++ ts) r) -> OkPs T (pre ++ ts) q ->
  (LE T f pre ts X q).length <= 5 * Vw pre.length X q + 2 ^ un (flagX X) * 3 * (Vw pre.length X q - 1)
 | 0, _, _, _, _, _, _ => by simp [LE]
 | f + 1, [], _, _, _, _, _ => by simp [LE]
 | f + 1, t :: pre, ts, X, q, ho, hq => by
  have ho' : ∀ r ∈ X, OkPs T (t :: (pre ++ ts)) r := ho
  have hq' : OkPs T (t :: (pre ++ ts)) q := hq
  rw [List.length_cons, Vw_succ]
  by_cases hc : (anyHead q && !headed X) = true
  ·rw [LE, if_pos hc, List.length_cons]
   have hh : headed X = false := by
    rw [Bool.and_eq_true] at hc
    simpa using hc.2
   obtain ⟨e1, e2⟩ := strip_tails ho' hh
   have fs := flag_strip (not_headed ho' hh)
   have ih := LE_count N f pre ts (X.filterMap default_) (q.drop 1) (fun r' h' => by
    obtain ⟨r, m, s⟩ := List.mem_filterMap.mp h'
    exact default_ok (ho' r m) s) (ok_drop hq')
   rw [fs, un_drop, e1] at ih
   rw [e1]
   have : 2 ^ un (flagX X) * 3 * (Vw pre.length (tails X) (q.drop 1) - 1) <= 2 ^ un (flagX X) * 3 * (1 + (exs 1 X + exn 1 q) + Vw pre.length (tails X) (q.drop 1) - 1) := Nat.mul_le_mul_left _ (by omega)
   omega
  ·rw [LE, if_neg hc, List.length_cons, List.length_append, len_flatMap]
   have third := Lp_count N f pre ts ((flagX X).map (dropB 1)) (q.drop 1) (okR_drop (flag_okR ho')) (ok_drop hq') (flagOk_drop (flag_ok X))
   rw [un_drop, snd_flag_drop] at third
   have third2 : (Lp T f pre ts ((flagX X).map (dropB 1)) (q.drop 1)).length <= 2 ^ un (flagX X) * 3 * Vw pre.length (tails X) (q.drop 1) := by
    refine Nat.le_trans third ?_
    rw [Nat.mul_assoc]
    exact Nat.mul_le_mul_left _ (Gw_le _ _ _)
   have p := parts hq' (X := X) (len := fun c => (LE T f (flds T t c) (pre ++ ts) (X.filterMap (special c (flds T t c).length)) (spq c (flds T t c).length q)).length) (K := 5 + 2 ^ un (flagX X) * 3) (fun c hcc hb => by
    have hm := (inner_makes hcc).1
    have ih := LE_count N f (flds T t c) (pre ++ ts) (X.filterMap (special c (flds T t c).length)) (spq c (flds T t c).length q) (fun r' h' => by
     obtain ⟨r, m, s⟩ := List.mem_filterMap.mp h'
     exact special_ok (makes_fields hm).1 (ho' r m) s) (spq_ok hm hq' (inner_q hcc))
    have v := Vw_named hm ho' hq' (inner_q hcc) hb
    have u := pow_mono (un_flag_spec c (flds T t c).length X)
    refine Nat.le_trans ih ?_
    rw [Nat.add_mul]
    refine Nat.add_le_add (Nat.mul_le_mul_left 5 v) (Nat.mul_le_mul (Nat.mul_le_mul_right 3 u) (by omega))) (fun c hcc hb hr => by
    obtain ⟨r, rfl⟩ := hr
    have := LE_any (T := T) f (flds T t c) (pre ++ ts) (X.filterMap (special c (flds T t c).length)) (spq c (flds T t c).length (.any :: r)) (spec_any hb) ⟨r, rfl⟩
    have := N t c
    omega)
   have e : 1 + (exs 1 X + exn 1 q) + Vw pre.length (tails X) (q.drop 1) - 1 = (exs 1 X + exn 1 q) + Vw pre.length (tails X) (q.drop 1) := by omega
   rw [e, Nat.mul_add, Nat.mul_add _ (exs 1 X + exn 1 q), Nat.mul_add 5]
   rw [Nat.add_mul] at p
   omega
def Bf (a y : Nat) : Nat := if a = 0 then 0 else 2 ^ a * (1 + y)
theorem Bf_add (a b y z : Nat) : Bf a y + Bf b z <= Bf (a + b) (y + z) := by
 unfold Bf
 by_cases ha : a = 0
 ·subst ha
  by_cases hb : b = 0
  ·subst hb; simp
  ·rw [if_pos rfl, if_neg hb, if_neg (by omega), Nat.zero_add, Nat.zero_add]
   exact Nat.mul_le_mul_left _ (by omega)
 ·by_cases hb : b = 0
  ·subst hb
   rw [if_neg ha, if_pos rfl, if_neg (by omega), Nat.add_zero, Nat.add_zero]
   exact Nat.mul_le_mul_left _ (by omega)
  ·rw [if_neg ha, if_neg hb, if_neg (by omega), Nat.pow_add]
   have pa : 2 <= 2 ^ a := by have := pow_mono (show 1 <= a by omega); simpa using this
   have pb : 2 <= 2 ^ b := by have := pow_mono (show 1 <= b by omega); simpa using this
   have s : 2 ^ a + 2 ^ b <= 2 ^ a * 2 ^ b := by
    have h1 : 2 ^ a * 2 <= 2 ^ a * 2 ^ b := Nat.mul_le_mul_left _ pb
    have h2 : 2 * 2 ^ b <= 2 ^ a * 2 ^ b := Nat.mul_le_mul_right _ pa
    omega
   refine Nat.le_trans ?_ (Nat.mul_le_mul_right (1 + (y + z)) s)
   rw [Nat.add_mul]
   exact Nat.add_le_add (Nat.mul_le_mul_left _ (by omega)) (Nat.mul_le_mul_left _ (by omega))
def sz : List Pat -> Nat
 | .con c l :: _ => (txt (.con c l)).length
 | _ => 0
def gat (w : List Pat -> Nat) (c : Nat) (r : List Pat) : Nat := if bh c r = true then w r else 0
theorem gat_sum (w : List Pat -> Nat) {L : List Nat} (h : L.Nodup) (r : List Pat) : (L.map fun c => gat w c r).sum <= w r := by
 induction L with
 | nil => simp
 | cons c L ih =>
  rw [List.nodup_cons] at h
  have ih := ih h.2
  rw [List.map_cons, List.sum_cons]
  by_cases e : bh c r = true
  ·have z : (L.map fun c => gat w c r).sum = 0 := by
    refine sum_zero fun x hx => ?_
    obtain ⟨d, hd, rfl⟩ := List.mem_map.mp hx
    unfold gat
    by_cases e2 : bh d r = true
    ·match r, e, e2 with
     | .con k l :: r, e, e2 =>
      simp only [bh, beq_iff_eq] at e e2
      exact absurd (by rw [<- e, e2]; exact hd) h.1
    ·rw [if_neg e2]
   rw [z]
   unfold gat
   rw [if_pos e]
   exact Nat.le_refl _
  ·have : gat w c r = 0 := by unfold gat; rw [if_neg e]
   omega
def gats (w : List Pat -> Nat) (c : Nat) (X : List (List Pat)) : Nat := (X.map (gat w c)).sum
theorem gats_sum (w : List Pat -> Nat) {L : List Nat} (h : L.Nodup) : ∀ X, (L.map fun c => gats w c X).sum <= (X.map w).sum
 | [] => by
  have : (L.map fun c => gats w c []).sum = 0 := by
   refine sum_zero fun x hx => ?_
   obtain ⟨c, _, rfl⟩ := List.mem_map.mp hx
   rfl
  rw [this]
  exact Nat.zero_le _
 | r :: X => by
  have ih := gats_sum w h X
  have a := gat_sum w h r
  have e : (L.map fun c => gats w c (r :: X)).sum = (L.map fun c => gat w c r).sum + (L.map fun c => gats w c X).sum := by
   rw [<- sum_add]
   rfl
  rw [e, List.map_cons, List.sum_cons]
  omega
theorem inner_nodup (T : Types) (t : Nat) (X : List (List Pat)) (q : List Pat) : (innerR T t X q).Nodup := by
 match q with
 | [] => simp [innerR]
 | .con c l :: r => simp only [innerR]; split <;> simp
 | .any :: r =>
  simp only [innerR]
  split
  ·exact looked_nodup T t X
  ·simp
def Sz (X : List (List Pat)) : Nat := (X.map sz).sum
theorem Sz_cons (r : List Pat) (X : List (List Pat)) : Sz (r :: X) = sz r + Sz X := by simp [Sz]
theorem gats_cons (w : List Pat -> Nat) (c : Nat) (r : List Pat) (X : List (List Pat)) : gats w c (r :: X) = gat w c r + gats w c X := by simp [gats]
theorem gather {len v S : Nat -> Nat} : ∀ {L : List Nat}, (∀ c ∈ L, ∃ a y, 3 * a + y <= S c /\ len c <= v c + 3 * Bf a y) -> ∃ a y, 3 * a + y <= (L.map S).sum /\ (L.map len).sum <= (L.map v).sum + 3 * Bf a y
 | [], _ => ⟨0, 0, by simp, by simp⟩
 | c :: L, h => by
  obtain ⟨a, y, h1, h2⟩ := h c List.mem_cons_self
  obtain ⟨b, z, h3, h4⟩ := gather (L := L) fun c hc => h c (List.mem_cons_of_mem _ hc)
  refine ⟨a + b, y + z, ?_, ?_⟩
  ·rw [List.map_cons, List.sum_cons]; omega
  ·rw [List.map_cons, List.map_cons, List.sum_cons, List.sum_cons]
   have := Bf_add a b y z
   omega
theorem row_spec {T : Types} {t c : Nat} {ts : List Nat} (hm : makes T t c = true) {r r' : List Pat} (h : OkPs T (t :: ts) r) (s : special c (flds T t c).length r = some r') :
  exn (flds T t c).length r' + (if bh c r = true then (flds T t c).length + 1 else 0) = gat sz c r := by
 rcases exn_special hm h s with ⟨h1, _, r0, rfl⟩ | ⟨h1, l, r0, rfl⟩
 ·unfold gat; simp [bh, h1]
 ·unfold gat
  simp only [wat, if_true, ex_con] at h1
  simp only [bh, beq_self_eq_true, if_true, sz, txt, List.length_cons]
  omega
def nat1 (c : Nat) (r : List Pat) : Nat := if bh c r = true then 1 else 0
def nats1 (c : Nat) (X : List (List Pat)) : Nat := (X.map (nat1 c)).sum
theorem exs_eq {T : Types} {t c : Nat} {ts : List Nat} (hm : makes T t c = true) : ∀ {X : List (List Pat)}, (∀ r ∈ X, OkPs T (t :: ts) r) ->
  exs (flds T t c).length (X.filterMap (special c (flds T t c).length)) + nats1 c X * ((flds T t c).length + 1) = gats sz c X
 | [], _ => by simp [exs, nats1, gats]
 | r :: X, h => by
  have ih := exs_eq hm (X := X) fun r hr => h r (List.mem_cons_of_mem _ hr)
  have hr := h r List.mem_cons_self
  have e1 : nats1 c (r :: X) = nat1 c r + nats1 c X := by simp [nats1]
  rw [List.filterMap_cons, gats_cons, e1, Nat.add_mul]
  cases s : special c (flds T t c).length r with
  | none =>
   have b : bh c r = false := by
    match r, s with
    | .any :: r, s => simp [special] at s
    | .con d l :: r, s =>
     simp only [special] at s
     by_cases q : d = c
     ·rw [if_pos q] at s; cases s
     ·simpa [bh] using q
    | [], _ => rfl
   have g : gat sz c r = 0 := by unfold gat; rw [b]; rfl
   have n : nat1 c r = 0 := by unfold nat1; rw [b]; rfl
   rw [g, n]
   simp only
   omega
  | some r' =>
   have a := row_spec hm hr s
   have e : exs (flds T t c).length (r' :: X.filterMap (special c (flds T t c).length)) = exn (flds T t c).length r' + exs (flds T t c).length (X.filterMap (special c (flds T t c).length)) := by
    unfold exs; simp
   simp only
   rw [e]
   unfold nat1
   by_cases b : bh c r = true
   ·rw [if_pos b] at a ⊢; omega
   ·rw [if_neg b] at a ⊢; omega
theorem q_eq {T : Types} {t c : Nat} {ts : List Nat} {q : List Pat} (hm : makes T t c = true) (h : OkPs T (t :: ts) q) (hq : (∃ r, q = .any :: r) ∨ ∃ l r, q = .con c l :: r) :
  exn (flds T t c).length (spq c (flds T t c).length q) + nat1 c q * ((flds T t c).length + 1) = gat sz c q := by
 have a := exn_spq hm h hq
 rcases hq with ⟨r, rfl⟩ | ⟨l, r, rfl⟩
 ·unfold nat1 gat
  simp only [bh, wat, Bool.false_eq_true, if_false, Nat.add_zero] at a ⊢
  omega
 ·unfold nat1 gat
  simp only [bh, beq_self_eq_true, if_true, wat, ex_con, sz, txt, List.length_cons] at a ⊢
  omega
theorem begins_nats {c : Nat} : ∀ {X : List (List Pat)}, begins X c = true -> 0 < nats1 c X
 | [], h => by simp [begins] at h
 | r :: X, h => by
  rw [begins_cons, Bool.or_eq_true] at h
  have e1 : nats1 c (r :: X) = nat1 c r + nats1 c X := by simp [nats1]
  rw [e1]
  rcases h with h | h
  ·unfold nat1; rw [if_pos h]; omega
  ·have := begins_nats h; omega
theorem un_root {T : Types} {t c n : Nat} : ∀ {X : List (List Pat)}, (∀ r ∈ X, OkPs T [t] r) -> un (flagX (X.filterMap (special c n))) <= nats1 c X
 | [], _ => by simp [flagX, un]
 | r :: X, h => by
  have ih := un_root (c := c) (n := n) (X := X) fun r hr => h r (List.mem_cons_of_mem _ hr)
  have hr := h r List.mem_cons_self
  have e1 : nats1 c (r :: X) = nat1 c r + nats1 c X := by simp [nats1]
  rw [un_flag] at *
  rw [e1, List.filterMap_cons]
  match r, hr with
  | [], hr => simp [OkPs] at hr
  | .any :: r, hr =>
   have : r = [] := by
    have := okps_len hr
    simp at this
    exact this
   subst this
   simp only [special, List.countP_cons, all_rep]
   simp only [List.all_nil, Bool.not_true, Bool.false_eq_true, if_false, nat1, bh]
   omega
  | .con d l :: r, _ =>
   simp only [special, nat1, bh, beq_iff_eq]
   by_cases q : d = c
   ·rw [if_pos q, if_pos q]
    simp only [List.countP_cons]
    split <;> omega
   ·rw [if_neg q, if_neg q]
    simp only
    omega
theorem mul_lem {a m : Nat} (ha : 1 <= a) (hm : 2 <= m) : m + 2 * a <= a * m + 2 := by
 obtain ⟨b, rfl⟩ : ∃ b, a = b + 1 := ⟨a - 1, by omega⟩
 obtain ⟨k, rfl⟩ : ∃ k, m = k + 2 := ⟨m - 2, by omega⟩
 have e : (b + 1) * (k + 2) = b * k + b * 2 + (k + 2) := by rw [Nat.add_mul, Nat.mul_add, Nat.one_mul]
 rw [e]
 omega
theorem mul_lem2 {a m : Nat} (hm : 2 <= m) : 3 * a <= a * (m + 1) := by
 have : a * 3 <= a * (m + 1) := Nat.mul_le_mul_left a (by omega)
 omega
theorem sz_one (p : Pat) (r : List Pat) : sz (p :: r) <= (txt p).length := by cases p <;> simp [sz]
theorem Sz_spec {T : Types} {t c : Nat} {ts : List Nat} (hm : makes T t c = true) (h1 : (flds T t c).length = 1) : ∀ {X : List (List Pat)}, (∀ r ∈ X, OkPs T (t :: ts) r) -> Sz (X.filterMap (special c (flds T t c).length)) <= gats sz c X
 | [], _ => by simp [Sz]
 | r :: X, h => by
  have ih := Sz_spec hm h1 (X := X) fun r hr => h r (List.mem_cons_of_mem _ hr)
  have hr := h r List.mem_cons_self
  rw [List.filterMap_cons, gats_cons]
  match r, hr with
  | [], hr => simp [OkPs] at hr
  | .any :: r, _ =>
   simp only [special]
   rw [Sz_cons, h1]
   rw [h1] at ih
   simp only [List.replicate_one, List.cons_append, List.nil_append, sz]
   omega
  | .con d l :: r, hr =>
   simp only [special]
   by_cases q : d = c
   ·subst q
    simp only [OkPs, OkP] at hr
    obtain ⟨⟨gs, e2, h2⟩, _⟩ := hr
    have e3 : gs = flds T t d := by
     have := (makes_fields hm).1
     rw [e2] at this
     exact Option.some.inj this
    have ll : l.length = 1 := by rw [<- okps_len h2, e3, h1]
    match l, ll with
    | [p], _ =>
     simp only [if_true]
     rw [Sz_cons]
     have := sz_one p r
     unfold gat
     simp only [bh, beq_self_eq_true, if_true, sz, txt, txts, List.length_cons, List.append_nil, List.cons_append, List.nil_append] at this ⊢
     omega
   ·rw [if_neg q]
    simp only
    omega
theorem sz_spq {T : Types} {t c : Nat} {ts : List Nat} {q : List Pat} (hm : makes T t c = true) (h1 : (flds T t c).length = 1) (h : OkPs T (t :: ts) q) (hq : (∃ r, q = .any :: r) ∨ ∃ l r, q = .con c l :: r) :
  sz (spq c (flds T t c).length q) <= gat sz c q := by
 rcases hq with ⟨r, rfl⟩ | ⟨l, r, rfl⟩
 ·rw [h1]; simp [spq, sz]
 ·simp only [OkPs, OkP] at h
  obtain ⟨⟨gs, e2, h2⟩, _⟩ := h
  have e3 : gs = flds T t c := by
   have := (makes_fields hm).1
   rw [e2] at this
   exact Option.some.inj this
  have ll : l.length = 1 := by rw [<- okps_len h2, e3, h1]
  match l, ll with
  | [p], _ =>
   have := sz_one p r
   unfold gat
   simp only [spq, bh, beq_self_eq_true, if_true, sz, txt, txts, List.length_cons, List.append_nil, List.cons_append, List.nil_append] at this ⊢
   omega
theorem root_count {T : Types} (N : Nar T) : ∀ (f t : Nat) (X : List (List Pat)) (q : List Pat), (∀ r ∈ X, OkPs T [t] r) -> OkPs T [t] q ->
  ∃ a y, 3 * a + y <= Sz (q :: X) /\ (LE T f [t] [] X q).length <= 5 * (1 + (exs 1 X + exn 1 q)) + 3 * Bf a y
 | 0, t, X, q, _, _ => ⟨0, 0, by simp, by simp [LE]⟩
 | f + 1, t, X, q, ho, hq => by
  by_cases hc : (anyHead q && !headed X) = true
  ·refine ⟨0, 0, by simp, ?_⟩
   rw [LE, if_pos hc]
   have : LE T f [] [] (X.filterMap default_) (q.drop 1) = [] := by cases f <;> simp [LE]
   rw [this]
   simp
   omega
  ·have e0 : Lp T f [] [] ((flagX X).map (dropB 1)) (q.drop 1) = [] := by cases f <;> simp [Lp]
   have el : (LE T (f + 1) [t] [] X q).length = 1 + ((innerR T t X q).map fun c => (LE T f (flds T t c) [] (X.filterMap (special c (flds T t c).length)) (spq c (flds T t c).length q)).length).sum := by
    rw [LE, if_neg hc, e0, List.length_cons, List.append_nil, len_flatMap]
    simp only [List.append_nil]
    omega
   rw [el]
   -- one part
   have one : ∀ c ∈ innerR T t X q, ∃ a y, 3 * a + y <= gats sz c (q :: X) /\
     (LE T f (flds T t c) [] (X.filterMap (special c (flds T t c).length)) (spq c (flds T t c).length q)).length <= (5 * (yat c X + wat c q) + (if begins X c = true ∨ bh c q = true then 0 else 4)) + 3 * Bf a y := by
    intro c hcc
    have hm := (inner_makes hcc).1
    have hk := inner_q hcc
    have okX : ∀ r ∈ X.filterMap (special c (flds T t c).length), OkPs T (flds T t c ++ []) r := fun r' h' => by
     obtain ⟨r, m, s⟩ := List.mem_filterMap.mp h'
     exact special_ok (makes_fields hm).1 (ho r m) s
    have okq : OkPs T (flds T t c ++ []) (spq c (flds T t c).length q) := spq_ok hm hq hk
    by_cases hb : begins X c = true ∨ bh c q = true
    ·rw [if_pos hb, Nat.add_zero]
     have v := Vw_named hm ho hq hk hb
     by_cases m0 : (flds T t c).length = 0
     ·have : flds T t c = [] := List.eq_nil_of_length_eq_zero m0
      refine ⟨0, 0, by simp, ?_⟩
      rw [this]
      have : ∀ Y z, LE T f [] [] Y z = [] := fun Y z => by cases f <;> simp [LE]
      rw [this]
      simp
     ·by_cases m1 : (flds T t c).length = 1
      ·obtain ⟨t1, e1⟩ : ∃ t1, flds T t c = [t1] := by
        match flds T t c, m1 with
        | [t1], _ => exact ⟨t1, rfl⟩
       rw [List.append_nil] at okX okq
       have s1 := Sz_spec hm m1 ho
       have s2 := sz_spq hm m1 hq hk
       obtain ⟨a, y, h1, h2⟩ := root_count N f t1 (X.filterMap (special c (flds T t c).length)) (spq c (flds T t c).length q) (by rw [e1] at okX ⊢; exact okX) (by rw [e1] at okq ⊢; exact okq)
       refine ⟨a, y, ?_, ?_⟩
       ·rw [Sz_cons] at h1
        rw [gats_cons]
        omega
       ·have ev : Vw (flds T t c).length (X.filterMap (special c (flds T t c).length)) (spq c (flds T t c).length q) = 1 + (exs 1 (X.filterMap (special c (flds T t c).length)) + exn 1 (spq c (flds T t c).length q)) := by
         unfold Vw; rw [m1]; omega
        rw [ev] at v
        have e2 : LE T f (flds T t c) [] (X.filterMap (special c (flds T t c).length)) (spq c (flds T t c).length q) = LE T f [t1] [] (X.filterMap (special c (flds T t c).length)) (spq c (flds T t c).length q) := by
         rw [e1]
        rw [e2]
        omega
      ·have m2 : 2 <= (flds T t c).length := by omega
       have lc := LE_count N f (flds T t c) [] (X.filterMap (special c (flds T t c).length)) (spq c (flds T t c).length q) okX okq
       have x1 := exs_eq hm ho
       have x2 := q_eq hm hq hk
       have u := un_root (c := c) (n := (flds T t c).length) ho
       have pos : 1 <= nats1 c X + nat1 c q := by
        rcases hb with hb | hb
        ·have := begins_nats hb; omega
        ·have : nat1 c q = 1 := by unfold nat1; rw [if_pos hb]
         omega
       have ml := mul_lem pos m2
       have ml2 := mul_lem2 (a := nats1 c X + nat1 c q) m2
       have ev : Vw (flds T t c).length (X.filterMap (special c (flds T t c).length)) (spq c (flds T t c).length q) + (nats1 c X + nat1 c q) * ((flds T t c).length + 1) = (flds T t c).length + gats sz c (q :: X) := by
        unfold Vw
        rw [gats_cons, Nat.add_mul]
        omega
       have em : (nats1 c X + nat1 c q) * ((flds T t c).length + 1) = (nats1 c X + nat1 c q) * (flds T t c).length + (nats1 c X + nat1 c q) := by rw [Nat.mul_add, Nat.mul_one]
       rw [em] at ev ml2
       refine ⟨nats1 c X + nat1 c q, gats sz c (q :: X) - 3 * (nats1 c X + nat1 c q), ?_, ?_⟩
       ·have : 1 <= Vw (flds T t c).length (X.filterMap (special c (flds T t c).length)) (spq c (flds T t c).length q) := by unfold Vw; omega
        have : (flds T t c).length <= Vw (flds T t c).length (X.filterMap (special c (flds T t c).length)) (spq c (flds T t c).length q) := by unfold Vw; omega
        omega
       ·refine Nat.le_trans lc (Nat.add_le_add (Nat.mul_le_mul_left 5 v) ?_)
        unfold Bf
        rw [if_neg (by omega), Nat.mul_comm _ 3, Nat.mul_assoc]
        refine Nat.mul_le_mul_left 3 (Nat.mul_le_mul (pow_mono (by omega)) ?_)
        omega
    ·have hb1 : begins X c = false := by
      cases z : begins X c with
      | false => rfl
      | true => exact absurd (.inl z) hb
     have hr : ∃ r, q = .any :: r := by
      rcases hk with hk | ⟨l, r, rfl⟩
      ·exact hk
      ·exact absurd (.inr (by simp [bh])) hb
     obtain ⟨r, rfl⟩ := hr
     refine ⟨0, 0, by simp, ?_⟩
     rw [if_neg hb]
     have := LE_any (T := T) f (flds T t c) [] (X.filterMap (special c (flds T t c).length)) (spq c (flds T t c).length (.any :: r)) (spec_any hb1) ⟨r, rfl⟩
     have := N t c
     omega
   obtain ⟨a, y, h1, h2⟩ := gather one
   refine ⟨a, y, ?_, ?_⟩
   ·refine Nat.le_trans h1 ?_
    have := gats_sum sz (inner_nodup T t X q) (q :: X)
    exact this
   ·have p := parts (K := 5) hq (X := X) (len := fun c => 5 * (yat c X + wat c q) + (if begins X c = true ∨ bh c q = true then 0 else 4)) (fun c _ hb => by
     rw [if_pos hb]
     omega) (fun c _ hb hr => by
     obtain ⟨r, rfl⟩ := hr
     have : yat c X = 0 := by
      have := exs_special (T := T) (t := t) (c := c) (ts := []) (X := X)
      unfold yat
      refine sum_zero fun x hx => ?_
      obtain ⟨r', hr', rfl⟩ := List.mem_map.mp hx
      match r', hr' with
      | [], _ => rfl
      | .any :: _, _ => rfl
      | .con d l :: _, hr' =>
       simp only [wat]
       by_cases q : d = c
       ·exfalso
        unfold begins at hb
        have := (List.any_eq_false.mp hb) _ hr'
        simp [q] at this
       ·rw [if_neg q]
     rw [this, wat_any]
     split <;> omega)
    omega
theorem Bf_le {a y : Nat} (h : 3 * a + y <= 64) : Bf a y <= 5242880 := by
 unfold Bf
 split
 ·omega
 ·have ha : a <= 21 := by omega
  have : ∀ a, a <= 21 -> 2 ^ a * (1 + (64 - 3 * a)) <= 5242880 := by decide
  refine Nat.le_trans (Nat.mul_le_mul_left _ (by omega)) (this a ha)
end MC
namespace MC
open Pc
theorem nodup_len {α : Type} [DecidableEq α] : ∀ {l m : List α}, l.Nodup -> (∀ x ∈ l, x ∈ m) -> l.length <= m.length
 | [], _, _, _ => by simp
 | a :: l, m, h, s => by
  rw [List.nodup_cons] at h
  have ha := s a List.mem_cons_self
  have ih := nodup_len (l := l) (m := m.erase a) h.2 fun x hx => by
   have hx' := s x (List.mem_cons_of_mem _ hx)
   have ne : x ≠ a := fun e => h.1 (e ▸ hx)
   exact (List.mem_erase_of_ne ne).mpr hx'
  rw [List.length_erase_of_mem ha] at ih
  have := List.length_pos_of_mem ha
  simp
  omega
def rowsOf (cl : List Pat) : List (List Pat) := cl.map fun p => [p]
def sizes (cl : List Pat) : Nat := (cl.map fun p => (txt p).length).sum
def csz : Pat -> Nat
 | .any => 0
 | .con c l => (txt (.con c l)).length
theorem cn_le (l : List Nat) : cn l <= l.length := List.countP_le_length
theorem cns_rows : ∀ cl : List Pat, cns ((rowsOf cl).map txts) <= sizes cl
 | [] => by simp [rowsOf, sizes, cns]
 | p :: cl => by
  have ih := cns_rows cl
  unfold rowsOf sizes at *
  simp only [List.map_cons, cns_cons, List.sum_cons, txts_single]
  have := cn_le (txt p)
  omega
theorem Sz_rows : ∀ cl : List Pat, Sz (rowsOf cl) <= sizes cl
 | [] => by simp [rowsOf, Sz]
 | p :: cl => by
  have ih := Sz_rows cl
  have e : rowsOf (p :: cl) = [p] :: rowsOf cl := rfl
  rw [e, Sz_cons]
  have := sz_one p []
  unfold sizes at *
  simp only [List.map_cons, List.sum_cons]
  omega
theorem exs_rows : ∀ cl : List Pat, exs 1 (rowsOf cl) <= sizes cl
 | [] => by simp [rowsOf, exs]
 | p :: cl => by
  have ih := exs_rows cl
  have e : rowsOf (p :: cl) = [p] :: rowsOf cl := rfl
  rw [e]
  unfold sizes exs at *
  simp only [List.map_cons, List.sum_cons, exn, ex]
  omega
def prob (t : Nat) (cl : List Pat) (p : Pat) : PP := ([t], rowsOf cl, [p])
def InLE (T : Types) (t : Nat) (cl : List Pat) (p : Pat) (P : Prob) : Prop := ∃ P0, OkPP T P0 /\ P = flat P0 /\ (P0 ∈ LE T 513 [t] [] (rowsOf cl) [p] ∨ P0.1 = [])
theorem rows_ok {T : Types} {t : Nat} {cl : List Pat} (h : ∀ p ∈ cl, OkP T t p) : ∀ r ∈ rowsOf cl, OkPs T [t] r := by
 intro r hr
 obtain ⟨p, hp, rfl⟩ := List.mem_map.mp hr
 simp only [OkPs, and_true]
 exact h p hp
theorem fuel_start {t : Nat} {cl : List Pat} {p : Pat} (h : sizes cl + (txt p).length <= 128) : FuelOk 513 [t] (flagX (rowsOf cl)) [p] := by
 unfold FuelOk cR
 rw [flag_snd, txts_single]
 have := cns_rows cl
 have := cn_le (txt p)
 simp only [List.length_cons, List.length_nil]
 omega
theorem inLE_start {T : Types} {t : Nat} {cl : List Pat} {p : Pat} (h : ∀ p ∈ cl, OkP T t p) (hp : OkP T t p) (hs : sizes cl + (txt p).length <= 128) : InLE T t cl p (flat (prob t cl p)) := by
 refine ⟨prob t cl p, ⟨rows_ok h, by simp only [prob, OkPs, and_true]; exact hp⟩, rfl, ?_⟩
 rcases LE_enter (T := T) (ts := []) (fuel_start (t := t) hs) with h | h
 ·exact .inl h
 ·exact .inr h.1
theorem inLE_kids {T : Types} (N : Nar T) (F : Few T) {t : Nat} {cl : List Pat} {p : Pat} (h : ∀ p ∈ cl, OkP T t p) (hp : OkP T t p) (hs : sizes cl + (txt p).length <= 128) {P : Prob} (i : InLE T t cl p P) : ∀ x ∈ kids T P, InLE T t cl p x.2 := by
 intro x hx
 obtain ⟨P0, ok, rfl, i⟩ := i
 obtain ⟨P', k, e⟩ := kid_pat F ok hx
 refine ⟨P', k.ok ok, e, ?_⟩
 rcases i with i | i
 ·rcases LE_closed N F 513 [t] [] _ _ (rows_ok h) (by simp only [List.append_nil, OkPs, and_true]; exact hp) (fuel_start hs) P0 i P' k with j | j
  ·exact .inl j
  ·exact .inr j.1
 ·exfalso
  rw [kids_nil (show (flat P0).1 = [] from i)] at hx
  simp at hx
theorem tried_few {T : Types} (N : Nar T) {t : Nat} {cl : List Pat} {p : Pat} (h : ∀ p ∈ cl, OkP T t p) (hp : OkP T t p) (hs : sizes cl + csz p <= 64) {tried : List Prob} (nd : tried.Nodup) (i : ∀ P ∈ tried, InLE T t cl p P /\ P.1 ≠ []) : tried.length <= 15729000 := by
 have a : tried.length <= ((LE T 513 [t] [] (rowsOf cl) [p]).map flat).length := by
  refine nodup_len nd fun P hP => ?_
  obtain ⟨⟨P0, _, rfl, q⟩, ne⟩ := i P hP
  rcases q with q | q
  ·exact List.mem_map.mpr ⟨P0, q, rfl⟩
  ·exact absurd q ne
 rw [List.length_map] at a
 obtain ⟨x, y, h1, h2⟩ := root_count N 513 t (rowsOf cl) [p] (rows_ok h) (by simp only [OkPs, and_true]; exact hp)
 have s1 := Sz_rows cl
 have s2 : sz [p] = csz p := by cases p <;> simp [sz, csz]
 have s3 : exn 1 [p] <= csz p := by cases p <;> simp [exn, ex, csz, txt]
 have s4 := exs_rows cl
 rw [Sz_cons, s2] at h1
 have := Bf_le (a := x) (y := y) (by omega)
 omega
theorem unc_len {T : Types} : ∀ (f : Nat) (ts : List Nat) (rows : List (List Pat)) (q r : List Pat), uncaught T f ts rows q = some r -> r.length = ts.length
 | 0, _, _, _, _, h => by simp [uncaught] at h
 | f + 1, [], rows, q, r, h => by
  rw [uncaught] at h
  split at h
  ·simp at h; subst h; rfl
  ·cases h
 | f + 1, t :: ts, rows, [], r, h => by simp [uncaught] at h
 | f + 1, t :: ts, rows, .con c l :: q, r, h => by
  rw [unc_con] at h
  split at h
  ·cases h
  ·split at h
   ·cases h
   ·split at h
    ·cases h
    ·rename_i fs _
     obtain ⟨m, e, rfl⟩ := Option.map_eq_some_iff.mp h
     have := unc_len f _ _ _ _ e
     simp only [List.length_append] at this
     simp [rebuilt, this]
 | f + 1, t :: ts, rows, .any :: q, r, h => by
  rw [unc_any] at h
  split at h
  ·cases h
  ·split at h
   ·cases h
   ·split at h
    ·obtain ⟨m, e, rfl⟩ := Option.map_eq_some_iff.mp h
     have := unc_len f _ _ _ _ e
     simp [this]
    ·obtain ⟨c, _, e⟩ := List.exists_of_findSome?_eq_some h
     split at e
     ·cases e
     ·rename_i fs _
      obtain ⟨m, e2, rfl⟩ := Option.map_eq_some_iff.mp e
      have := unc_len f _ _ _ _ e2
      simp only [List.length_append] at this
      simp [rebuilt, this]
theorem hgt_start {t : Nat} {cl : List Pat} {p : Pat} (h : sizes cl + (txt p).length <= 128) : hgt (flat (prob t cl p)) <= 513 := by
 unfold hgt flat prob
 simp only [txts_single, List.length_cons, List.length_nil]
 have := cns_rows cl
 have := cn_le (txt p)
 omega
theorem shown_first {T : Types} (N : Nar T) (F : Few T) {t : Nat} {cl : List Pat} {p : Pat} (h : ∀ p ∈ cl, OkP T t p) (hp : OkP T t p) (hs : sizes cl + (txt p).length <= 128) :
  (first (uncaught T DEEP [t] (rowsOf cl) [p])).map (textOf DEEP) = flv T (flat (prob t cl p)) := by
 have hh := hgt_start (t := t) hs
 have a := fl_uncaught F DEEP [t] (rowsOf cl) [p] (rows_ok h) (by simp only [OkPs, and_true]; exact hp)
 have b : fl T DEEP (flat (prob t cl p)) = flv T (flat (prob t cl p)) := fl_flv N (by unfold DEEP; omega)
 have c : fl T DEEP (flat (prob t cl p)) = (uncaught T DEEP [t] (rowsOf cl) [p]).map txts := a
 rw [<- b, c]
 cases e : uncaught T DEEP [t] (rowsOf cl) [p] with
 | none => rfl
 | some r =>
  have l := unc_len _ _ _ _ _ e
  match r, l, e with
  | [x], _, e =>
   simp only [first, Option.map_some, txts_single]
   have f1 : fl T DEEP (flat (prob t cl p)) = some (txt x) := by rw [c, e]; simp [txts]
   have f2 := fl_len DEEP _ _ f1
   have f3 := dep_le x
   rw [textOf_eq x DEEP (by omega)]
theorem textOf_small {p : Pat} (h : (txt p).length <= 4096) : textOf DEEP p = txt p := textOf_eq p DEEP (by have := dep_le p; unfold DEEP; omega)
end MC
namespace MC
open Pc
mutual
def noAny : Pat -> Bool
 | .any => false
 | .con _ l => noAnys l
def noAnys : List Pat -> Bool
 | [] => true
 | p :: r => noAny p && noAnys r
end
theorem noAnys_append : ∀ (a b : List Pat), noAnys (a ++ b) = (noAnys a && noAnys b)
 | [], b => by simp [noAnys]
 | p :: a, b => by simp [noAnys, noAnys_append a b, Bool.and_assoc]
mutual
theorem noAny_txt {T : Types} (F : Few T) : ∀ (p : Pat) (t : Nat), OkP T t p -> ((txt p).contains 255 = !noAny p)
 | .any, t, _ => by simp [txt, noAny]
 | .con c l, t, h => by
  simp only [OkP] at h
  obtain ⟨fs, e, h1⟩ := h
  have hc := F.ne e
  have ih := noAnys_txt F l fs h1
  have hc' : (255 == c) = false := by simp; omega
  simp only [txt, noAny, List.contains_cons, hc', Bool.false_or]
  exact ih
theorem noAnys_txt {T : Types} (F : Few T) : ∀ (l : List Pat) (ts : List Nat), OkPs T ts l -> ((txts l).contains 255 = !noAnys l)
 | [], ts, _ => by simp [txts, noAnys]
 | p :: l, [], h => by simp [OkPs] at h
 | p :: l, t :: ts, h => by
  simp only [OkPs] at h
  have a := noAny_txt F p t h.1
  have b := noAnys_txt F l ts h.2
  simp only [txts, noAnys, Bool.not_and]
  rw [<- a, <- b]
  simp
end
mutual
def fitp : Pat -> Pat -> Bool
 | .any, _ => true
 | .con _ _, .any => false
 | .con c l, .con d m => c == d && fitps l m
def fitps : List Pat -> List Pat -> Bool
 | [], [] => true
 | p :: l, v :: m => fitp p v && fitps l m
 | [], _ :: _ => false
 | _ :: _, [] => false
end
mutual
theorem fits_eq : ∀ (p v : Pat) (n : Nat), dep p <= n -> fits n p v = fitp p v
 | .any, v, n, _ => by cases n <;> simp [fits, fitp]
 | .con c l, v, 0, h => by simp [dep] at h
 | .con c l, .any, n + 1, h => by simp [fits, fitp]
 | .con c l, .con d m, n + 1, h => by
  simp only [fits, fitp]
  rw [fitss_eq l m n (by simp [dep] at h; exact h)]
theorem fitss_eq : ∀ (l m : List Pat) (n : Nat), deps l <= n -> (l.length == m.length && (l.zip m).all fun (x : Pat × Pat) => fits n x.1 x.2) = fitps l m
 | [], [], n, _ => by simp [fitps]
 | [], _ :: _, n, _ => by simp [fitps]
 | _ :: _, [], n, _ => by simp [fitps]
 | p :: l, v :: m, n, h => by
  simp only [deps] at h
  have a := fits_eq p v n (by omega)
  have b := fitss_eq l m n (by omega)
  simp only [fitps, List.length_cons, List.zip_cons_cons, List.all_cons]
  rw [<- a, <- b]
  have : (l.length + 1 == m.length + 1) = (l.length == m.length) := by
   rw [Bool.eq_iff_iff]; simp
  rw [this]
  cases (l.length == m.length) <;> simp
end
theorem fitps_append : ∀ (a b c d : List Pat), a.length = c.length -> fitps (a ++ b) (c ++ d) = (fitps a c && fitps b d)
 | [], b, [], d, _ => by simp [fitps]
 | p :: a, b, v :: c, d, h => by simp [fitps, fitps_append a b c d (by simpa using h), Bool.and_assoc]
 | [], _, _ :: _, _, h => by simp at h
 | _ :: _, _, [], _, h => by simp at h
theorem fitps_any (l m : List Pat) (v : Pat) : fitps (.any :: l) (v :: m) = fitps l m := by simp [fitps, fitp]
structure FitAt (T : Types) (ws : List Nat) (ps vs : List Pat) : Prop where
 okp : OkPs T ws ps
 okv : OkPs T ws vs
 na : noAnys vs = true
theorem FitAt.skip {T : Types} {w : Nat} {ws : List Nat} {p v : Pat} {ps vs : List Pat} (h : FitAt T (w :: ws) (p :: ps) (v :: vs)) : FitAt T ws ps vs := by
 obtain ⟨h1, h2, h3⟩ := h
 simp only [OkPs, noAnys, Bool.and_eq_true] at h1 h2 h3
 exact ⟨h1.2, h2.2, h3.2⟩
theorem FitAt.down {T : Types} {w : Nat} {ws : List Nat} {c : Nat} {l m ps vs : List Pat} (h : FitAt T (w :: ws) (.con c l :: ps) (.con c m :: vs)) :
  ∃ fs, fieldsOf T w c = some fs /\ FitAt T (fs ++ ws) (l ++ ps) (m ++ vs) /\ fitps (.con c l :: ps) (.con c m :: vs) = fitps (l ++ ps) (m ++ vs) := by
 obtain ⟨h1, h2, h3⟩ := h
 simp only [OkPs, OkP, noAnys, noAny, Bool.and_eq_true] at h1 h2 h3
 obtain ⟨⟨fs, e, h4⟩, h5⟩ := h1
 obtain ⟨⟨fs', e', h6⟩, h7⟩ := h2
 rw [e] at e'
 cases e'
 refine ⟨fs, e, ⟨okps_append h4 h5, okps_append h6 h7, by rw [noAnys_append, h3.1, h3.2]; rfl⟩, ?_⟩
 rw [fitps_append l ps m vs (by rw [<- okps_len h4, <- okps_len h6])]
 simp [fitps, fitp]
theorem val_head {T : Types} {w : Nat} {ws : List Nat} {vs : List Pat} (h : OkPs T (w :: ws) vs) (na : noAnys vs = true) : ∃ d m us, vs = .con d m :: us /\ ∃ fs, fieldsOf T w d = some fs /\ OkPs T fs m /\ OkPs T ws us /\ noAnys m = true /\ noAnys us = true := by
 match vs, h, na with
 | [], h, _ => simp [OkPs] at h
 | .any :: us, _, na => simp [noAnys, noAny] at na
 | .con d m :: us, h, na =>
  simp only [OkPs, OkP, noAnys, noAny, Bool.and_eq_true] at h na
  obtain ⟨⟨fs, e, h4⟩, h5⟩ := h
  exact ⟨d, m, us, rfl, fs, e, h4, h5, na.1, na.2⟩
theorem which_eq {cl : List Pat} (h : ∀ p ∈ cl, (txt p).length <= 4096) (v : Pat) : Pc.which cl v = cl.findIdx? fun p => fitp p v := by
 unfold Pc.which
 have : ∀ l : List Pat, (∀ p ∈ l, (txt p).length <= 4096) -> (l.findIdx? fun p => fits DEEP p v) = l.findIdx? fun p => fitp p v := by
  intro l
  induction l with
  | nil => intro _; rfl
  | cons p l ih =>
   intro h
   rw [List.findIdx?_cons, List.findIdx?_cons, ih fun q hq => h q (List.mem_cons_of_mem _ hq)]
   rw [fits_eq p v DEEP (by have := dep_le p; have := h p List.mem_cons_self; unfold DEEP; omega)]
 exact this cl h
theorem idx_none {α : Type} {f : α -> Bool} : ∀ {l : List α}, (∀ (i : Nat) (x : α), l[i]? = some x -> f x = false) -> l.findIdx? f = none := by
 intro l h
 rw [List.findIdx?_eq_none_iff]
 intro x hx
 obtain ⟨i, hi⟩ := List.getElem?_of_mem hx
 exact h i x hi
theorem idx_some {α : Type} {f : α -> Bool} {l : List α} {i : Nat} {x : α} (e : l[i]? = some x) (hx : f x = true) (h : ∀ (j : Nat) (y : α), j < i -> l[j]? = some y -> f y = false) : l.findIdx? f = some i := by
 rw [List.findIdx?_eq_some_iff_getElem]
 obtain ⟨hi, q⟩ := List.getElem?_eq_some_iff.mp e
 refine ⟨hi, by rw [q]; exact hx, fun j hj => ?_⟩
 have := h j l[j] hj (List.getElem?_eq_getElem (by omega))
 simp [this]
end MC
namespace MC
open Pc
abbrev Spt := List Nat × Nat × Nat
mutual
def spk (T : Types) (w : List Nat) (t : Nat) : Pat -> List Spt
 | .any => []
 | .con c l => (w, t, c) :: spks T w 0 ((consOf T t).getD c []) l
def spks (T : Types) (w : List Nat) (i : Nat) : List Nat -> List Pat -> List Spt
 | f :: fs, p :: l => spk T (w ++ [i]) f p ++ spks T w (i + 1) fs l
 | _, _ => []
end
def pr2 (x : Spt) : List Nat × Nat := (x.1, x.2.2)
mutual
theorem spots_eq {T : Types} : ∀ (p : Pat) (n t : Nat) (w : List Nat), OkP T t p -> dep p <= n -> spots n w p = (spk T w t p).map pr2
 | .any, n, t, w, _, _ => by cases n <;> simp [spots, spk]
 | .con c l, 0, t, w, _, h => by simp [dep] at h
 | .con c l, n + 1, t, w, ok, h => by
  simp only [OkP] at ok
  obtain ⟨fs, e, h1⟩ := ok
  obtain ⟨h2, h3⟩ := fields_get e
  simp only [spots, spk, List.map_cons, pr2]
  rw [h3, spotss_eq l n fs w 0 h1 (by simp [dep] at h; exact h)]
theorem spotss_eq {T : Types} : ∀ (l : List Pat) (n : Nat) (ts : List Nat) (w : List Nat) (i : Nat), OkPs T ts l -> deps l <= n -> ((l.zipIdx i).flatMap fun (x : Pat × Nat) => spots n (w ++ [x.2]) x.1) = (spks T w i ts l).map pr2
 | [], n, ts, w, i, _, _ => by cases ts <;> simp [spks]
 | p :: l, n, [], w, i, h, _ => by simp [OkPs] at h
 | p :: l, n, t :: ts, w, i, h, hd => by
  simp only [OkPs] at h
  simp only [deps] at hd
  rw [List.zipIdx_cons, List.flatMap_cons, spotss_eq l n ts w (i + 1) h.2 (by omega)]
  simp only [spks, List.map_append]
  rw [spots_eq p n t (w ++ [i]) h.1 (by omega)]
end
def spw (T : Types) : List (List Nat × Nat) -> List Pat -> List Spt
 | x :: xs, p :: l => spk T x.1 x.2 p ++ spw T xs l
 | _, _ => []
def below (w : List Nat) (i : Nat) : List Nat -> List (List Nat × Nat)
 | [] => []
 | f :: fs => (w ++ [i], f) :: below w (i + 1) fs
theorem below_snd (w : List Nat) : ∀ (fs : List Nat) (i : Nat), (below w i fs).map (·.2) = fs
 | [], i => by simp [below]
 | f :: fs, i => by simp [below, below_snd w fs (i + 1)]
theorem below_len (w : List Nat) (fs : List Nat) (i : Nat) : (below w i fs).length = fs.length := by
 have := congrArg List.length (below_snd w fs i)
 simpa using this
theorem below_get (w : List Nat) : ∀ (fs : List Nat) (i j f : Nat), fs[j]? = some f -> (below w i fs)[j]? = some (w ++ [i + j], f)
 | [], i, j, f, h => by simp at h
 | g :: fs, i, 0, f, h => by simp at h; simp [below, h]
 | g :: fs, i, j + 1, f, h => by
  simp at h
  have := below_get w fs (i + 1) j f h
  simp only [below, List.getElem?_cons_succ, this]
  congr 4; omega
theorem spw_below (T : Types) (w : List Nat) : ∀ (fs : List Nat) (i : Nat) (l : List Pat) (xs : List (List Nat × Nat)) (r : List Pat), fs.length = l.length -> spw T (below w i fs ++ xs) (l ++ r) = spks T w i fs l ++ spw T xs r
 | [], i, [], xs, r, _ => by simp [below, spks]
 | f :: fs, i, p :: l, xs, r, h => by
  simp only [below, List.cons_append, spw, spks, List.append_assoc]
  rw [spw_below T w fs (i + 1) l xs r (by simpa using h)]
 | [], _, _ :: _, _, _, h => by simp at h
 | _ :: _, _, [], _, _, h => by simp at h
theorem spw_con (T : Types) {w : List Nat} {t c : Nat} {fs : List Nat} {l : List Pat} {xs : List (List Nat × Nat)} {r : List Pat} (e : fieldsOf T t c = some fs) (h : OkPs T fs l) :
  spw T ((w, t) :: xs) (.con c l :: r) = (w, t, c) :: spw T (below w 0 fs ++ xs) (l ++ r) := by
 obtain ⟨h2, h3⟩ := fields_get e
 rw [spw_below T w fs 0 l xs r (okps_len h)]
 simp only [spw, spk, h3, List.cons_append]
theorem spw_any (T : Types) {x : List Nat × Nat} {xs : List (List Nat × Nat)} {r : List Pat} : spw T (x :: xs) (.any :: r) = spw T xs r := by simp [spw, spk]
mutual
theorem spk_typ {T : Types} (W : WF T) : ∀ (p : Pat) (w : List Nat) (t : Nat), t < T.length -> OkP T t p -> ∀ x ∈ spk T w t p, x.2.1 < T.length /\ x.2.2 < (consOf T x.2.1).length /\ x.1.length <= w.length + (txt p).length
 | .any, w, t, _, _, x, hx => by simp [spk] at hx
 | .con c l, w, t, ht, ok, x, hx => by
  simp only [OkP] at ok
  obtain ⟨fs, e, h1⟩ := ok
  obtain ⟨h2, h3⟩ := fields_get e
  simp only [spk, List.mem_cons] at hx
  rcases hx with rfl | hx
  ·refine ⟨ht, h2, ?_⟩
   simp
  ·rw [h3] at hx
   have hf : ∀ f ∈ fs, f < T.length := by
    have m1 : consOf T t ∈ T := by
     have : consOf T t = T[t] := by unfold consOf; rw [List.getD_eq_getElem?_getD, List.getElem?_eq_getElem ht]; rfl
     rw [this]; exact List.getElem_mem ht
    have m2 : fs ∈ consOf T t := List.mem_of_getElem? e
    exact W _ m1 _ m2
   have := spks_typ W l w 0 fs hf h1 x hx
   refine ⟨this.1, this.2.1, ?_⟩
   simp only [txt, List.length_cons]
   omega
theorem spks_typ {T : Types} (W : WF T) : ∀ (l : List Pat) (w : List Nat) (i : Nat) (ts : List Nat), (∀ f ∈ ts, f < T.length) -> OkPs T ts l -> ∀ x ∈ spks T w i ts l, x.2.1 < T.length /\ x.2.2 < (consOf T x.2.1).length /\ x.1.length <= w.length + 1 + (txts l).length
 | [], w, i, ts, _, _, x, hx => by cases ts <;> simp [spks] at hx
 | p :: l, w, i, [], _, h, x, hx => by simp [OkPs] at h
 | p :: l, w, i, t :: ts, hf, h, x, hx => by
  simp only [OkPs] at h
  simp only [spks, List.mem_append] at hx
  simp only [txts, List.length_append]
  rcases hx with hx | hx
  ·have := spk_typ W p (w ++ [i]) t (hf t List.mem_cons_self) h.1 x hx
   simp only [List.length_append, List.length_cons, List.length_nil] at this
   refine ⟨this.1, this.2.1, ?_⟩
   omega
  ·have := spks_typ W l w (i + 1) ts (fun f q => hf f (List.mem_cons_of_mem _ q)) h.2 x hx
   refine ⟨this.1, this.2.1, ?_⟩
   omega
end
mutual
theorem spk_len {T : Types} : ∀ (p : Pat) (w : List Nat) (t : Nat), (spk T w t p).length <= (txt p).length
 | .any, w, t => by simp [spk]
 | .con c l, w, t => by
  have := spks_len l w 0 ((consOf T t).getD c []) (T := T)
  simp only [spk, txt, List.length_cons]
  omega
theorem spks_len {T : Types} : ∀ (l : List Pat) (w : List Nat) (i : Nat) (ts : List Nat), (spks T w i ts l).length <= (txts l).length
 | [], w, i, ts => by cases ts <;> simp [spks]
 | p :: l, w, i, [] => by simp [spks]
 | p :: l, w, i, t :: ts => by
  have := spk_len p (w ++ [i]) t (T := T)
  have := spks_len l w (i + 1) ts (T := T)
  simp only [spks, txts, List.length_append]
  omega
end
def outF (a : Asked) (sp : List Spt) : Bool := sp.any fun x => (answerAt a x.1).getD x.2.2 != x.2.2
def unF (a : Asked) (sp : List Spt) : Option Spt := sp.find? fun x => (answerAt a x.1).isNone
theorem out_eq {T : Types} {a : Asked} {t : Nat} {p : Pat} (ok : OkP T t p) (h : (txt p).length <= 4096) : ruledOut a p = outF a (spk T [] t p) := by
 unfold ruledOut outF
 rw [spots_eq p DEEP t [] ok (by have := dep_le p; unfold DEEP; omega), List.any_map]
 congr 1
 funext x
 simp only [Function.comp_apply, pr2]
 cases answerAt a x.1 with
 | none => simp
 | some c => simp
theorem find_map {α β : Type} (g : α -> β) (f : β -> Bool) : ∀ l : List α, (l.map g).find? f = (l.find? fun x => f (g x)).map g
 | [] => rfl
 | x :: l => by
  simp only [List.map_cons, List.find?_cons, find_map g f l]
  cases f (g x) <;> simp
theorem un_eq {T : Types} {a : Asked} {t : Nat} {p : Pat} (ok : OkP T t p) (h : (txt p).length <= 4096) : ((spots DEEP [] p).find? fun (x : List Nat × Nat) => (answerAt a x.1).isNone) = (unF a (spk T [] t p)).map pr2 := by
 unfold unF
 rw [spots_eq p DEEP t [] ok (by have := dep_le p; unfold DEEP; omega), find_map]
 rfl
inductive Nx where
 | ask (x : Spt)
 | clause (i : Nat)
 | nothing
def leftF (a : Asked) (sps : List (List Spt)) : Option Nat := sps.findIdx? fun sp => !outF a sp
def nxF (a : Asked) (sps : List (List Spt)) : Nx := match leftF a sps with
 | none => .nothing
 | some i => match unF a (sps.getD i []) with
  | none => .clause i
  | some x => .ask x
def toNext : Nx -> Next
 | .ask x => .ask x.1
 | .clause i => .clause i
 | .nothing => .nothing
def spsOf (T : Types) (t : Nat) (cl : List Pat) : List (List Spt) := cl.map fun p => spk T [] t p
theorem findIdx_congr {α β : Type} (g : α -> β) (f : β -> Bool) (f' : α -> Bool) : ∀ l : List α, (∀ x ∈ l, f' x = f (g x)) -> l.findIdx? f' = (l.map g).findIdx? f
 | [], _ => rfl
 | x :: l, h => by
  rw [List.map_cons, List.findIdx?_cons, List.findIdx?_cons, h x List.mem_cons_self, findIdx_congr g f f' l fun y hy => h y (List.mem_cons_of_mem _ hy)]
theorem next_eq {T : Types} {t : Nat} {cl : List Pat} (a : Asked) (ok : ∀ p ∈ cl, OkP T t p) (h : ∀ p ∈ cl, (txt p).length <= 4096) : next cl a = toNext (nxF a (spsOf T t cl)) := by
 unfold next nxF leftF
 have e : (cl.findIdx? fun (p : Pat) => !ruledOut a p) = (spsOf T t cl).findIdx? fun sp => !outF a sp :=
  findIdx_congr (fun p => spk T [] t p) _ _ cl fun p hp => by rw [out_eq (ok p hp) (h p hp)]
 rw [e]
 cases q : (spsOf T t cl).findIdx? fun sp => !outF a sp with
 | none => rfl
 | some i =>
  simp only
  rw [<- e] at q
  obtain ⟨hi, _⟩ := List.findIdx?_eq_some_iff_getElem.mp q
  have hm : cl[i] ∈ cl := List.getElem_mem hi
  have g1 : cl.getD i .any = cl[i] := by rw [List.getD_eq_getElem?_getD, List.getElem?_eq_getElem hi]; rfl
  have g2 : (spsOf T t cl).getD i [] = spk T [] t cl[i] := by
   unfold spsOf
   rw [List.getD_eq_getElem?_getD, List.getElem?_map, List.getElem?_eq_getElem hi]; rfl
  rw [g1, g2, un_eq (ok _ hm) (h _ hm)]
  cases unF a (spk T [] t cl[i]) <;> rfl
mutual
theorem type_p {T : Types} {a : Asked} : ∀ (p : Pat) (u : List Nat) (t : Nat), OkP T t p -> outF a (spk T u t p) = false -> ∀ x, unF a (spk T u t p) = some x -> ∃ w, x.1 = u ++ w /\ typeAt T t a u w = some x.2.1
 | .any, u, t, _, _, x, h => by simp [spk, unF] at h
 | .con c l, u, t, ok, ho, x, h => by
  simp only [OkP] at ok
  obtain ⟨fs, e, h1⟩ := ok
  obtain ⟨h2, h3⟩ := fields_get e
  simp only [spk, h3, outF, List.any_cons, Bool.or_eq_false_iff] at ho
  simp only [spk, h3, unF, List.find?_cons] at h
  cases q : answerAt a u with
  | none =>
   rw [q] at h
   simp at h
   subst h
   exact ⟨[], by simp, by cases u <;> simp [typeAt]⟩
  | some d =>
   rw [q] at h ho
   simp at h ho
   have hd : d = c := ho.1
   subst hd
   obtain ⟨w, j, e1, f, e2, e3, _⟩ := type_ps l u 0 fs h1 (by unfold outF; simpa using ho.2) x h
   refine ⟨j :: w, e1, ?_⟩
   simp only [typeAt, q, e]
   simp only [Nat.sub_zero] at e2
   simp only [Option.bind_some, e2]
   exact e3
theorem type_ps {T : Types} {a : Asked} : ∀ (l : List Pat) (u : List Nat) (i : Nat) (ts : List Nat), OkPs T ts l -> outF a (spks T u i ts l) = false -> ∀ x, unF a (spks T u i ts l) = some x -> ∃ w j, x.1 = u ++ j :: w /\ ∃ f, ts[j - i]? = some f /\ typeAt T f a (u ++ [j]) w = some x.2.1 /\ i <= j
 | [], u, i, ts, _, _, x, h => by cases ts <;> simp [spks, unF] at h
 | p :: l, u, i, [], h, _, x, _ => by simp [OkPs] at h
 | p :: l, u, i, t :: ts, ok, ho, x, h => by
  simp only [OkPs] at ok
  simp only [spks, outF, List.any_append, Bool.or_eq_false_iff] at ho
  simp only [spks, unF, List.find?_append] at h
  cases q : unF a (spk T (u ++ [i]) t p) with
  | some y =>
   unfold unF at q
   rw [q] at h
   simp at h
   subst h
   obtain ⟨w, e1, e2⟩ := type_p p (u ++ [i]) t ok.1 ho.1 y (by unfold unF; exact q)
   exact ⟨w, i, by rw [e1]; simp, t, by simp, e2, Nat.le_refl _⟩
  | none =>
   unfold unF at q
   rw [q] at h
   simp at h
   obtain ⟨w, j, e1, f, e2, e3, e4⟩ := type_ps l u (i + 1) ts ok.2 ho.2 x (by unfold unF; exact h)
   refine ⟨w, j, e1, f, ?_, e3, by omega⟩
   have : j - i = (j - (i + 1)) + 1 := by omega
   rw [this, List.getElem?_cons_succ]
   exact e2
end
theorem typ_ask {T : Types} {t : Nat} {cl : List Pat} {a : Asked} (ok : ∀ p ∈ cl, OkP T t p) {x : Spt} (h : nxF a (spsOf T t cl) = .ask x) : typeAt T t a [] x.1 = some x.2.1 /\ (∃ p ∈ cl, x ∈ spk T [] t p) /\ answerAt a x.1 = none := by
 unfold nxF leftF at h
 split at h
 ·cases h
 ·rename_i i q
  split at h
  ·cases h
  ·rename_i y q2
   cases h
   obtain ⟨hi, q3, _⟩ := List.findIdx?_eq_some_iff_getElem.mp q
   have hl : i < cl.length := by unfold spsOf at hi; rw [List.length_map] at hi; exact hi
   have hm : cl[i] ∈ cl := List.getElem_mem hl
   have g2 : (spsOf T t cl).getD i [] = spk T [] t cl[i] := by
    unfold spsOf
    rw [List.getD_eq_getElem?_getD, List.getElem?_map, List.getElem?_eq_getElem hl]; rfl
   have g3 : (spsOf T t cl)[i] = spk T [] t cl[i] := List.getElem_map (fun p => spk T [] t p)
   rw [g2] at q2
   rw [g3] at q3
   obtain ⟨w, e1, e2⟩ := type_p cl[i] [] t (ok _ hm) (by simpa using q3) _ q2
   simp at e1
   subst e1
   refine ⟨e2, ⟨cl[i], hm, List.mem_of_find?_eq_some q2⟩, ?_⟩
   have := List.find?_some q2
   simpa using this
def goF (T : Types) (sps : List (List Spt)) : Asked -> List Nat -> Option Asked
 | a, [] => some a
 | a, c :: r => match nxF a sps with
  | .ask x => if makes T x.2.1 c = true then goF T sps (a ++ [(x.1, c)]) r else none
  | _ => none
theorem asking_eq {T : Types} {t : Nat} {cl : List Pat} (ok : ∀ p ∈ cl, OkP T t p) (h : ∀ p ∈ cl, (txt p).length <= 4096) : ∀ (l : List Nat) (a : Asked), asking T t cl (l.length + 1) a l = (goF T (spsOf T t cl) a l).map fun b => toNext (nxF b (spsOf T t cl))
 | [], a => by
  simp only [List.length_nil, Nat.zero_add, asking, goF, Option.map_some]
  rw [<- next_eq a ok h]
 | c :: r, a => by
  have ih := asking_eq ok h r
  simp only [List.length_cons, asking, goF]
  rw [next_eq a ok h]
  cases q : nxF a (spsOf T t cl) with
  | clause i => rfl
  | nothing => rfl
  | ask x =>
   obtain ⟨e, _⟩ := typ_ask ok q
   simp only [toNext, e]
   split
   ·exact ih _
   ·rfl
end MC
namespace D
open Pc
structure TOk (T : Types) : Prop where
 wf : MC.WF T
 few : T.length <= 16
 cons : ∀ cs ∈ T, cs.length <= 16
 flds : ∀ cs ∈ T, ∀ fs ∈ cs, fs.length <= 4
end D
namespace MC
open Pc Pcheck D
theorem consOf_mem {T : Types} {t : Nat} (ht : t < T.length) : consOf T t ∈ T := by
 have : consOf T t = T[t] := by unfold consOf; rw [List.getD_eq_getElem?_getD, List.getElem?_eq_getElem ht]; rfl
 rw [this]; exact List.getElem_mem ht
theorem consOf_len {T : Types} (ok : TOk T) (t : Nat) : (consOf T t).length <= 16 := by
 by_cases ht : t < T.length
 ·exact ok.cons _ (consOf_mem ht)
 ·unfold consOf
  rw [List.getD_eq_getElem?_getD, List.getElem?_eq_none (by omega)]
  simp
theorem few_of {T : Types} (ok : TOk T) : Few T := fun t => by have := consOf_len ok t; omega
structure StOk (s : State) : Prop where
 ty : TOk s.types
 op : ∀ t cl, s.opened = some (t, cl) -> t < s.types.length /\ (∀ p ∈ cl, OkP s.types t p) /\ sizes cl <= 64 /\ cl.length <= 32
theorem stOk_start : StOk Pcheck.start := ⟨⟨fun cs h => by simp [Pcheck.start] at h, by simp [Pcheck.start], fun cs h => by simp [Pcheck.start] at h, fun cs h => by simp [Pcheck.start] at h⟩, fun t cl h => by simp [Pcheck.start] at h⟩
theorem sizes_append (a b : List Pat) : sizes (a ++ b) = sizes a + sizes b := by simp [sizes]
theorem sizes_mem : ∀ {cl : List Pat} {x : Pat}, x ∈ cl -> (txt x).length <= sizes cl
 | [], _, h => by simp at h
 | y :: cl, x, h => by
  unfold sizes
  rw [List.map_cons, List.sum_cons]
  rcases List.mem_cons.mp h with rfl | h
  ·omega
  ·have := sizes_mem h
   unfold sizes at this
   omega
theorem foldl_sum : ∀ (l : List Nat) (a : Nat), l.foldl (fun (a b : Nat) => a + b) a = a + l.sum
 | [], a => by simp
 | x :: l, a => by simp [foldl_sum l (a + x)]; omega
theorem sizeOf_eq {cl : List Pat} (h : sizes cl <= 64) : sizeOf_ cl = sizes cl := by
 unfold sizeOf_
 rw [foldl_sum, Nat.zero_add]
 unfold sizes
 congr 1
 refine List.map_congr_left fun p hp => ?_
 rw [textOf_small (by have := sizes_mem hp; omega)]
theorem csz_le (p : Pat) : csz p <= (txt p).length := by cases p <;> simp [csz]
theorem sizes_take_at {cl : List Pat} {i : Nat} {p : Pat} (h : cl[i]? = some p) : sizes (cl.take i) + (txt p).length <= sizes cl := by
 obtain ⟨hi, e⟩ := List.getElem?_eq_some_iff.mp h
 have a : sizes cl = sizes (cl.take i) + sizes (cl.drop i) := by rw [<- sizes_append, List.take_append_drop]
 rw [List.drop_eq_getElem_cons hi, e] at a
 have b : sizes (p :: cl.drop (i + 1)) = (txt p).length + sizes (cl.drop (i + 1)) := by simp [sizes]
 omega
theorem sizes_erase : ∀ (cl : List Pat) (i : Nat), sizes (cl.eraseIdx i) <= sizes cl
 | [], i => by simp
 | p :: cl, 0 => by simp [sizes]
 | p :: cl, i + 1 => by
  have := sizes_erase cl i
  simp [sizes] at *
  omega
theorem ok_type {s : State} (h : StOk s) (n : s.types.length < 16) (o : s.opened = none) : StOk { s with types := s.types ++ [[]] } := by
 refine ⟨⟨?_, by simp; omega, ?_, ?_⟩, fun t cl e => by rw [show s.opened = some (t, cl) from e] at o; cases o⟩
 ·intro cs hc fs hf f hff
  simp only [List.length_append, List.length_cons, List.length_nil]
  rcases List.mem_append.mp hc with hc | hc
  ·have := h.ty.wf cs hc fs hf f hff
   omega
  ·simp at hc
   subst hc
   simp at hf
 ·intro cs hc
  rcases List.mem_append.mp hc with hc | hc
  ·exact h.ty.cons cs hc
  ·simp at hc
   subst hc
   simp
 ·intro cs hc
  rcases List.mem_append.mp hc with hc | hc
  ·exact h.ty.flds cs hc
  ·simp at hc
   subst hc
   intro fs hf
   simp at hf
theorem set_mem {α : Type} {l : List α} {i : Nat} {x y : α} (h : y ∈ l.set i x) : y ∈ l ∨ y = x := List.mem_or_eq_of_mem_set h
theorem ok_con {s : State} (h : StOk s) {t : Nat} {l : List Nat} (ht : t < s.types.length) (hl : l.length <= 4) (hf : ∀ f ∈ l, f < s.types.length) (n : (consOf s.types t).length < 16) (o : s.opened = none) :
  StOk { s with types := s.types.set t (consOf s.types t ++ [l]) } := by
 have hm := consOf_mem ht
 refine ⟨⟨?_, by simp only [List.length_set]; exact h.ty.few, ?_, ?_⟩, fun t cl e => by rw [show s.opened = some (t, cl) from e] at o; cases o⟩
 ·intro cs hc fs hfs f hff
  simp only [List.length_set]
  rcases set_mem hc with hc | rfl
  ·exact h.ty.wf cs hc fs hfs f hff
  ·rcases List.mem_append.mp hfs with hfs | hfs
   ·exact h.ty.wf _ hm fs hfs f hff
   ·simp at hfs
    subst hfs
    exact hf f hff
 ·intro cs hc
  rcases set_mem hc with hc | rfl
  ·exact h.ty.cons cs hc
  ·simp; omega
 ·intro cs hc fs hfs
  rcases set_mem hc with hc | rfl
  ·exact h.ty.flds cs hc fs hfs
  ·rcases List.mem_append.mp hfs with hfs | hfs
   ·exact h.ty.flds _ hm fs hfs
   ·simp at hfs
    subst hfs
    exact hl
theorem ok_begin {s : State} (h : StOk s) {t : Nat} (ht : t < s.types.length) : StOk { s with opened := some (t, []) } :=
 ⟨h.ty, fun u cl e => by simp at e; obtain ⟨rfl, rfl⟩ := e; exact ⟨ht, by simp, by simp [sizes], by simp⟩⟩
theorem ok_clause {s : State} (h : StOk s) {t : Nat} {cl : List Pat} {q : Pat} (o : s.opened = some (t, cl)) (hq : OkP s.types t q) (n : cl.length < 32) (z : sizes cl + (txt q).length <= 64) : StOk { s with opened := some (t, cl ++ [q]) } := by
 obtain ⟨h1, h2, h3, h4⟩ := h.op t cl o
 refine ⟨h.ty, fun u cl' e => ?_⟩
 simp at e
 obtain ⟨rfl, rfl⟩ := e
 refine ⟨h1, fun p hp => ?_, ?_, by simp; omega⟩
 ·rcases List.mem_append.mp hp with hp | hp
  ·exact h2 p hp
  ·simp at hp
   subst hp
   exact hq
 ·rw [sizes_append]
  have : sizes [q] = (txt q).length := by simp [sizes]
  omega
theorem stOk_drop {s : State} (h : StOk s) {t : Nat} {cl : List Pat} (o : s.opened = some (t, cl)) (i : Nat) : StOk { s with opened := some (t, cl.eraseIdx i) } := by
 obtain ⟨h1, h2, h3, h4⟩ := h.op t cl o
 refine ⟨h.ty, fun u cl' e => ?_⟩
 simp at e
 obtain ⟨rfl, rfl⟩ := e
 refine ⟨h1, fun p hp => h2 p (List.mem_of_mem_eraseIdx hp), ?_, ?_⟩
 ·have := sizes_erase cl i
  omega
 ·have := List.length_eraseIdx_le cl i
  omega
theorem ok_end {s : State} (h : StOk s) : StOk { s with opened := none } := ⟨h.ty, fun t cl e => by simp at e⟩
def tellP : Option (List Nat) -> List Int
 | none => [0]
 | some l => (l.length : Int) :: l.map fun (n : Nat) => (n : Int)
theorem tell_shown (x : Option Pat) : PcheckNeutral.told (shown x) = tellP (x.map (textOf DEEP)) := by
 cases x with
 | none => rfl
 | some p => rfl
theorem nar_of {T : Types} (ok : TOk T) : Nar T := by
 intro t c
 unfold flds
 by_cases ht : t < T.length
 ·by_cases hc : c < (consOf T t).length
  ·have m2 : (consOf T t).getD c [] ∈ consOf T t := by
    rw [List.getD_eq_getElem?_getD, List.getElem?_eq_getElem hc]; exact List.getElem_mem hc
   exact ok.flds _ (consOf_mem ht) _ m2
  ·rw [List.getD_eq_getElem?_getD, List.getElem?_eq_none (by omega)]; simp
 ·have : consOf T t = [] := by
   unfold consOf
   rw [List.getD_eq_getElem?_getD, List.getElem?_eq_none (by omega)]; rfl
  rw [this]; simp
theorem tell_missing {T : Types} (ok : TOk T) {t : Nat} {cl : List Pat} (h : ∀ p ∈ cl, OkP T t p) (z : sizes cl <= 64) : PcheckNeutral.told (shown (Pc.missing T t cl)) = tellP (flv T (flat (prob t cl .any))) := by
 rw [tell_shown]
 congr 1
 exact shown_first (nar_of ok) (few_of ok) h (by simp [OkP]) (by simp [txt]; omega)
theorem reach_map {T : Types} (ok : TOk T) {t : Nat} {cl : List Pat} (h : ∀ p ∈ cl, OkP T t p) (z : sizes cl <= 64) {i : Nat} {p : Pat} (e : cl[i]? = some p) : (Pc.reach T t cl i).map (textOf DEEP) = flv T (flat (prob t (cl.take i) p)) := by
 unfold Pc.reach
 rw [e]
 simp only [Option.bind_some]
 exact shown_first (nar_of ok) (few_of ok) (fun q hq => h q (List.mem_of_mem_take hq)) (h p (List.mem_of_getElem? e)) (by have := sizes_take_at e; omega)
theorem tell_reach {T : Types} (ok : TOk T) {t : Nat} {cl : List Pat} (h : ∀ p ∈ cl, OkP T t p) (z : sizes cl <= 64) {i : Nat} {p : Pat} (e : cl[i]? = some p) : PcheckNeutral.told (shown (Pc.reach T t cl i)) = tellP (flv T (flat (prob t (cl.take i) p))) := by
 rw [tell_shown, reach_map ok h z e]
theorem reach_none {T : Types} (ok : TOk T) {t : Nat} {cl : List Pat} (h : ∀ p ∈ cl, OkP T t p) (z : sizes cl <= 64) {i : Nat} {p : Pat} (e : cl[i]? = some p) : (Pc.reach T t cl i).isNone = (flv T (flat (prob t (cl.take i) p))).isNone := by
 rw [<- reach_map ok h z e, Option.isNone_map]
def numsOf : Pcheck.Call -> List Nat
 | .type_ => [1]
 | .con t l => 2 :: t :: l.length :: l
 | .hasValue t => [3, t]
 | .begin_ t => [4, t]
 | .clause p => 5 :: p.length :: p
 | .missing => [6]
 | .reach i => [7, i]
 | .which v => 8 :: v.length :: v
 | .choose l => 9 :: l.length :: l
 | .useless => [10]
 | .drop i => [11, i]
 | .end_ => [12]
def rowOf : Pcheck.Call -> List Nat
 | .con _ l => l
 | .clause p => p
 | .which v => v
 | .choose l => l
 | _ => []
def runC : State -> List Pcheck.Call -> List Int
 | _, [] => []
 | s, c :: r => ((PcheckNeutral.told (Pcheck.step s c).2).length : Int) :: PcheckNeutral.told (Pcheck.step s c).2 ++ runC (Pcheck.step s c).1 r
def cI (l : List Nat) : List Int := l.map fun (n : Nat) => (n : Int)
theorem cI_nats {l : List Int} (h : ∀ z ∈ l, 0 <= z) : cI (PcheckNeutral.nats l) = l := by
 unfold cI PcheckNeutral.nats
 rw [List.map_map]
 conv => rhs; rw [<- List.map_id l]
 refine List.map_congr_left fun z hz => ?_
 have := h z hz
 simp only [Function.comp_apply, id]
 omega
theorem long_ok {l : List Int} {n : Nat} {lo hi : Int} (h : PcheckNeutral.long l n lo hi = true) : l.length <= n /\ ∀ z ∈ l, lo <= z /\ z <= hi := by
 unfold PcheckNeutral.long at h
 rw [Bool.and_eq_true, List.all_eq_true] at h
 refine ⟨of_decide_eq_true h.1, fun z hz => ?_⟩
 have := h.2 z hz
 rw [Bool.and_eq_true] at this
 exact ⟨of_decide_eq_true this.1, of_decide_eq_true this.2⟩
theorem nat_ok {z : Int} {b : Nat} (h : PcheckNeutral.natural z b = true) : 0 <= z /\ z < 2 ^ b := by
 unfold PcheckNeutral.natural at h
 rw [Bool.and_eq_true] at h
 exact ⟨of_decide_eq_true h.1, of_decide_eq_true h.2⟩
theorem shape_of {p : Int} {n k : Nat} (h : PyWrpchk.shape p = some (n, k)) : (p = 1 /\ n = 0 /\ k = 0) ∨ (p = 2 /\ n = 1 /\ k = 1) ∨ (p = 3 /\ n = 1 /\ k = 0) ∨ (p = 4 /\ n = 1 /\ k = 0) ∨ (p = 5 /\ n = 0 /\ k = 1) ∨ (p = 6 /\ n = 0 /\ k = 0) ∨ (p = 7 /\ n = 1 /\ k = 0) ∨ (p = 8 /\ n = 0 /\ k = 1) ∨ (p = 9 /\ n = 0 /\ k = 1) ∨ (p = 10 /\ n = 0 /\ k = 0) ∨ (p = 11 /\ n = 1 /\ k = 0) ∨ (p = 12 /\ n = 0 /\ k = 0) := by
 have e : ∀ {a b : Nat}, some (a, b) = some (n, k) -> n = a /\ k = b := fun q => by cases q; exact ⟨rfl, rfl⟩
 unfold PyWrpchk.shape at h
 by_cases c : p = 1
 ·rw [if_pos c] at h; exact .inl ⟨c, e h⟩
 rw [if_neg c] at h; clear c; refine .inr ?_
 by_cases c : p = 2
 ·rw [if_pos c] at h; exact .inl ⟨c, e h⟩
 rw [if_neg c] at h; clear c; refine .inr ?_
 by_cases c : p = 3
 ·rw [if_pos c] at h; exact .inl ⟨c, e h⟩
 rw [if_neg c] at h; clear c; refine .inr ?_
 by_cases c : p = 4
 ·rw [if_pos c] at h; exact .inl ⟨c, e h⟩
 rw [if_neg c] at h; clear c; refine .inr ?_
 by_cases c : p = 5
 ·rw [if_pos c] at h; exact .inl ⟨c, e h⟩
 rw [if_neg c] at h; clear c; refine .inr ?_
 by_cases c : p = 6
 ·rw [if_pos c] at h; exact .inl ⟨c, e h⟩
 rw [if_neg c] at h; clear c; refine .inr ?_
 by_cases c : p = 7
 ·rw [if_pos c] at h; exact .inl ⟨c, e h⟩
 rw [if_neg c] at h; clear c; refine .inr ?_
 by_cases c : p = 8
 ·rw [if_pos c] at h; exact .inl ⟨c, e h⟩
 rw [if_neg c] at h; clear c; refine .inr ?_
 by_cases c : p = 9
 ·rw [if_pos c] at h; exact .inl ⟨c, e h⟩
 rw [if_neg c] at h; clear c; refine .inr ?_
 by_cases c : p = 10
 ·rw [if_pos c] at h; exact .inl ⟨c, e h⟩
 rw [if_neg c] at h; clear c; refine .inr ?_
 by_cases c : p = 11
 ·rw [if_pos c] at h; exact .inl ⟨c, e h⟩
 rw [if_neg c] at h; clear c; refine .inr ?_
 by_cases c : p = 12
 ·rw [if_pos c] at h; exact ⟨c, e h⟩
 rw [if_neg c] at h; cases h
def CallIs (d : List (List Int)) : Prop := ∃ x, PcheckNeutral.callOf (PyWrpchk.whole d) = some x /\ PyFlat.put1 d = cI (numsOf x) /\ (rowOf x).length <= 2048
theorem is_num {p t : Int} {x : Pcheck.Call} {n : Nat} (ht : PcheckNeutral.natural t 32 = true) (h : PcheckNeutral.callOf (PyWrpchk.whole [[p, t]]) = some x) (e : numsOf x = [n, t.toNat]) (ep : (n : Int) = p) (r : rowOf x = []) : CallIs [[p, t]] := by
 have a := nat_ok ht
 have et : ((t.toNat : Nat) : Int) = t := by omega
 refine ⟨x, h, ?_, by rw [r]; simp⟩
 rw [e]
 show [p, t] = [(n : Int), ((t.toNat : Nat) : Int)]
 rw [et, ep]
theorem is_row {p : Int} {l : List Int} {x : Pcheck.Call} {n m : Nat} {hi : Int} (hl : PcheckNeutral.long l m 0 hi = true) (hm : m <= 2048) (h : PcheckNeutral.callOf (PyWrpchk.whole [[p], l]) = some x) (e : numsOf x = n :: (PcheckNeutral.nats l).length :: PcheckNeutral.nats l) (ep : (n : Int) = p) (r : rowOf x = PcheckNeutral.nats l) : CallIs [[p], l] := by
 have b := long_ok hl
 have ec := cI_nats fun z hz => (b.2 z hz).1
 have el : (PcheckNeutral.nats l).length = l.length := by simp [PcheckNeutral.nats]
 refine ⟨x, h, ?_, by rw [r, el]; omega⟩
 rw [e]
 show [p] ++ (((l.length : Int) :: l) ++ []) = (n : Int) :: (((PcheckNeutral.nats l).length : Nat) : Int) :: cI (PcheckNeutral.nats l)
 rw [ec, el, ep]; simp
theorem call_of {d : List (List Int)} (ok : PyFlat.okCall PyWrpchk.shape d) (h : PcheckNeutral.asked1 (PyWrpchk.whole d) = true) : CallIs d := by
 obtain ⟨p, a, xs, rfl, hs⟩ := ok
 have n0 : ∀ {α : Type} {l : List α}, l.length = 0 -> l = [] := fun q => List.length_eq_zero_iff.mp q
 have n1 : ∀ {α : Type} {l : List α}, l.length = 1 -> ∃ y, l = [y] := fun q => List.length_eq_one_iff.mp q
 rcases shape_of hs with ⟨rfl, ha, hx⟩ | ⟨rfl, ha, hx⟩ | ⟨rfl, ha, hx⟩ | ⟨rfl, ha, hx⟩ | ⟨rfl, ha, hx⟩ | ⟨rfl, ha, hx⟩ | ⟨rfl, ha, hx⟩ | ⟨rfl, ha, hx⟩ | ⟨rfl, ha, hx⟩ | ⟨rfl, ha, hx⟩ | ⟨rfl, ha, hx⟩ | ⟨rfl, ha, hx⟩
 ·obtain rfl := n0 ha; obtain rfl := n0 hx
  exact ⟨.type_, rfl, rfl, by simp [rowOf]⟩
 ·obtain ⟨t, rfl⟩ := n1 ha
  obtain ⟨l, rfl⟩ := n1 hx
  have h' : (PcheckNeutral.natural t 32 && PcheckNeutral.long l 64 0 (2 ^ 32 - 1)) = true := h
  rw [Bool.and_eq_true] at h'
  have a := nat_ok h'.1
  have b := long_ok h'.2
  have ec := cI_nats fun z hz => (b.2 z hz).1
  have el : (PcheckNeutral.nats l).length = l.length := by simp [PcheckNeutral.nats]
  have et : ((t.toNat : Nat) : Int) = t := by omega
  refine ⟨.con t.toNat (PcheckNeutral.nats l), rfl, ?_, by simp only [rowOf, el]; omega⟩
  show [2, t] ++ (((l.length : Int) :: l) ++ []) = 2 :: ((t.toNat : Nat) : Int) :: (((PcheckNeutral.nats l).length : Nat) : Int) :: cI (PcheckNeutral.nats l)
  rw [ec, el, et]; simp
 ·obtain ⟨t, rfl⟩ := n1 ha; obtain rfl := n0 hx
  exact is_num (x := .hasValue t.toNat) (n := 3) h rfl rfl rfl rfl
 ·obtain ⟨t, rfl⟩ := n1 ha; obtain rfl := n0 hx
  exact is_num (x := .begin_ t.toNat) (n := 4) h rfl rfl rfl rfl
 ·obtain rfl := n0 ha; obtain ⟨l, rfl⟩ := n1 hx
  exact is_row (x := .clause (PcheckNeutral.nats l)) (n := 5) (m := 512) (hi := 255) h (by decide) rfl rfl rfl rfl
 ·obtain rfl := n0 ha; obtain rfl := n0 hx
  exact ⟨.missing, rfl, rfl, by simp [rowOf]⟩
 ·obtain ⟨t, rfl⟩ := n1 ha; obtain rfl := n0 hx
  exact is_num (x := .reach t.toNat) (n := 7) h rfl rfl rfl rfl
 ·obtain rfl := n0 ha; obtain ⟨l, rfl⟩ := n1 hx
  exact is_row (x := .which (PcheckNeutral.nats l)) (n := 8) (m := 2048) (hi := 255) h (by decide) rfl rfl rfl rfl
 ·obtain rfl := n0 ha; obtain ⟨l, rfl⟩ := n1 hx
  exact is_row (x := .choose (PcheckNeutral.nats l)) (n := 9) (m := 256) (hi := 255) h (by decide) rfl rfl rfl rfl
 ·obtain rfl := n0 ha; obtain rfl := n0 hx
  exact ⟨.useless, rfl, rfl, by simp [rowOf]⟩
 ·obtain ⟨t, rfl⟩ := n1 ha; obtain rfl := n0 hx
  exact is_num (x := .drop t.toNat) (n := 11) h rfl rfl rfl rfl
 ·obtain rfl := n0 ha; obtain rfl := n0 hx
  exact ⟨.end_, rfl, rfl, by simp [rowOf]⟩
theorem calls_of : ∀ (ds : List (List (List Int))) (s : State), (∀ d ∈ ds, PyFlat.okCall PyWrpchk.shape d) -> (∀ c ∈ ds.map PyWrpchk.whole, PcheckNeutral.asked1 c = true) -> ∃ xs : List Pcheck.Call, PyFlat.put ds = cI (xs.flatMap numsOf) /\ PyFlat.told (PyFlat.played PcheckNeutral.step s (ds.map PyWrpchk.whole)) = runC s xs /\ xs.length = ds.length /\ ∀ x ∈ xs, (rowOf x).length <= 2048
 | [], s, _, _ => ⟨[], rfl, rfl, rfl, by simp⟩
 | d :: ds, s, ho, h => by
  obtain ⟨x, e1, e2, e3⟩ := call_of (ho d List.mem_cons_self) (h _ List.mem_cons_self)
  obtain ⟨xs, h1, h2, h3, h4⟩ := calls_of ds (Pcheck.step s x).1 (fun c hc => ho c (List.mem_cons_of_mem _ hc)) fun c hc => h c (List.mem_cons_of_mem _ hc)
  have es : PcheckNeutral.step s (PyWrpchk.whole d) = ((Pcheck.step s x).1, PcheckNeutral.told (Pcheck.step s x).2) := by
   unfold PcheckNeutral.step
   rw [e1]
  refine ⟨x :: xs, ?_, ?_, by simp [h3], fun y hy => ?_⟩
  ·show PyFlat.put1 d ++ PyFlat.put ds = _
   rw [e2, h1, List.flatMap_cons]
   simp [cI]
  ·show PyFlat.told ((PcheckNeutral.step s (PyWrpchk.whole d)).2 :: PyFlat.played PcheckNeutral.step (PcheckNeutral.step s (PyWrpchk.whole d)).1 (ds.map PyWrpchk.whole)) = _
   rw [es]
   show PyFlat.told (PcheckNeutral.told (Pcheck.step s x).2 :: PyFlat.played PcheckNeutral.step (Pcheck.step s x).1 (ds.map PyWrpchk.whole)) = _
   unfold PyFlat.told at *
   rw [List.flatMap_cons, h2]
   rfl
  ·rcases List.mem_cons.mp hy with rfl | hy
   ·exact e3
   ·exact h4 y hy
theorem parse {l : List Int} (h : PyWrpchk.answers_asked l = true) : ∃ xs : List Pcheck.Call, l = cI (xs.flatMap numsOf) /\ PyWrpchk.answers l = runC Pcheck.start xs /\ xs.length <= 200 /\ ∀ x ∈ xs, (rowOf x).length <= 2048 := by
 unfold PyWrpchk.answers_asked at h
 cases e : PyWrpchk.calls l with
 | none => rw [e] at h; cases h
 | some cs =>
  rw [e] at h
  simp only [Bool.and_eq_true] at h
  obtain ⟨h1, h2⟩ := h
  unfold PcheckNeutral.asked at h2
  rw [Bool.and_eq_true, Bool.and_eq_true, List.all_eq_true] at h2
  obtain ⟨⟨h3, _⟩, h4⟩ := h2
  have ea : PyWrpchk.answers l = PyFlat.told (PyFlat.played PcheckNeutral.step PcheckNeutral.start cs) := by
   unfold PyWrpchk.answers
   rw [e]
  unfold PyWrpchk.calls at e
  cases e2 : PyFlat.calls PyWrpchk.shape l.length l with
  | none => rw [e2] at e; cases e
  | some ds =>
   rw [e2] at e
   simp only [Option.some.injEq] at e
   subst e
   obtain ⟨p1, p2⟩ := PyFlat.put_calls _ _ _ e2
   obtain ⟨xs, q1, q2, q3, q4⟩ := calls_of ds Pcheck.start p2 h3
   refine ⟨xs, by rw [p1, q1], by rw [ea]; exact q2, ?_, q4⟩
   have := of_decide_eq_true h4
   rw [List.length_map] at this
   rw [q3]; exact this
end MC
namespace MC
open Pc Pcheck D
theorem stOk_step {s : State} (h : StOk s) (c : Pcheck.Call) : StOk (Pcheck.step s c).1 := by
 cases c with
 | type_ =>
  unfold Pcheck.step
  simp only
  split
  ·exact h
  ·rename_i ho
   split
   ·exact h
   ·rename_i hn
    refine ok_type h (by unfold TYPES at hn; omega) ?_
    cases e : s.opened with
    | none => rfl
    | some x => rw [e] at ho; simp at ho
 | con t l =>
  unfold Pcheck.step
  simp only
  split
  ·exact h
  ·rename_i ho
   split
   ·exact h
   ·rename_i hn
    split
    ·exact h
    ·rename_i hc
     unfold CONS at hc
     unfold FIELDS at hn
     have ho' : s.opened = none := by
      cases e : s.opened with
      | none => rfl
      | some x => rw [e] at ho; simp at ho
     refine ok_con h (by omega) (by omega) (fun f hf => ?_) (by omega) ho'
     refine Nat.lt_of_not_le fun q => hn (.inr (.inr ?_))
     rw [List.any_eq_true]
     exact ⟨f, hf, by simpa using q⟩
 | hasValue t => exact h
 | begin_ t =>
  unfold Pcheck.step
  simp only
  split
  ·exact h
  ·split
   ·exact h
   ·exact ok_begin h (by omega)
 | clause p =>
  unfold Pcheck.step ofMatch
  simp only
  cases e : s.opened with
  | none => exact h
  | some x =>
   obtain ⟨t, cl⟩ := x
   obtain ⟨h1, h2, h3, h4⟩ := h.op t cl e
   simp only
   rw [sizeOf_eq h3]
   split
   ·exact h
   ·rename_i hn
    unfold CLAUSES PATTERNS at hn
    cases q : readPat s.types t p with
    | none => exact h
    | some v =>
     obtain ⟨k1, rfl⟩ := readPat_some q
     exact ok_clause h e k1 (by omega) (by omega)
 | missing =>
  unfold Pcheck.step ofMatch
  simp only
  cases e : s.opened <;> exact h
 | reach i =>
  unfold Pcheck.step ofMatch
  simp only
  cases e : s.opened <;> exact h
 | which v =>
  unfold Pcheck.step ofMatch
  simp only
  cases e : s.opened <;> exact h
 | choose l =>
  unfold Pcheck.step ofMatch
  simp only
  cases e : s.opened <;> exact h
 | useless =>
  unfold Pcheck.step ofMatch
  simp only
  cases e : s.opened <;> exact h
 | drop i =>
  unfold Pcheck.step ofMatch
  simp only
  cases e : s.opened with
  | none => exact h
  | some x =>
   obtain ⟨t, cl⟩ := x
   simp only
   split
   ·exact h
   ·exact stOk_drop h e i
 | end_ =>
  unfold Pcheck.step ofMatch
  simp only
  cases e : s.opened with
  | none => exact h
  | some x => exact ok_end h
theorem told_len (a : Ans) : (PcheckNeutral.told a).length = a.more.length + 1 := by simp [PcheckNeutral.told]
theorem flv_len {T : Types} (ok : TOk T) {t : Nat} {cl : List Pat} {p : Pat} (hs : sizes cl + (txt p).length <= 128) {l : List Nat} (e : flv T (flat (prob t cl p)) = some l) : l.length <= 4096 := by
 have hh := hgt_start (t := t) hs
 have b : fl T DEEP (flat (prob t cl p)) = flv T (flat (prob t cl p)) := fl_flv (nar_of ok) (by unfold DEEP; omega)
 rw [e] at b
 have := fl_len DEEP _ _ b
 unfold DEEP at this
 omega
theorem tellP_len {o : Option (List Nat)} (h : ∀ l, o = some l -> l.length <= 4096) : (tellP o).length <= 4097 := by
 cases o with
 | none => simp [tellP]
 | some l => have := h l rfl; simp [tellP]; omega
theorem ans_len {s : State} (h : StOk s) (c : Pcheck.Call) : (PcheckNeutral.told (Pcheck.step s c).2).length <= 5000 := by
 cases c with
 | type_ =>
  unfold Pcheck.step
  simp only
  split
  ·rw [told_len]; simp [NOTNOW, says]
  ·split
   ·rw [told_len]; simp [FULL, says]
   ·rw [told_len]; simp [tells]
 | con t l =>
  unfold Pcheck.step
  simp only
  split
  ·rw [told_len]; simp [NOTNOW, says]
  ·split
   ·rw [told_len]; simp [BAD, says]
   ·split
    ·rw [told_len]; simp [FULL, says]
    ·rw [told_len]; simp [tells]
 | hasValue t =>
  unfold Pcheck.step
  simp only
  split
  ·rw [told_len]; simp [BAD, says]
  ·rw [told_len]; simp [tells]
 | begin_ t =>
  unfold Pcheck.step
  simp only
  split
  ·rw [told_len]; simp [NOTNOW, says]
  ·split
   ·rw [told_len]; simp [BAD, says]
   ·rw [told_len]; simp [says]
 | clause p =>
  unfold Pcheck.step ofMatch
  simp only
  cases e : s.opened with
  | none => rw [told_len]; simp [NOTNOW, says]
  | some x =>
   simp only
   split
   ·rw [told_len]; simp [FULL, says]
   ·split
    ·rw [told_len]; simp [BAD, says]
    ·rw [told_len]; simp [tells]
 | missing =>
  unfold Pcheck.step ofMatch
  simp only
  cases e : s.opened with
  | none => rw [told_len]; simp [NOTNOW, says]
  | some x =>
   obtain ⟨t, cl⟩ := x
   obtain ⟨h1, h2, h3, h4⟩ := h.op t cl e
   simp only
   rw [tell_missing h.ty h2 h3]
   exact Nat.le_trans (tellP_len fun l q => flv_len h.ty (by simp [txt]; omega) q) (by decide)
 | reach i =>
  unfold Pcheck.step ofMatch
  simp only
  cases e : s.opened with
  | none => rw [told_len]; simp [NOTNOW, says]
  | some x =>
   obtain ⟨t, cl⟩ := x
   obtain ⟨h1, h2, h3, h4⟩ := h.op t cl e
   simp only
   split
   ·rw [told_len]; simp [BAD, says]
   ·rename_i hn
    have hp : cl[i]? = some cl[i] := List.getElem?_eq_getElem (by omega)
    rw [tell_reach h.ty h2 h3 hp]
    exact Nat.le_trans (tellP_len fun l q => flv_len h.ty (by have := sizes_take_at hp; omega) q) (by decide)
 | which v =>
  unfold Pcheck.step ofMatch
  simp only
  cases e : s.opened with
  | none => rw [told_len]; simp [NOTNOW, says]
  | some x =>
   simp only
   split
   ·rw [told_len]; simp [FULL, says]
   ·split
    ·rw [told_len]; simp [BAD, says]
    ·split
     ·rw [told_len]; simp [BAD, says]
     ·split
      ·rw [told_len]; simp [NONE, says]
      ·rw [told_len]; simp [tells]
 | choose l =>
  unfold Pcheck.step ofMatch
  simp only
  cases e : s.opened with
  | none => rw [told_len]; simp [NOTNOW, says]
  | some x =>
   obtain ⟨t, cl⟩ := x
   obtain ⟨h1, h2, h3, h4⟩ := h.op t cl e
   have hsm : ∀ p ∈ cl, (txt p).length <= 64 := fun p hp => by have := sizes_mem hp; omega
   simp only
   rw [asking_eq h2 (fun p hp => by have := hsm p hp; omega)]
   cases goF s.types (spsOf s.types t cl) [] l with
   | none => simp only [Option.map_none]; rw [told_len]; simp [BAD, says]
   | some b =>
    simp only [Option.map_some]
    cases q : nxF b (spsOf s.types t cl) with
    | clause i => simp only [toNext]; rw [told_len]; simp [tells]
    | nothing => simp only [toNext]; rw [told_len]; simp [tells]
    | ask x =>
     obtain ⟨_, ⟨p, hp, hx⟩, _⟩ := typ_ask h2 q
     have := spk_typ h.ty.wf p [] t h1 (h2 p hp) x hx
     have := hsm p hp
     simp only [toNext]; rw [told_len]; simp [tells] at *; omega
 | useless =>
  unfold Pcheck.step ofMatch
  simp only
  cases e : s.opened with
  | none => rw [told_len]; simp [NOTNOW, says]
  | some x =>
   obtain ⟨t, cl⟩ := x
   obtain ⟨h1, h2, h3, h4⟩ := h.op t cl e
   simp only
   rw [told_len]
   have := List.length_filter_le (fun (i : Nat) => (Pc.reach s.types t cl i).isNone) (List.range cl.length)
   rw [List.length_range] at this
   simp only [tells]
   omega
 | drop i =>
  unfold Pcheck.step ofMatch
  simp only
  cases e : s.opened with
  | none => rw [told_len]; simp [NOTNOW, says]
  | some x =>
   simp only
   split
   ·rw [told_len]; simp [BAD, says]
   ·rw [told_len]; simp [tells]
 | end_ =>
  unfold Pcheck.step ofMatch
  simp only
  cases e : s.opened with
  | none => rw [told_len]; simp [NOTNOW, says]
  | some x => rw [told_len]; simp [says]
theorem nums_ne (c : Pcheck.Call) : numsOf c ≠ [] := by cases c <;> simp [numsOf]
end MC
set_option Elab.async false
set_option linter.all false
set_option maxRecDepth 100000
set_option maxHeartbeats 2000000
namespace D
open PySem PySem.Spec PyProof.Rows L2
def top (i : Nat) : Stmt := PySem.Challenge.pw_matchclauses_s01_answers.main.body.getD i (.Pass ⟨0, 0, 0, 0⟩)
abbrev sMakes : Stmt := top 2
abbrev nI (n : Nat) : V := .int (n : Int)
structure Bl (mg : Str -> Option Value) : Prop where
 all_ : mg "all" = none
 any_ : mg "any" = none
 len_ : mg "len" = none
 list_ : mg "list" = none
 rev_ : mg "reversed" = none
 enum_ : mg "enumerate" = none
 tuple_ : mg "tuple" = none
 sum_ : mg "sum" = none
def spMakes (K : W.Frag) : Sp := fun vs H Q _ => ∃ (a b : Addr) (fs : List Nat) (bs : List Bool), vs = [.ref a, .ref b] /\ SqT K H a (fs.map nI) /\ H b = some (.lst (bs.map V.bl)) /\ (∀ f ∈ fs, f < bs.length) /\ fs.length <= 1000 /\
 ∀ H' : Hp, Same H H' -> Q (.bl (MC.mk1 bs fs)) H'
section
variable {P : Program} {w : World} {K : W.Frag} {mg : Str -> Option Value} {base : Heap}
theorem scM : FnScope ["fields", "valued", "kind"] ["fields", "valued"] (defScope sMakes) := ⟨rfl, rfl, rfl, by decide +kernel, rfl, by decide +kernel, by decide +kernel⟩
theorem ok_makes {f : Addr} {fd : FuncData} (F : Fun K "makes_value" "makes_value" sMakes f fd) (T : Bl mg) : FnOk P w K mg base CX0 1 f fd ["fields", "valued"] (spMakes K) := by
 refine F.ok scM (fun vs H Q E h => ?_) (fun cdv A outer s H vs Q E hr h => ?_)
 ·obtain ⟨a, b, fs, bs, rfl, _⟩ := h
  rfl
 ·obtain ⟨a, b, fs, bs, rfl, hf, hb, hlt, hz, k⟩ := h
  refine ⟨_, pss_one (ps_ret (pe_callB (cr_all rfl) (by rfl) T.all_ PyProof.Rows.boot_all (pa_cons (pe_lc rfl scM.nd (pi_tup (pv 0)) (blkOk_by (own := [("kind", 2)]) (by show blkC ["fields", "valued", "kind"] (defScope sMakes) _ _ = true; decide +kernel))
   (fun _ _ _ _ _ => pg_name (i := 2) scM.nd rfl (Or.inl rfl)) (fun _ _ _ _ _ => pts_nil) (fun _ _ _ _ _ => pe_ix (r := rIxL K) ix_list (pv 1) (pv 2) (fun _ _ => rfl))) pa_nil))), ?_⟩
  refine ⟨_, rfl, a, rfl, ⟨_, hf⟩, fun D hD => ?_⟩
  refine lc_tup (xs := fs.map nI) (PvC H D (fs.map fun f => some (V.bl (bs.getD f false)))) (PvC.start hD) (fun i H' _ p => p.1.tup hf) (fun i x H' hx p => ?_) (fun H' p => ?_)
  ·obtain ⟨g, hg, rfl⟩ := map_get hx
   have hm := List.mem_of_getElem? hg
   refine ⟨rfl, _, rfl, _, rfl, b, _, _, _, rfl, rfl, SqL.of (p.1 _ _ hb), atI_nat (j := g) (v := V.bl (bs.getD g false)) ?_, p.add hD (Same.refl _) ?_ ?_⟩
   ·rw [List.getElem?_map, List.getElem?_eq_getElem (hlt g hm), List.getD_eq_getElem?_getD, List.getElem?_eq_getElem (hlt g hm)]
    rfl
   ·rw [List.getElem?_map, hg]; rfl
   ·rw [List.length_map]; omega
  ·obtain ⟨s1, e⟩ := p.done (by rw [List.length_map, List.length_map])
   rw [filterMap_some] at e
   refine ⟨D, fs.map fun f => bs.getD f false, rfl, SqL.of ?_, ?_⟩
   ·rw [e, List.map_map]; rfl
   ·have : (fs.map fun f => bs.getD f false).all id = MC.mk1 bs fs := by
     rw [List.all_map]; rfl
    rw [this]
    exact k H' s1
end
end D
set_option Elab.async false
set_option linter.all false
set_option maxRecDepth 100000
set_option maxHeartbeats 2000000
namespace D
open PySem PySem.Spec PyProof.Rows L2
open Pc (Types consOf)
def ConsAt (K : W.Frag) (H : Hp) (c : Addr) (cs : List (List Nat)) : Prop := ∃ ts : List Addr, H c = some (.lst (ts.map V.ref)) /\ Paired (fun t (fs : List Nat) => SqT K H t (fs.map nI)) ts cs
def KindsAt (K : W.Frag) (H : Hp) (a : Addr) (T : Types) : Prop := ∃ ks : List Addr, H a = some (.lst (ks.map V.ref)) /\ Paired (fun c cs => ConsAt K H c cs) ks T
theorem ConsAt.same {K : W.Frag} {H H' : Hp} {c : Addr} {cs : List (List Nat)} (h : ConsAt K H c cs) (e : Same H H') : ConsAt K H' c cs := by
 obtain ⟨ts, h1, h2⟩ := h
 exact ⟨ts, e _ _ h1, L2.Paired.imp' (fun t fs x => e.tup x) h2⟩
theorem KindsAt.same {K : W.Frag} {H H' : Hp} {a : Addr} {T : Types} (h : KindsAt K H a T) (e : Same H H') : KindsAt K H' a T := by
 obtain ⟨ks, h1, h2⟩ := h
 exact ⟨ks, e _ _ h1, L2.Paired.imp' (fun c cs x => x.same e) h2⟩
abbrev sValued : Stmt := top 3
def spValued (K : W.Frag) : Sp := fun vs H Q _ => ∃ (a : Addr) (T : Types), vs = [.ref a] /\ KindsAt K H a T /\ TOk T /\
 ∀ (H' : Hp) (p : Addr), Same H H' -> H' p = some (.lst ((Pc.having T T.length).map V.bl)) -> Q (.ref p) H'
section
variable {P : Program} {w : World} {K : W.Frag} {mg : Str -> Option Value} {base : Heap}
theorem scV : FnScope ["kinds", "valued", "growing", "kind", "constructors", "fields"] ["kinds"] (defScope sValued) := ⟨rfl, rfl, rfl, by decide +kernel, rfl, by decide +kernel, by decide +kernel⟩
structure VTurn (T : Types) (bs0 : List Bool) (i : Nat) (bs : List Bool) (g : Bool) : Prop where
 len : bs.length = T.length
 sound : MC.Sound T bs
 same : g = false -> bs = bs0 /\ ∀ j cs, j < i -> T[j]? = some cs -> cs.any (MC.mk1 bs0) = true -> bs0.getD j false = true
 less : g = true -> MC.lackV bs < MC.lackV bs0
theorem VTurn.stay {T : Types} {bs0 bs : List Bool} {i : Nat} {g : Bool} {cs : List (List Nat)} (v : VTurn T bs0 i bs g) (e : T[i]? = some cs) (h : (!bs.getD i false && cs.any (MC.mk1 bs)) = false) : VTurn T bs0 (i + 1) bs g := by
 refine ⟨v.len, v.sound, fun hg => ?_, v.less⟩
 obtain ⟨rfl, h2⟩ := v.same hg
 refine ⟨rfl, fun j cs' hj e' ha => ?_⟩
 by_cases q : j = i
 ·subst q
  rw [e] at e'
  cases e'
  rw [ha] at h
  simpa using h
 ·exact h2 j cs' (by omega) e' ha
theorem VTurn.grow {T : Types} {bs0 bs : List Bool} {i : Nat} {g : Bool} {cs : List (List Nat)} (v : VTurn T bs0 i bs g) (e : T[i]? = some cs) (h : (!bs.getD i false && cs.any (MC.mk1 bs)) = true) : VTurn T bs0 (i + 1) (bs.set i true) true := by
 rw [Bool.and_eq_true] at h
 have hi : i < bs.length := by rw [v.len]; exact (List.getElem?_eq_some_iff.mp e).1
 have l := MC.lack_set hi (by simpa using h.1)
 refine ⟨by rw [List.length_set]; exact v.len, MC.sound_step v.sound e h.2, fun q => (by cases q), fun _ => ?_⟩
 cases g
 ·obtain ⟨rfl, _⟩ := v.same rfl
  exact l
 ·have := v.less rfl
  omega
theorem ok_valued {f fm : Addr} {fd fdm : FuncData} (F : Fun K "valued_kinds" "valued_kinds" sValued f fd) (T : Bl mg) (Fm : Fun K "makes_value" "makes_value" sMakes fm fdm) (mM : mg "makes_value" = some (.ref fm)) (bm : Binds K fdm ["fields", "valued"] []) :
  FnOk P w K mg base CX0 2 f fd ["kinds"] (spValued K) := by
 have GM : FnOk P w K mg base CX0 1 fm fdm ["fields", "valued"] (spMakes K) := ok_makes Fm T
 refine F.ok scV (fun vs H Q E h => ?_) (fun cdv A outer s H vs Q E hr h => ?_)
 ·obtain ⟨a, T, rfl, _⟩ := h
  rfl
 ·obtain ⟨a, Ts, rfl, hk, ok, k⟩ := h
  refine ⟨_, pss_cons (ps_set (i := 1) scV.nd rfl (Or.inr rfl) (pe_lc rfl scV.nd (pi_list (pv 0)) (blkOk_by (own := [("constructors", 4)]) (by show blkC ["kinds", "valued", "growing", "kind", "constructors", "fields"] (defScope sValued) _ _ = true; decide +kernel)) (fun _ _ _ _ _ => pg_name (i := 4) scV.nd rfl (Or.inl rfl)) (fun _ _ _ _ _ => pts_nil) (fun _ _ _ _ _ => pe_bl)))
   (pss_cons (ps_set (i := 2) scV.nd rfl (Or.inl rfl) pe_bl)
   (pss_cons (ps_while PassesOwn.never (pt_val (pv 2)) (pss_cons (ps_set (i := 2) scV.nd rfl (Or.inl rfl) pe_bl) (pss_one (ps_for PassesOwn.never rfl (pi_enum (by rfl) T.enum_ (pa_cons (pv 0) pa_nil)) (pg_tup (n := 2) rfl (pgs_cons (pg_name (i := 3) scV.nd rfl (Or.inl rfl)) (pgs_cons (pg_name (i := 4) scV.nd rfl (Or.inl rfl)) pgs_nil))) (pss_one (ps_if (PW.pt (pw_and (pt_not (pt_val (pe_ix ix_list (pv 1) (pv 3) (fun _ _ => rfl)))) (pw_and1 (pt_val (pe_callB (cr_any rfl) (by rfl) T.any_ PyProof.Rows.boot_any (pa_cons (pe_lc rfl scV.nd (pi_list (pv 4)) (blkOk_by (own := [("fields", 5)]) (by show blkC ["kinds", "valued", "growing", "kind", "constructors", "fields"] (defScope sValued) _ _ = true; decide +kernel)) (fun _ _ _ _ _ => pg_name (i := 5) scV.nd rfl (Or.inl rfl)) (fun _ _ _ _ _ => pts_nil) (fun _ _ _ _ _ => pe_call GM hr (by rfl) mM Fm.kp bm .nil pass0 (pa_cons (pv 5) (pa_cons (pv 1) pa_nil)))) pa_nil)))))) (pss_cons (ps_asg pe_bl (pg_sub (pv 1) (pv 3) set_list)) (pss_one (ps_set (i := 2) scV.nd rfl (Or.inl rfl) pe_bl))) pss_nil))))))
   (pss_one (ps_ret (pv 1))))), ?_⟩
  obtain ⟨ks, hka, hkp⟩ := id hk
  have kl : ks.length = Ts.length := Paired.length hkp
  refine ⟨_, rfl, a, rfl, ⟨_, SqL.of hka⟩, fun D hD => ?_⟩
  refine lc_list (xs := ks.map V.ref) (PvC H D (Ts.map fun _ => some (V.bl false))) (PvC.start hD) (fun i H' _ p => SqL.of (p.1 _ _ hka)) (fun i x H' hx p => ?_) (fun H1 p => ?_)
  ·have hi : i < Ts.length := by
    have := (List.getElem?_eq_some_iff.mp hx).1
    rw [List.length_map] at this
    omega
   refine ⟨rfl, p.add hD (Same.refl _) ?_ ?_⟩
   ·rw [List.getElem?_map, List.getElem?_eq_getElem hi]; rfl
   ·rw [List.length_map]; have := ok.few; omega
  obtain ⟨s1, e1⟩ := p.done (by rw [List.length_map, List.length_map, kl])
  rw [filterMap_some] at e1
  -- while growing
  refine ⟨fun m σ H' => ∃ (bs : List Bool) (g : Bool) (x3 x4 x5 : Option V), σ = [some (.ref a), some (.ref D), some (.bl g), x3, x4, x5] /\ Same H H' /\ H' D = some (.lst (bs.map V.bl)) /\ bs.length = Ts.length /\ MC.Sound Ts bs /\
    (g = false -> ∀ j cs, Ts[j]? = some cs -> cs.any (MC.mk1 bs) = true -> bs.getD j false = true) /\ m = MC.lackV bs + (if g = true then 1 else 0),
   ⟨_, Ts.map fun _ => false, true, _, _, _, rfl, s1, by rw [e1, List.map_map]; rfl, by rw [List.length_map], MC.sound_start Ts, fun q => (by cases q), rfl⟩, ?_⟩
  rintro m σ H2 ⟨bs0, g, x3, x4, x5, rfl, s2, e2, l2, sd, cl, rfl⟩
  refine ⟨_, rfl, g, rfl, ?_⟩
  cases g with
  | false =>
   refine ⟨_, rfl, ?_⟩
   have := MC.done_list l2 (MC.done_valued sd (cl rfl))
   exact k H2 D s2 (by rw [e2, this])
  | true =>
   refine ⟨_, fun σ' H' q => q, ?_⟩
   refine ⟨_, rfl, a, _, rfl, SqL.of (s2 _ _ hka), for_enum (xs := ks.map V.ref) (fun i σ' H' => ∃ (bs : List Bool) (g : Bool) (x3 x4 x5 : Option V), σ' = [some (.ref a), some (.ref D), some (.bl g), x3, x4, x5] /\ Same H H' /\ H' D = some (.lst (bs.map V.bl)) /\ VTurn Ts bs0 i bs g)
    ⟨bs0, false, _, _, _, rfl, s2, e2, l2, sd, fun _ => ⟨rfl, fun j cs hj => absurd hj (Nat.not_lt_zero _)⟩, fun q => (by cases q)⟩ (fun i σ' H' _ ⟨_, _, _, _, _, _, s3, _⟩ => SqL.of (s3 _ _ hka)) ?_ ?_⟩
   ·rintro i x σ' H3 Tt hx ⟨bs, g, y3, y4, y5, rfl, s3, e3, vt⟩ hT
    obtain ⟨c, hc, rfl⟩ := map_get hx
    obtain ⟨cs, hcs, ts, hts, htp⟩ := prd_get hkp hc
    have hcm : cs ∈ Ts := List.mem_of_getElem? hcs
    have hi : i < bs.length := by rw [vt.len]; exact (List.getElem?_eq_some_iff.mp hcs).1
    have s4 : Same H3 (upd H3 Tt (.tup [.int (i : Nat), V.ref c])) := same_new hT
    have s5 := s3.trans s4
    have e5 := s4 _ _ e3
    refine ⟨Tt, _, rfl, SqT.of upd_same, rfl, _, _, rfl, _, _, rfl, rfl, ?_⟩
    refine ⟨_, rfl, _, rfl, D, _, _, V.bl (bs.getD i false), rfl, rfl, SqL.of e5, atI_nat (j := i) ?_, _, rfl, ?_⟩
    ·rw [List.getElem?_map, List.getElem?_eq_getElem hi, List.getD_eq_getElem?_getD, List.getElem?_eq_getElem hi]
     rfl
    cases hv : bs.getD i false with
    | true => exact ⟨bs, g, _, _, _, rfl, s5, e5, vt.stay hcs (by rw [hv]; rfl)⟩
    | false =>
     refine ⟨_, rfl, c, rfl, ⟨_, SqL.of (s5 _ _ hts)⟩, fun D2 hD2 => ?_⟩
     refine lc_list (xs := ts.map V.ref) (PvC _ D2 (cs.map fun fs => some (V.bl (MC.mk1 bs fs)))) (PvC.start hD2) (fun i H' _ p => SqL.of (p.1 _ _ (s5 _ _ hts))) (fun j x H6 hx p => ?_) (fun H6 p => ?_)
     ·obtain ⟨t, ht, rfl⟩ := map_get hx
      obtain ⟨fs, hfs, hft⟩ := prd_get htp ht
      have hfm := List.mem_of_getElem? hfs
      refine ⟨rfl, _, rfl, _, rfl, t, D, fs, bs, rfl, p.1.tup (s5.tup hft), p.1 _ _ e5, fun f hf => ?_, ?_, fun H7 s7 => p.add hD2 s7 ?_ ?_⟩
      ·rw [vt.len]; exact ok.wf cs hcm fs hfm f hf
      ·have := ok.flds cs hcm fs hfm; omega
      ·rw [List.getElem?_map, hfs]; rfl
      ·rw [List.length_map]; have := ok.cons cs hcm; omega
     ·obtain ⟨s6, e6⟩ := p.done (by rw [List.length_map, List.length_map, Paired.length htp])
      rw [filterMap_some] at e6
      have s7 := s5.trans s6
      have e7 := s6 _ _ e5
      refine ⟨D2, cs.map (MC.mk1 bs), rfl, SqL.of (by rw [e6, List.map_map]; rfl), _, rfl, ?_⟩
      have ea : (cs.map (MC.mk1 bs)).any id = cs.any (MC.mk1 bs) := by rw [List.any_map]; rfl
      rw [ea]
      cases ha : cs.any (MC.mk1 bs) with
      | false => exact ⟨bs, g, _, _, _, rfl, s7, e7, vt.stay hcs (by rw [hv, ha]; rfl)⟩
      | true =>
       refine ⟨_, rfl, _, rfl, D, _, _, i, rfl, rfl, e7, ?_, ?_⟩
       ·unfold ixN
        rw [List.length_map, if_pos (by omega), if_pos (by omega)]
        rfl
       ·refine ⟨bs.set i true, true, _, _, _, rfl, fun b o h => ?_, ?_, vt.grow hcs (by rw [hv, ha]; rfl)⟩
        ·rw [upd_ne (ne_of_none h hD)]; exact s7 _ _ h
        ·rw [upd_same, List.map_set]
   ·rintro σ' H3 ⟨bs, g, y3, y4, y5, rfl, s3, e3, vt⟩
    rw [List.length_map, kl] at vt
    refine ⟨_, ?_, bs, g, _, _, _, rfl, s3, e3, vt.len, vt.sound, fun hg j cs hj ha => ?_, rfl⟩
    ·cases g with
     | true =>
      have := vt.less rfl
      simp only [if_true]
      omega
     | false =>
      obtain ⟨rfl, _⟩ := vt.same rfl
      simp
    ·obtain ⟨rfl, h2⟩ := vt.same hg
     exact h2 j cs (List.getElem?_eq_some_iff.mp hj).1 hj ha
end
end D
set_option Elab.async false
set_option linter.all false
set_option maxRecDepth 100000
set_option maxHeartbeats 2000000
namespace D
open PySem PySem.Spec PyProof.Rows L2
open Pc (Types consOf)
abbrev sIsPat : Stmt := top 4
def spIsPat (K : W.Frag) : Sp := fun vs H Q _ => ∃ (a b : Addr) (t : Nat) (ns : List Nat) (T : Types), vs = [.ref a, nI t, .ref b] /\ KindsAt K H a T /\ TOk T /\ t < T.length /\ SqT K H b (ns.map nI) /\ ns.length <= 100000 /\
 ∀ H' : Hp, Same H H' -> Q (.bl (MC.eat T [t] ns)) H'
section
variable {P : Program} {w : World} {K : W.Frag} {mg : Str -> Option Value} {base : Heap}
theorem scP : FnScope ["kinds", "kind", "numbers", "waiting", "number", "constructors"] ["kinds", "kind", "numbers"] (defScope sIsPat) := ⟨rfl, rfl, rfl, by decide +kernel, rfl, by decide +kernel, by decide +kernel⟩
theorem kind_at {K : W.Frag} {H : Hp} {a : Addr} {T : Types} {t : Nat} (h : KindsAt K H a T) (ht : t < T.length) : ∃ (ks : List Addr) (c : Addr), H a = some (.lst (ks.map V.ref)) /\ ks[t]? = some c /\ ConsAt K H c (consOf T t) := by
 obtain ⟨ks, h1, h2⟩ := h
 obtain ⟨c, h3, h4⟩ := prd_get2 h2 (List.getElem?_eq_getElem ht)
 refine ⟨ks, c, h1, h3, ?_⟩
 have : consOf T t = T[t] := by unfold consOf; rw [List.getD_eq_getElem?_getD, List.getElem?_eq_getElem ht]; rfl
 rw [this]; exact h4
theorem con_at {K : W.Frag} {H : Hp} {c : Addr} {cs : List (List Nat)} {n : Nat} (h : ConsAt K H c cs) (hn : n < cs.length) : ∃ (ts : List Addr) (t : Addr), H c = some (.lst (ts.map V.ref)) /\ ts.length = cs.length /\ ts[n]? = some t /\ SqT K H t ((cs.getD n []).map nI) := by
 obtain ⟨ts, h1, h2⟩ := h
 obtain ⟨t, h3, h4⟩ := prd_get2 h2 (List.getElem?_eq_getElem hn)
 refine ⟨ts, t, h1, Paired.length h2, h3, ?_⟩
 have : cs.getD n [] = cs[n] := by rw [List.getD_eq_getElem?_getD, List.getElem?_eq_getElem hn]; rfl
 rw [this]; exact h4
theorem cons_mem {T : Types} {t : Nat} (ht : t < T.length) : consOf T t ∈ T := by
 have : consOf T t = T[t] := by unfold consOf; rw [List.getD_eq_getElem?_getD, List.getElem?_eq_getElem ht]; rfl
 rw [this]; exact List.getElem_mem ht
theorem getD_mem {α : Type} {l : List α} {n : Nat} {d : α} (h : n < l.length) : l.getD n d ∈ l := by
 rw [List.getD_eq_getElem?_getD, List.getElem?_eq_getElem h]; exact List.getElem_mem h
theorem TOk.fl {T : Types} (ok : TOk T) {t n : Nat} (ht : t < T.length) (hn : n < (consOf T t).length) : ((consOf T t).getD n []).length <= 4 /\ ∀ f ∈ (consOf T t).getD n [], f < T.length :=
 ⟨ok.flds _ (cons_mem ht) _ (getD_mem hn), fun f hf => ok.wf _ (cons_mem ht) _ (getD_mem hn) f hf⟩
theorem ok_isPat {f : Addr} {fd : FuncData} {ta : Tok} (F : Fun K "is_pattern" "is_pattern" sIsPat f fd) (T : Bl mg) (mA : mg "ANYTHING" = some (.int 255 ta)) :
  FnOk P w K mg base CX0 1 f fd ["kinds", "kind", "numbers"] (spIsPat K) := by
 refine F.ok scP (fun vs H Q E h => ?_) (fun cdv A outer s H vs Q E hr h => ?_)
 ·obtain ⟨a, b, t, ns, Ts, rfl, _⟩ := h
  rfl
 ·obtain ⟨a, b, t, ns, Ts, rfl, hk, ok, ht, hb, hn, k⟩ := h
  refine ⟨_, pss_cons (ps_set (i := 3) scP.nd rfl (Or.inl rfl) (pe_lst (pa_cons (pv 1) pa_nil)))
   (pss_cons (ps_for PassesOwn.never rfl (pi_tup (pv 2)) (pg_name (i := 4) scP.nd rfl (Or.inl rfl)) (pss_cons (ps_if (pt_not (pt_truth (pv 3) (fun _ => rfl))) (pss_one (ps_ret pe_bl)) pss_nil) (pss_cons (ps_set (i := 5) scP.nd rfl (Or.inl rfl) (pe_ix ix_list (pv 0) (pe_bm0 PySem.F.plainAttrs_list PySem.F.slot_list_pop PySem.F.type_list_pop mt_pop (pv 3)) (fun _ _ => rfl))) (pss_one (ps_if (pt_cmpR op_lt (pv 4) (pe_callB call_len_seq (by rfl) T.len_ PySem.boot_len (pa_cons (pv 5) pa_nil)) (nomark _)) (pss_one (ps_expr (pe_bm PySem.F.plainAttrs_list PySem.F.slot_list_extend PySem.F.type_list_extend mt_extend (pv 3) (pa_cons (pe_list_revT rfl (by rfl) T.list_ (by rfl) T.rev_ (pe_ix ix_list (pv 5) (pv 4) (fun _ _ => rfl))) pa_nil)))) (pss_one (ps_if (pt_cmpR op_ne (pv 4) (pe_glob (v := V.int 255) (by rfl) mA ⟨_, rfl⟩) (nomark _)) (pss_one (ps_ret pe_bl)) pss_nil)))))))
   (pss_one (ps_ret (pe_notT (pv 3))))), ?_⟩
  refine ⟨_, rfl, (by show 1 <= sizeLine; decide), fun W hW => ?_⟩
  have s1 : Same H (upd H W (.lst [nI t])) := same_new hW
  refine ⟨_, rfl, b, rfl, ⟨_, s1.tup hb⟩, for_tup (xs := ns.map nI) (fun i σ H' => ∃ (ws : List Nat) (x4 x5 : Option V), σ = [some (.ref a), some (nI t), some (.ref b), some (.ref W), x4, x5] /\ Same H H' /\ H' W = some (.lst (ws.reverse.map nI)) /\
    MC.eat Ts ws (ns.drop i) = MC.eat Ts [t] ns /\ (∀ x ∈ ws, x < Ts.length) /\ ws.length <= 1 + 4 * i)
   ⟨[t], _, _, rfl, s1, upd_same, rfl, fun x hx => by simp at hx; rw [hx]; exact ht, by simp⟩ (fun i σ H' _ ⟨_, _, _, _, s, _⟩ => s.tup hb) ?_ ?_⟩
  ·rintro i x σ H2 hx ⟨ws, x4, x5, rfl, s2, e2, ee, hw, hl⟩
   obtain ⟨n, hni, rfl⟩ := map_get hx
   have hi : i < ns.length := (List.getElem?_eq_some_iff.mp hni).1
   have hdrop : ns.drop i = n :: ns.drop (i + 1) := by
    rw [List.drop_eq_getElem_cons hi, (List.getElem?_eq_some_iff.mp hni).2]
   rw [hdrop] at ee
   refine ⟨_, rfl, _, .inl ⟨_, SqL.of e2, rfl⟩, ?_⟩
   cases ws with
   | nil =>
    refine (show Q (.bl false) H2 from ?_)
    have : MC.eat Ts [t] ns = false := by rw [<- ee]; rfl
    rw [<- this]
    exact k H2 s2
   | cons u us =>
    have hu : u < Ts.length := hw u List.mem_cons_self
    have er : (u :: us).reverse.map nI = us.reverse.map nI ++ [nI u] := by simp
    rw [er] at e2 ⊢
    have em : (us.reverse.map nI ++ [nI u]).isEmpty = false := by cases us.reverse <;> rfl
    rw [em]
    obtain ⟨ks, c, hka, hkc, hcc⟩ := kind_at hk hu
    have hW' : ∀ b o, H b = some o -> b ≠ W := fun b o h => ne_of_none h hW
    have s3 : Same H (upd H2 W (.lst (us.reverse.map nI))) := fun b o h => by rw [upd_ne (hW' b o h)]; exact s2 _ _ h
    refine ⟨_, rfl, _, rfl, .inl ⟨rfl, _, SqL.of e2⟩, W, _, nI u, rfl, rfl, e2, by simp, ?_⟩
    rw [List.dropLast_concat]
    refine ⟨a, _, _, V.ref c, rfl, rfl, SqL.of (s3 _ _ hka), atI_nat (j := u) (by rw [List.getElem?_map, hkc]; rfl), ?_⟩
    obtain ⟨ts, hts, htp⟩ := id hcc
    have tl : ts.length = (consOf Ts u).length := Paired.length htp
    refine ⟨_, rfl, _, rfl, c, _, rfl, .inl (SqL.of (s3 _ _ hts)), _, _, rfl, rfl, _, rfl, ?_⟩
    rw [List.length_map, tl]
    by_cases hlt : (n : Int) < ((consOf Ts u).length : Nat)
    ·rw [decide_eq_true hlt]
     have hlt' : n < (consOf Ts u).length := by omega
     obtain ⟨ts', tt, hts', _, htt, hft⟩ := con_at hcc hlt'
     obtain ⟨f4, fw⟩ := ok.fl hu hlt'
     have e' : ts' = ts := by
      rw [hts] at hts'
      have := HO.lst.inj (Option.some.inj hts')
      exact (List.map_inj_right (fun x y q => V.ref.inj q)).mp this.symm
     subst e'
     refine ⟨_, rfl, .inl ⟨rfl, _, SqL.of upd_same⟩, _, rfl, _, rfl, c, _, _, V.ref tt, rfl, rfl, SqL.of (s3 _ _ hts), atI_nat (j := n) (by rw [List.getElem?_map, htt]; rfl), tt, _, rfl, s3.tup hft, fun L hL => ?_⟩
     have hLW : W ≠ L := ne_of_none upd_same hL
     refine ⟨W, L, us.reverse.map nI, (((consOf Ts u).getD n []).map nI).reverse, rfl, rfl, by rw [upd_ne hLW]; exact upd_same, upd_same, ?_, ?_⟩
     ·have : (10000000 : Nat) <= sizeLine := by decide
      simp only [List.length_map, List.length_reverse]
      simp only [List.length_cons] at hl
      omega
     ·refine ⟨(consOf Ts u).getD n [] ++ us, _, _, rfl, fun b o h => ?_, ?_, ?_, ?_, ?_⟩
      ·rw [upd_ne (hW' b o h), upd_ne (ne_of_none (s3 _ _ h) hL)]; exact s3 _ _ h
      ·rw [upd_same]; simp
      ·rw [<- ee, MC.eat, if_pos hlt']
      ·intro x hx
       rcases List.mem_append.mp hx with hx | hx
       ·exact fw x hx
       ·exact hw x (List.mem_cons_of_mem _ hx)
      ·rw [List.length_append]
       simp only [List.length_cons] at hl
       omega
    ·rw [decide_eq_false hlt]
     have hlt' : ¬ n < (consOf Ts u).length := by omega
     refine ⟨_, rfl, rfl, _, rfl, ?_⟩
     by_cases h5 : n = 255
     ·subst h5
      have ed : decide (nI 255 = V.int 255) = true := rfl
      rw [ed]
      refine ⟨us, _, _, rfl, s3, upd_same, ?_, fun x hx => hw x (List.mem_cons_of_mem _ hx), ?_⟩
      ·rw [<- ee, MC.eat, if_neg hlt', if_pos rfl]
      ·simp only [List.length_cons] at hl
       omega
     ·have ed : decide (nI n = V.int 255) = false := decide_eq_false (fun q => h5 (by have := V.int.inj q; omega))
      rw [ed]
      refine (show Q (.bl false) _ from ?_)
      have : MC.eat Ts [t] ns = false := by rw [<- ee, MC.eat, if_neg hlt', if_neg h5]
      rw [<- this]
      exact k _ s3
  ·rintro σ H2 ⟨ws, x4, x5, rfl, s2, e2, ee, hw, hl⟩
   rw [List.length_map, List.drop_length] at ee
   refine ⟨_, rfl, _, .inl ⟨_, SqL.of e2, rfl⟩, ?_⟩
   have : (!!(ws.reverse.map nI).isEmpty) = MC.eat Ts [t] ns := by
    rw [<- ee]
    cases ws with
    | nil => rfl
    | cons u us =>
     have er : (u :: us).reverse.map nI = us.reverse.map nI ++ [nI u] := by simp
     rw [er]
     cases us.reverse <;> rfl
   rw [this]
   exact k H2 s2
end
end D
set_option Elab.async false
set_option linter.all false
set_option maxRecDepth 100000
set_option maxHeartbeats 2000000
namespace D
open PySem PySem.Spec PyProof.Rows L2
open Pc (Types consOf)
def TN (K : W.Frag) (H : Hp) (a : Addr) (l : List Nat) : Prop := SqT K H a (l.map nI)
def TNs (K : W.Frag) (H : Hp) (a : Addr) (rows : List (List Nat)) : Prop := ∃ as : List Addr, SqT K H a (as.map V.ref) /\ Paired (fun b r => TN K H b r) as rows
theorem TN.same {K : W.Frag} {H H' : Hp} {a : Addr} {l : List Nat} (h : TN K H a l) (e : Same H H') : TN K H' a l := e.tup h
theorem TN.tups {K : W.Frag} {H H' : Hp} {a : Addr} {l : List Nat} (h : TN K H a l) (e : Tups H H') : TN K H' a l := e.tup h
theorem TNs.same {K : W.Frag} {H H' : Hp} {a : Addr} {rows : List (List Nat)} (h : TNs K H a rows) (e : Same H H') : TNs K H' a rows := by
 obtain ⟨as, h1, h2⟩ := h
 exact ⟨as, e.tup h1, L2.Paired.imp' (fun b r x => x.same e) h2⟩
theorem TNs.tups {K : W.Frag} {H H' : Hp} {a : Addr} {rows : List (List Nat)} (h : TNs K H a rows) (e : Tups H H') : TNs K H' a rows := by
 obtain ⟨as, h1, h2⟩ := h
 exact ⟨as, e.tup h1, L2.Paired.imp' (fun b r x => x.tups e) h2⟩
def stepF (t w r q : V) : List (Str × V) := putF "asked" q (putF "rows" r (putF "waiting" w (putF "told" t [])))
theorem stepF_told (t w r q : V) : (stepF t w r q).lookup ("told" : Str) = some t := by
 unfold stepF; rw [lookup_putF, if_neg (by decide +kernel), lookup_putF, if_neg (by decide +kernel), lookup_putF, if_neg (by decide +kernel), lookup_putF, if_pos rfl]
theorem stepF_waiting (t w r q : V) : (stepF t w r q).lookup ("waiting" : Str) = some w := by
 unfold stepF; rw [lookup_putF, if_neg (by decide +kernel), lookup_putF, if_neg (by decide +kernel), lookup_putF, if_pos rfl]
theorem stepF_rows (t w r q : V) : (stepF t w r q).lookup ("rows" : Str) = some r := by
 unfold stepF; rw [lookup_putF, if_neg (by decide +kernel), lookup_putF, if_pos rfl]
theorem stepF_asked (t w r q : V) : (stepF t w r q).lookup ("asked" : Str) = some q := by
 unfold stepF; rw [lookup_putF, if_pos rfl]
structure StepTxt (K : W.Frag) (mg : Str -> Option Value) (C : Addr) : Prop where
 cl : Cls K C
 nT : NoAttr K C "told"
 nW : NoAttr K C "waiting"
 nR : NoAttr K C "rows"
 nA : NoAttr K C "asked"
 mg : mg "Step" = some (.ref C)
def EntAt (K : W.Frag) (C : Addr) (H : Hp) (a : Addr) (e : MC.Ent) : Prop :=
 ∃ dx t w r q, H a = some (.ins C dx (stepF (.ref t) (.ref w) (.ref r) (.ref q))) /\ TN K H t e.1 /\ TN K H w e.2.1 /\ TNs K H r e.2.2.1 /\ TN K H q e.2.2.2
theorem EntAt.same {K : W.Frag} {C : Addr} {H H' : Hp} {a : Addr} {e : MC.Ent} (h : EntAt K C H a e) (s : Same H H') : EntAt K C H' a e := by
 obtain ⟨dx, t, w, r, q, h1, h2, h3, h4, h5⟩ := h
 exact ⟨dx, t, w, r, q, s _ _ h1, h2.same s, h3.same s, h4.same s, h5.same s⟩
abbrev sStepI : Stmt := inClass (top 18) 0
def spStepI (C : Addr) : Sp := fun vs H Q _ => ∃ (p dx : Addr) (t w r q : V), vs = [.ref p, t, w, r, q] /\ H p = some (.ins C dx []) /\ ∀ H' : Hp, H' p = some (.ins C dx (stepF t w r q)) -> (∀ b o, H b = some o -> b ≠ p -> H' b = some o) -> Q .non H'
section
variable {P : Program} {w : World} {K : W.Frag} {mg : Str -> Option Value} {base : Heap}
theorem scSI : FnScope ["self", "told", "waiting", "rows", "asked"] ["self", "told", "waiting", "rows", "asked"] (defScope sStepI) := ⟨rfl, rfl, rfl, by decide +kernel, rfl, by decide +kernel, by decide +kernel⟩
theorem ok_stepI {f C : Addr} {fd : FuncData} (F : Fun K "__init__" "Step.__init__" sStepI f fd) (T : StepTxt K mg C) : FnOk P w K mg base CX0 1 f fd ["self", "told", "waiting", "rows", "asked"] (spStepI C) := by
 refine F.ok scSI (fun vs H Q E h => ?_) (fun cdv A outer s H vs Q E hr h => ?_)
 ·obtain ⟨p, dx, t, w, r, q, rfl, _⟩ := h
  rfl
 ·obtain ⟨p, dx, t, w, r, q, rfl, hp, k⟩ := h
  refine ⟨_, pss_cons (ps_fld (pv 0) (pv 1) rfl) (pss_cons (ps_fld (pv 0) (pv 2) rfl) (pss_cons (ps_fld (pv 0) (pv 3) rfl) (pss_one (ps_fld (pv 0) (pv 4) rfl)))), ?_⟩
  refine ⟨_, rfl, _, rfl, p, C, dx, [], rfl, hp, T.cl, T.nT, (by show 0 < 1000; decide), ?_⟩
  refine ⟨_, rfl, _, rfl, p, C, dx, _, rfl, upd_same, T.cl, T.nW, (by show 1 < 1000; decide), ?_⟩
  refine ⟨_, rfl, _, rfl, p, C, dx, _, rfl, upd_same, T.cl, T.nR, ?_, ?_⟩
  ·exact Nat.lt_of_le_of_lt (length_putF _ _ _) (Nat.lt_of_le_of_lt (Nat.add_le_add_right (length_putF _ _ _) 1) (by show 2 < 1000; decide))
  refine ⟨_, rfl, _, rfl, p, C, dx, _, rfl, upd_same, T.cl, T.nA, ?_, ?_⟩
  ·exact Nat.lt_of_le_of_lt (length_putF _ _ _) (Nat.lt_of_le_of_lt (Nat.add_le_add_right (Nat.le_trans (length_putF _ _ _) (Nat.add_le_add_right (length_putF _ _ _) 1)) 1) (by show 3 < 1000; decide))
  refine k _ upd_same fun b o e hb => ?_
  rw [upd_ne hb, upd_ne hb, upd_ne hb, upd_ne hb]
  exact e
abbrev sWF : Stmt := top 19
def spWF (K : W.Frag) : Sp := fun vs H Q _ => ∃ (a b : Addr) (c x : Nat) (r fs : List Nat), vs = [.ref a, nI c, .ref b] /\ TN K H a (x :: r) /\ TN K H b fs /\ fs.length <= 4 /\ r.length <= 1000000 /\
 ∀ (H' : Hp) (p : Addr), Same H H' -> TN K H' p (MC.offF c fs.length (x :: r)) -> Q (.ref p) H'
theorem scWF : FnScope ["row", "number", "fields"] ["row", "number", "fields"] (defScope sWF) := ⟨rfl, rfl, rfl, by decide +kernel, rfl, by decide +kernel, by decide +kernel⟩
theorem ok_wf {f : Addr} {fd : FuncData} {ta : Tok} (F : Fun K "without_first" "without_first" sWF f fd) (T : Bl mg) (mA : mg "ANYTHING" = some (.int 255 ta)) : FnOk P w K mg base CX0 1 f fd ["row", "number", "fields"] (spWF K) := by
 refine F.ok scWF (fun vs H Q E h => ?_) (fun cdv A outer s H vs Q E hr h => ?_)
 ·obtain ⟨a, b, c, x, r, fs, rfl, _⟩ := h
  rfl
 ·obtain ⟨a, b, c, x, r, fs, rfl, ha, hb, hf, hz, k⟩ := h
  refine ⟨_, pss_cons (ps_if (pt_cmpR op_eq (pe_ix ix_tup (pv 0) pe_int (fun _ _ => rfl)) (pv 1) (nomark _)) (pss_one (ps_ret (pe_slice sl_tail (pv 0) (po_some pe_int) po_none))) pss_nil)
   (pss_one (ps_ret (pe_op op_catS (pe_op op_repT (pe_tup (pa_cons (pe_glob (v := V.int 255) (by rfl) mA ⟨_, rfl⟩) pa_nil)) (pe_callB call_len_seq (by rfl) T.len_ PySem.boot_len (pa_cons (pv 2) pa_nil))) (pe_slice sl_tail (pv 0) (po_some pe_int) po_none)))), ?_⟩
  refine ⟨_, rfl, a, _, _, nI x, rfl, rfl, ha, atI_nat (j := 0) rfl, _, rfl, rfl, _, rfl, ?_⟩
  by_cases hx : x = c
  ·have ed : decide (nI x = nI c) = true := by rw [hx]; exact decide_eq_true rfl
   show if decide (nI x = nI c) = true then _ else _
   rw [ed]
   refine ⟨_, rfl, _, rfl, a, nI x, r.map nI, rfl, rfl, rfl, ha, fun p H' s' hp => k H' p s' ?_⟩
   show TN K H' p (if x = c then r else _)
   rw [if_pos hx]
   exact hp
  ·have ed : decide (nI x = nI c) = false := decide_eq_false fun q => hx (by have := V.int.inj q; omega)
   show if decide (nI x = nI c) = true then _ else _
   rw [ed]
   refine ⟨(by show 1 <= sizeLine; decide), fun p hp => ?_⟩
   have s1 : Same H (upd H p (.tup [V.int 255])) := same_new hp
   refine ⟨_, rfl, b, _, rfl, .inr (s1.tup hb), ?_⟩
   refine ⟨p, V.int 255, _, rfl, rfl, SqT.of upd_same, by omega, by rw [List.length_map]; omega, fun p2 H2 s2 h2 => ?_⟩
   have s3 := s1.trans s2
   refine ⟨_, rfl, _, rfl, a, nI x, r.map nI, rfl, rfl, rfl, s3.tup ha, fun p3 H3 s4 h3 => ?_⟩
   refine ⟨p2, p3, _, _, rfl, rfl, s4.tup h2, h3, ?_, fun p4 H4 s5 h4 => k H4 p4 ((s3.trans s4).trans s5) ?_⟩
   ·have : (10000000 : Nat) <= sizeLine := by decide
    rw [List.length_replicate, List.length_map, List.length_map, Int.toNat_natCast]
    omega
   ·show TN K H4 p4 (if x = c then r else _)
    rw [if_neg hx]
    unfold TN
    rw [List.length_map, Int.toNat_natCast] at h4
    rw [List.map_append, List.map_replicate]
    exact h4
end
end D
set_option Elab.async false
set_option linter.all false
set_option maxRecDepth 100000
set_option maxHeartbeats 2000000
namespace D
open PySem PySem.Spec PyProof.Rows L2
open Pc (Types consOf)
abbrev sSU : Stmt := top 20
structure Sized (e : MC.Ent) : Prop where
 told : e.1.length <= 10000
 ts : e.2.1.length <= 10000
 rows : e.2.2.1.length <= 10000
 row : ∀ r ∈ e.2.2.1, r ≠ [] /\ r.length <= 10000
 asked : e.2.2.2 ≠ [] /\ e.2.2.2.length <= 10000
def spSU (K : W.Frag) (C : Addr) : Sp := fun vs H Q _ => ∃ (a b : Addr) (c t : Nat) (told ts q fs : List Nat) (rows : List (List Nat)), vs = [.ref a, nI c, .ref b] /\ EntAt K C H a (told, (t :: ts, rows, q)) /\ Sized (told, (t :: ts, rows, q)) /\ TN K H b fs /\ fs.length <= 4 /\
 ∀ (H' : Hp) (p : Addr), Same H H' -> EntAt K C H' p (told ++ [c], (fs ++ ts, MC.underF c fs.length rows, MC.offF c fs.length q)) -> Q (.ref p) H'
section
variable {P : Program} {w : World} {K : W.Frag} {mg : Str -> Option Value} {base : Heap}
theorem under_snoc (c n : Nat) (l : List (List Nat)) (r : List Nat) : MC.underF c n (l ++ [r]) = MC.underF c n l ++ (if MC.keepF c r = true then [MC.offF c n r] else []) := by
 unfold MC.underF
 rw [List.filter_append, List.map_append]
 congr 1
 by_cases h : MC.keepF c r = true
 ·rw [if_pos h, List.filter_cons_of_pos h]; rfl
 ·rw [if_neg h, List.filter_cons_of_neg h]; rfl
theorem paired_snoc {α β : Type} {F : α -> β -> Prop} : ∀ {l₁ : List α} {l₂ : List β} {x : α} {y : β}, Paired F l₁ l₂ -> F x y -> Paired F (l₁ ++ [x]) (l₂ ++ [y])
 | _, _, _, _, .nil, h => .cons h .nil
 | _, _, _, _, .cons r t, h => .cons r (paired_snoc t h)
theorem boot_tuple7 : bootBuiltins "tuple" = some (.type "tuple") := by decide +kernel
theorem scSU : FnScope ["step", "number", "fields", "rows", "asked", "row"] ["step", "number", "fields"] (defScope sSU) := ⟨rfl, rfl, rfl, by decide +kernel, rfl, by decide +kernel, by decide +kernel⟩
theorem ok_su {f fw fi C : Addr} {fd fdw fdi : FuncData} {ta : Tok} (F : Fun K "step_under" "step_under" sSU f fd) (T : Bl mg) (S : StepTxt K mg C) (mA : mg "ANYTHING" = some (.int 255 ta))
  (Fw : Fun K "without_first" "without_first" sWF fw fdw) (mW : mg "without_first" = some (.ref fw)) (bw : Binds K fdw ["row", "number", "fields"] [])
  (Fi : Fun K "__init__" "Step.__init__" sStepI fi fdi) (bi : Binds K fdi ["self", "told", "waiting", "rows", "asked"] []) (M : Mk K C fi) :
  FnOk P w K mg base CX0 3 f fd ["step", "number", "fields"] (spSU K C) := by
 have GW : FnOk P w K mg base CX0 1 fw fdw ["row", "number", "fields"] (spWF K) := ok_wf Fw T mA
 have GI : FnOk P w K mg base CX0 1 fi fdi ["self", "told", "waiting", "rows", "asked"] (spStepI C) := ok_stepI Fi S
 refine F.ok scSU (fun vs H Q E h => ?_) (fun cdv A outer s H vs Q E hr h => ?_)
 ·obtain ⟨a, b, c, t, told, ts, q, fs, rows, rfl, _⟩ := h
  rfl
 ·obtain ⟨a, b, c, t, told, ts, q, fs, rows, rfl, he, sz, hb, hf, k⟩ := h
  have hr1 : Room 1 _ := hr.mono (by decide)
  refine ⟨_, pss_cons (ps_setLc (i := 3) rfl scSU.nd rfl rfl (sw_true rfl rfl rfl (by decide +kernel)) (pi_tup (pe_fld (pv 0) rfl)) (blkOk_by (own := [("row", 5)]) (by show blkC ["step", "number", "fields", "rows", "asked", "row"] (defScope sSU) _ _ = true; decide +kernel))
    (fun _ _ _ _ _ => pg_name (i := 5) scSU.nd rfl (Or.inl rfl))
    (fun _ _ _ _ _ => pts_one (pt_cmpR (r := rIn K false) op_in_seq (pe_ix (r := rIxT K) ix_tup (pv 5) pe_int (fun _ _ => rfl)) (pe_tup (pa_cons (pv 1) (pa_cons (pe_glob (v := V.int 255) (by rfl) mA ⟨_, rfl⟩) pa_nil))) rfl))
    (fun _ _ _ _ _ => pe_call GW hr1 (by rfl) mW Fw.kp bw .nil pass0 (pa_cons (pv 5) (pa_cons (pv 1) (pa_cons (pv 2) pa_nil)))))
   (pss_cons (ps_set (i := 4) scSU.nd rfl (Or.inl rfl) (pe_call GW hr1 (by rfl) mW Fw.kp bw .nil pass0 (pa_cons (pe_fld (pv 0) rfl) (pa_cons (pv 1) (pa_cons (pv 2) pa_nil)))))
   (pss_one (ps_ret (pe_make M GI hr (by rfl) S.mg bi .nil pass0 (pa_cons (pe_op op_catS (pe_fld (pv 0) rfl) (pe_tup (pa_cons (pv 1) pa_nil))) (pa_cons (pe_op op_catS (pv 2) (pe_slice sl_tail (pe_fld (pv 0) rfl) (po_some pe_int) po_none))
    (pa_cons (pe_callTy call_tuple_of (by rfl) T.tuple_ boot_tuple7 (pa_cons (pv 3) pa_nil)) (pa_cons (pv 4) pa_nil)))))))), ?_⟩
  obtain ⟨dx, at_, aw, ar, aq, h1, hT, hW, hR, hq⟩ := he
  simp only at hT hW hR hq
  obtain ⟨as, hRa, hRp⟩ := hR
  have al : as.length = rows.length := Paired.length hRp
  refine ⟨_, rfl, a, C, dx, _, _, rfl, h1, S.cl, S.nR, stepF_rows _ _ _ _, ar, rfl, ⟨_, hRa⟩, fun D hD => ?_⟩
  refine lc_tup (xs := as.map V.ref) (fun i H' => ∃ bs : List Addr, Same H H' /\ H' D = some (.lst (bs.map V.ref)) /\ Paired (fun b r => TN K H' b r) bs (MC.underF c fs.length (rows.take i)) /\ bs.length <= i)
   ⟨[], same_new hD, upd_same, .nil, Nat.le_refl _⟩ (fun i H' _ ⟨_, s, _⟩ => s.tup hRa) (fun i x H2 hx ⟨bs, s2, e2, p2, l2⟩ => ?_) (fun H2 ⟨bs, s2, e2, p2, l2⟩ => ?_)
  ·obtain ⟨ra, hra, rfl⟩ := map_get hx
   obtain ⟨r, hri, hrt⟩ := prd_get hRp hra
   have hrm := List.mem_of_getElem? hri
   obtain ⟨rne, rl⟩ := sz.row r hrm
   have hil : i < rows.length := (List.getElem?_eq_some_iff.mp hri).1
   have rz := sz.rows
   simp only at rz
   obtain ⟨y, rr, rfl⟩ : ∃ y rr, r = y :: rr := by
    cases r with
    | nil => exact absurd rfl rne
    | cons y rr => exact ⟨y, rr, rfl⟩
   refine ⟨rfl, _, rfl, ra, _, _, nI y, rfl, rfl, s2.tup hrt, atI_nat (j := 0) rfl, _, rfl, (by show 2 <= sizeLine; decide), fun p hp => ?_⟩
   have s3 : Same H2 (upd H2 p (.tup [nI c, V.int 255])) := same_new hp
   refine ⟨p, _, rfl, .inr (SqT.of upd_same), rfl, rfl, _, rfl, ?_⟩
   have ek : inV (nI y) [nI c, V.int 255] = MC.keepF c (y :: rr) := by
    show (((c : Int) == (y : Int)) || (((255 : Int) == (y : Int)) || false)) = (y == c || y == 255)
    have e1 : ((c : Int) == (y : Int)) = (y == c) := by rw [Bool.eq_iff_iff, beq_iff_eq, beq_iff_eq]; omega
    have e2 : ((255 : Int) == (y : Int)) = (y == 255) := by rw [Bool.eq_iff_iff, beq_iff_eq, beq_iff_eq]; omega
    rw [Bool.or_false, e1, e2]
   show if inV (nI y) [nI c, V.int 255] = true then _ else _
   rw [ek]
   by_cases hk : MC.keepF c (y :: rr) = true
   ·rw [hk]
    refine ⟨_, rfl, _, rfl, _, rfl, ra, b, c, y, rr, fs, rfl, s3.tup (s2.tup hrt), s3.tup (s2.tup hb), hf, ?_, fun H4 p4 s4 h4 => ?_⟩
    ·simp only [List.length_cons] at rl; omega
    ·have e4 := s4 _ _ (s3 _ _ e2)
     have t5 : Tups H4 (upd H4 D (.lst (bs.map V.ref ++ [.ref p4]))) := tups_upd e4 (fun xs z => nomatch z) (fun p xs z => nomatch z)
     have t25 := (s3.tups.trans s4.tups).trans t5
     refine ⟨_, e4, ?_, bs ++ [p4], fun b' o h => ?_, by rw [upd_same, List.map_append]; rfl, ?_, ?_⟩
     ·have : (10000000 : Nat) <= sizeLine := by decide
      rw [List.length_map]
      omega
     ·rw [upd_ne (ne_of_none h hD)]
      exact s4 _ _ (s3 _ _ (s2 _ _ h))
     ·rw [take_one hri, under_snoc, if_pos hk]
      exact paired_snoc (L2.Paired.imp' (fun b r x => x.tups t25) p2) (h4.tups t5)
     ·rw [List.length_append]; simp; omega
   ·rw [Bool.not_eq_true] at hk
    rw [hk]
    refine ⟨bs, s2.trans s3, s3 _ _ e2, ?_, by omega⟩
    rw [take_one hri, under_snoc, if_neg (by rw [hk]; exact Bool.false_ne_true), List.append_nil]
    exact L2.Paired.imp' (fun b r x => x.same s3) p2
  ·rw [List.length_map, al, List.take_length] at p2
   rw [List.length_map] at l2
   have rz := sz.rows
   have tz := sz.told
   have wz := sz.ts
   obtain ⟨qne, qz⟩ := sz.asked
   simp only [List.length_cons] at rz tz wz qne qz
   obtain ⟨y, qq, rfl⟩ : ∃ y qq, q = y :: qq := by
    cases q with
    | nil => exact absurd rfl qne
    | cons y rr => exact ⟨y, rr, rfl⟩
   have big : (10000000 : Nat) <= sizeLine := by decide
   -- asked
   refine ⟨_, rfl, a, C, dx, _, _, rfl, s2 _ _ h1, S.cl, S.nA, stepF_asked _ _ _ _, _, rfl, _, rfl, aq, b, c, y, qq, fs, rfl, s2.tup hq, s2.tup hb, hf, ?_, fun H3 pa s3 h3 => ?_⟩
   ·simp only [List.length_cons] at qz; omega
   have s23 := s2.trans s3
   -- told + (number,)
   refine ⟨_, rfl, a, C, dx, _, _, rfl, s23 _ _ h1, S.cl, S.nT, stepF_told _ _ _ _, _, rfl, (by show 1 <= sizeLine; decide), fun pn hpn => ?_⟩
   have s4 : Same H3 (upd H3 pn (.tup [nI c])) := same_new hpn
   have s24 := s23.trans s4
   refine ⟨at_, pn, _, _, rfl, rfl, s24.tup hT, SqT.of upd_same, ?_, fun pt H5 s5 h5 => ?_⟩
   ·rw [List.length_map]; simp; omega
   have s25 := s24.trans s5
   -- fields + waiting[1:]
   refine ⟨_, rfl, _, rfl, a, C, dx, _, _, rfl, s25 _ _ h1, S.cl, S.nW, stepF_waiting _ _ _ _, _, rfl, aw, nI t, ts.map nI, rfl, rfl, rfl, s25.tup hW, fun pw H6 s6 h6 => ?_⟩
   have s26 := s25.trans s6
   refine ⟨b, pw, _, _, rfl, rfl, s26.tup hb, h6, ?_, fun pf H7 s7 h7 => ?_⟩
   ·rw [List.length_map, List.length_map]; omega
   have s27 := s26.trans s7
   have s37 : Same H3 H7 := ((s4.trans s5).trans s6).trans s7
   -- tuple(rows)
   refine ⟨_, rfl, D, _, rfl, .inl ⟨SqL.of (s37 _ _ (s3 _ _ e2)), fun pr hpr => ?_⟩⟩
   have s8 : Same H7 (upd H7 pr (.tup (bs.map V.ref))) := same_new hpr
   have s28 := s27.trans s8
   have s38 := s37.trans s8
   refine ⟨_, rfl, fun x dx' nx nd ne => ⟨x, dx', _, _, _, _, rfl, upd_same, fun H9 h9 kp => ⟨rfl, ?_⟩⟩⟩
   have s9 : Same (upd H7 pr (.tup (bs.map V.ref))) H9 := Same.made nx nd kp
   refine k H9 x (s28.trans s9) ⟨dx', pt, pf, pr, pa, h9, ?_, ?_, ⟨bs, (SqT.of (s9 _ _ upd_same)), ?_⟩, ?_⟩
   ·show SqT K H9 pt ((told ++ [c]).map nI)
    rw [List.map_append]
    exact (((s6.trans s7).trans s8).trans s9).tup h5
   ·show SqT K H9 pf ((fs ++ ts).map nI)
    rw [List.map_append]
    exact (s8.trans s9).tup h7
   ·exact L2.Paired.imp' (fun b r x => x.same ((s3.trans s38).trans s9)) p2
   ·exact h3.same (s38.trans s9)
end
end D
set_option Elab.async false
set_option linter.all false
set_option maxRecDepth 100000
set_option maxHeartbeats 2000000
namespace MC
open Pc
def freeG (mk : Nat -> Bool) (hs : List Nat) (n : Nat) : Option Nat := ((List.range n).filter mk).find? fun c => !hs.contains c
def worthG (mk : Nat -> Bool) (hs : List Nat) (n : Nat) : List Nat := ((List.range n).filter mk).filter fun c => hs.contains c || freeG mk hs n == some c
theorem worth_G (T : Types) (t : Nat) (hs : List Nat) : worth T t hs = worthG (makes T t) hs (consOf T t).length := rfl
theorem freeG_succ (mk : Nat -> Bool) (hs : List Nat) (n : Nat) : (freeG mk hs (n + 1)).isSome = ((freeG mk hs n).isSome || (mk n && !hs.contains n)) /\ ((freeG mk hs n).isSome = true -> freeG mk hs (n + 1) = freeG mk hs n) /\ ((freeG mk hs n) = none -> freeG mk hs (n + 1) = if (mk n && !hs.contains n) = true then some n else none) := by
 unfold freeG
 rw [List.range_succ, List.filter_append, List.find?_append]
 have e : (List.filter mk [n]).find? (fun c => !hs.contains c) = if (mk n && !hs.contains n) = true then some n else none := by
  by_cases h : mk n = true
  ·rw [List.filter_cons_of_pos h, List.filter_nil, List.find?_cons, h, Bool.true_and]
   cases hs.contains n <;> rfl
  ·rw [List.filter_cons_of_neg h, List.filter_nil, List.find?_nil]
   rw [Bool.not_eq_true] at h
   rw [h]; rfl
 rw [e]
 cases ((List.range n).filter mk).find? (fun c => !hs.contains c) with
 | some d => simp
 | none =>
  refine ⟨?_, by simp, by simp⟩
  cases (mk n && !hs.contains n) <;> rfl
theorem worthG_succ (mk : Nat -> Bool) (hs : List Nat) (n : Nat) : worthG mk hs (n + 1) = if (mk n && (hs.contains n || (freeG mk hs n).isNone)) = true then worthG mk hs n ++ [n] else worthG mk hs n := by
 obtain ⟨_, h2, h3⟩ := freeG_succ mk hs n
 unfold worthG
 rw [List.range_succ, List.filter_append, List.filter_append]
 have old : ((List.range n).filter mk).filter (fun c => hs.contains c || freeG mk hs (n + 1) == some c) = ((List.range n).filter mk).filter (fun c => hs.contains c || freeG mk hs n == some c) := by
  cases e : freeG mk hs n with
  | some d => rw [h2 (by rw [e]; rfl), e]
  | none =>
   refine List.filter_congr fun c hc => ?_
   have : hs.contains c = true := by
    unfold freeG at e
    have := List.find?_eq_none.mp e c hc
    simpa using this
   rw [this, Bool.true_or, Bool.true_or]
 rw [old]
 have nw : (List.filter mk [n]).filter (fun c => hs.contains c || freeG mk hs (n + 1) == some c) = if (mk n && (hs.contains n || (freeG mk hs n).isNone)) = true then [n] else [] := by
  by_cases h : mk n = true
  ·rw [List.filter_cons_of_pos h, List.filter_nil, h, Bool.true_and]
   cases e : freeG mk hs n with
   | some d =>
    have ne : ¬ d = n := by
     unfold freeG at e
     have := List.mem_of_find?_eq_some e
     rw [List.mem_filter, List.mem_range] at this
     omega
    rw [h2 (by rw [e]; rfl), e]
    have : (some d == some n) = false := by simpa using ne
    cases hc : hs.contains n
    ·rw [List.filter_cons_of_neg (by rw [hc, this]; decide)]; rfl
    ·rw [List.filter_cons_of_pos (by rw [hc]; rfl)]; rfl
   | none =>
    rw [h3 e, h, Bool.true_and]
    cases hc : hs.contains n
    ·rw [List.filter_cons_of_pos (by simp)]; rfl
    ·rw [List.filter_cons_of_pos (by rw [hc]; rfl)]; rfl
  ·rw [List.filter_cons_of_neg h, List.filter_nil, List.filter_nil]
   rw [Bool.not_eq_true] at h
   rw [h]; rfl
 rw [nw]
 split
 ·rfl
 ·rw [List.append_nil]
theorem worthG_len (mk : Nat -> Bool) (hs : List Nat) (n : Nat) : (worthG mk hs n).length <= n := by
 unfold worthG
 refine Nat.le_trans (List.length_filter_le _ _) (Nat.le_trans (List.length_filter_le _ _) ?_)
 rw [List.length_range]; exact Nat.le_refl _
end MC
namespace D
open PySem PySem.Spec PyProof.Rows L2
open Pc (Types consOf)
abbrev sWT : Stmt := top 21
def mkC (bs : List Bool) (cs : List (List Nat)) (i : Nat) : Bool := MC.mk1 bs (cs.getD i [])
def spWT (K : W.Frag) : Sp := fun vs H Q _ => ∃ (a b h : Addr) (cs : List (List Nat)) (bs : List Bool) (hs : List Nat), vs = [.ref a, .ref b, .ref h] /\ ConsAt K H a cs /\ H b = some (.lst (bs.map V.bl)) /\ SqL K H h (hs.map nI) /\ cs.length <= 16 /\ (∀ fs ∈ cs, fs.length <= 4 /\ ∀ f ∈ fs, f < bs.length) /\
 ∀ (H' : Hp) (p : Addr), Same H H' -> H' p = some (.lst ((MC.worthG (mkC bs cs) hs cs.length).map nI)) -> Q (.ref p) H'
section
variable {P : Program} {w : World} {K : W.Frag} {mg : Str -> Option Value} {base : Heap}
theorem in_nats (i : Nat) (hs : List Nat) : inV (nI i) (hs.map nI) = hs.contains i := by
 unfold inV
 rw [List.any_map]
 induction hs with
 | nil => rfl
 | cons a l ih =>
  rw [List.any_cons, ih, List.contains_cons]
  congr 1
  show ((a : Int) == (i : Int)) = (i == a)
  rw [Bool.eq_iff_iff, beq_iff_eq, beq_iff_eq]
  omega
theorem flat_nats (hs : List Nat) : (hs.map nI).all flatV = true := by
 rw [List.all_map, List.all_eq_true]
 intro x _
 rfl
theorem scWT : FnScope ["constructors", "valued", "heads", "tried", "spoken_for", "number", "fields", "named"] ["constructors", "valued", "heads"] (defScope sWT) := ⟨rfl, rfl, rfl, by decide +kernel, rfl, by decide +kernel, by decide +kernel⟩
theorem ok_wt {f fm : Addr} {fd fdm : FuncData} (F : Fun K "worth_trying" "worth_trying" sWT f fd) (T : Bl mg) (Fm : Fun K "makes_value" "makes_value" sMakes fm fdm) (mM : mg "makes_value" = some (.ref fm)) (bm : Binds K fdm ["fields", "valued"] []) :
  FnOk P w K mg base CX0 2 f fd ["constructors", "valued", "heads"] (spWT K) := by
 have GM : FnOk P w K mg base CX0 1 fm fdm ["fields", "valued"] (spMakes K) := ok_makes Fm T
 refine F.ok scWT (fun vs H Q E h => ?_) (fun cdv A outer s H vs Q E hr h => ?_)
 ·obtain ⟨a, b, h, cs, bs, hs, rfl, _⟩ := h
  rfl
 ·obtain ⟨a, b, h, cs, bs, hs, rfl, ha, hb, hh, hl, hfs, k⟩ := h
  refine ⟨_, pss_cons (ps_set (i := 3) scWT.nd rfl (Or.inl rfl) (pe_lst pa_nil))
   (pss_cons (ps_set (i := 4) scWT.nd rfl (Or.inl rfl) pe_bl)
   (pss_cons (ps_for PassesOwn.never rfl (pi_enum (by rfl) T.enum_ (pa_cons (pv 0) pa_nil)) (pg_tup (n := 2) rfl (pgs_cons (pg_name (i := 5) scWT.nd rfl (Or.inl rfl)) (pgs_cons (pg_name (i := 6) scWT.nd rfl (Or.inl rfl)) pgs_nil)))
    (pss_cons (ps_set (i := 7) scWT.nd rfl (Or.inl rfl) (pe_cmpR op_in_seq (pv 5) (pv 2) rfl))
    (pss_one (ps_if (PW.pt (pw_and (pt_val (pe_call GM hr (by rfl) mM Fm.kp bm .nil pass0 (pa_cons (pv 6) (pa_cons (pv 1) pa_nil)))) (pw_and1 (PW.pt (pw_or (pt_val (pv 7)) (pw_or1 (pt_not (pt_val (pv 4)))))))))
     (pss_cons (ps_expr (pe_bm PySem.F.plainAttrs_list PySem.F.slot_list_append PySem.F.type_list_append mt_append (pv 3) (pa_cons (pv 5) pa_nil)))
     (pss_one (ps_set (i := 4) scWT.nd rfl (Or.inl rfl) (pe_or (pv 4) (pe_one (pe_not (pv 7)))))))
     pss_nil))))
   (pss_one (ps_ret (pv 3))))), ?_⟩
  refine ⟨Nat.zero_le _, fun D hD => ?_⟩
  obtain ⟨ts, hts, htp⟩ := id ha
  have tl : ts.length = cs.length := Paired.length htp
  have s0 : Same H (upd H D (.lst [])) := same_new hD
  refine ⟨_, rfl, a, _, rfl, SqL.of (s0 _ _ hts), for_enum (xs := ts.map V.ref) (fun i σ' H' => ∃ (sp : Bool) (x5 x6 x7 : Option V), σ' = [some (.ref a), some (.ref b), some (.ref h), some (.ref D), some (.bl sp), x5, x6, x7] /\ sp = (MC.freeG (mkC bs cs) hs i).isSome /\ Same H H' /\ H' D = some (.lst ((MC.worthG (mkC bs cs) hs i).map nI)))
   ⟨_, _, _, _, rfl, rfl, s0, upd_same⟩ (fun i σ' H' _ ⟨_, _, _, _, _, _, s3, _⟩ => SqL.of (s3 _ _ hts)) ?_ ?_⟩
  ·rintro i x σ' H3 Tt hx ⟨sp, y5, y6, y7, rfl, hsp, s3, e3⟩ hT
   obtain ⟨c, hc, rfl⟩ := map_get hx
   obtain ⟨fs, hfi, hft⟩ := prd_get htp hc
   have hfm := List.mem_of_getElem? hfi
   obtain ⟨f4, flt⟩ := hfs fs hfm
   have hi : i < cs.length := (List.getElem?_eq_some_iff.mp hfi).1
   have emk : mkC bs cs i = MC.mk1 bs fs := by
    unfold mkC
    rw [List.getD_eq_getElem?_getD, hfi]; rfl
   have s4 : Same H3 (upd H3 Tt (.tup [.int (i : Nat), V.ref c])) := same_new hT
   have s5 := s3.trans s4
   refine ⟨Tt, _, rfl, SqT.of upd_same, rfl, _, _, rfl, _, _, rfl, rfl, ?_⟩
   refine ⟨_, rfl, _, rfl, h, _, rfl, .inl (s5.seq hh), rfl, flat_nats hs, ?_⟩
   have ein := in_nats i hs
   have ei : (if false = true then !inV (nI i) (hs.map nI) else inV (nI i) (hs.map nI)) = hs.contains i := by rw [if_neg Bool.false_ne_true]; exact ein
   rw [ei]
   refine ⟨_, rfl, _, rfl, c, b, fs, bs, rfl, s5.tup hft, s5 _ _ hb, flt, by omega, fun H6 s6 => ⟨_, rfl, ?_⟩⟩
   have s7 := s5.trans s6
   have e7 := s6 _ _ (s4 _ _ e3)
   obtain ⟨fr1, _, _⟩ := MC.freeG_succ (mkC bs cs) hs i
   have ws := MC.worthG_succ (mkC bs cs) hs i
   rw [emk] at fr1 ws
   rw [<- hsp] at fr1
   have hno : (MC.freeG (mkC bs cs) hs i).isNone = !sp := by rw [hsp, Option.not_isSome]
   rw [hno] at ws
   cases hm : MC.mk1 bs fs with
   | false =>
    rw [hm, Bool.false_and, Bool.or_false] at fr1
    rw [hm, Bool.false_and, if_neg Bool.false_ne_true] at ws
    exact ⟨sp, _, _, _, rfl, fr1.symm, s7, by rw [ws]; exact e7⟩
   | true =>
    rw [hm, Bool.true_and] at fr1 ws
    refine ⟨_, rfl, _, rfl, ?_⟩
    have app : ∀ (g : Bool), (hs.contains i || !sp) = true -> (sp || !hs.contains i) = g -> ∃ acc, H6 D = some (.lst acc) /\ acc = (MC.worthG (mkC bs cs) hs i).map nI /\ acc.length < sizeLine /\ g = (MC.freeG (mkC bs cs) hs (i + 1)).isSome /\ upd H6 D (.lst (acc ++ [nI i])) D = some (.lst ((MC.worthG (mkC bs cs) hs (i + 1)).map nI)) /\ Same H (upd H6 D (.lst (acc ++ [nI i]))) := by
     intro g h1 h2
     have wl := MC.worthG_len (mkC bs cs) hs i
     refine ⟨_, e7, rfl, ?_, ?_, ?_, fun b o h => ?_⟩
     ·have : (10000000 : Nat) <= sizeLine := by decide
      rw [List.length_map]; omega
     ·rw [fr1, h2]
     ·rw [upd_same, ws, if_pos h1, List.map_append]; rfl
     ·rw [upd_ne (ne_of_none h hD)]; exact s7 _ _ h
    cases hn : hs.contains i with
    | true =>
     obtain ⟨acc, a1, a2, a3, a4, a5, a6⟩ := app sp (by rw [hn]; rfl) (by rw [hn]; simp)
     refine ⟨_, rfl, .inl ⟨rfl, _, SqL.of a1⟩, _, rfl, D, acc, nI i, rfl, rfl, a1, a3, ?_⟩
     refine ⟨_, rfl, sp, rfl, ?_⟩
     cases sp with
     | true => exact ⟨true, _, _, _, rfl, a4, a6, a5⟩
     | false => exact ⟨_, rfl, true, rfl, false, _, _, _, rfl, a4, a6, a5⟩
    | false =>
     refine ⟨_, rfl, sp, rfl, ?_⟩
     cases sp with
     | true =>
      rw [hn] at ws fr1
      exact ⟨true, _, _, _, rfl, by rw [fr1]; rfl, s7, by rw [ws]; exact e7⟩
     | false =>
      obtain ⟨acc, a1, a2, a3, a4, a5, a6⟩ := app true (by rw [hn]; rfl) (by rw [hn]; rfl)
      refine ⟨_, rfl, .inl ⟨rfl, _, SqL.of a1⟩, _, rfl, D, acc, nI i, rfl, rfl, a1, a3, ?_⟩
      exact ⟨_, rfl, false, rfl, _, rfl, false, rfl, true, _, _, _, rfl, a4, a6, a5⟩
  ·rintro σ' H3 ⟨sp, y5, y6, y7, rfl, hsp, s3, e3⟩
   rw [List.length_map, tl] at e3
   exact ⟨_, rfl, k H3 D s3 e3⟩
end
end D
set_option Elab.async false
set_option linter.all false
set_option maxRecDepth 100000
set_option maxHeartbeats 2000000
namespace D
open PySem PySem.Spec PyProof.Rows L2
open Pc (Types consOf)
abbrev sSB : Stmt := top 22
structure Typed (T : Types) (e : MC.Ent) : Prop where
 ts : ∀ t ∈ e.2.1, t < T.length
 hd : ∀ t ts x q, e.2.1 = t :: ts -> e.2.2.2 = x :: q -> x = 255 ∨ x < (consOf T t).length
def EntsAt (K : W.Frag) (C : Addr) (H : Hp) (p : Addr) (l : List MC.Ent) : Prop := ∃ as : List Addr, H p = some (.lst (as.map V.ref)) /\ Paired (fun a e => EntAt K C H a e) as l
def spSB (K : W.Frag) (C : Addr) : Sp := fun vs H Q _ => ∃ (a kk v : Addr) (T : Types) (e : MC.Ent), vs = [.ref a, .ref kk, .ref v] /\ EntAt K C H a e /\ Sized e /\ e.2.1 ≠ [] /\ Typed T e /\ KindsAt K H kk T /\ TOk T /\ H v = some (.lst ((Pc.having T T.length).map V.bl)) /\
 ∀ (H' : Hp) (p : Addr), Same H H' -> EntsAt K C H' p (MC.push T e) -> Q (.ref p) H'
theorem heads_map (rows : List (List Nat)) : (rows.map fun r => (MC.headF r).map nI).filterMap id = (MC.headsF rows).map nI := by
 unfold MC.headsF
 induction rows with
 | nil => rfl
 | cons r rows ih =>
  rw [List.map_cons, List.filterMap_cons, List.filterMap_cons]
  cases MC.headF r with
  | none => exact ih
  | some x => simp only [Option.map_some, id, List.map_cons]; rw [ih]
section
variable {P : Program} {w : World} {K : W.Frag} {mg : Str -> Option Value} {base : Heap}
theorem scSB : FnScope ["step", "kinds", "valued", "kind", "constructors", "head", "made", "heads", "row", "number"] ["step", "kinds", "valued"] (defScope sSB) := ⟨rfl, rfl, rfl, by decide +kernel, rfl, by decide +kernel, by decide +kernel⟩
theorem ok_sb {f fm fu ft C : Addr} {fd fdm fdu fdt : FuncData} {ta : Tok} (F : Fun K "steps_behind" "steps_behind" sSB f fd) (T : Bl mg) (S : StepTxt K mg C) (mA : mg "ANYTHING" = some (.int 255 ta))
  (Fm : Fun K "makes_value" "makes_value" sMakes fm fdm) (mM : mg "makes_value" = some (.ref fm)) (bm : Binds K fdm ["fields", "valued"] [])
  (GU : FnOk P w K mg base CX0 3 fu fdu ["step", "number", "fields"] (spSU K C)) (mU : mg "step_under" = some (.ref fu)) (kU : PySem.W.keepIn K (.ref fu) = true) (bu : Binds K fdu ["step", "number", "fields"] [])
  (GT : FnOk P w K mg base CX0 2 ft fdt ["constructors", "valued", "heads"] (spWT K)) (mT : mg "worth_trying" = some (.ref ft)) (kT : PySem.W.keepIn K (.ref ft) = true) (bt : Binds K fdt ["constructors", "valued", "heads"] []) :
  FnOk P w K mg base CX0 4 f fd ["step", "kinds", "valued"] (spSB K C) := by
 have GM : FnOk P w K mg base CX0 1 fm fdm ["fields", "valued"] (spMakes K) := ok_makes Fm T
 refine F.ok scSB (fun vs H Q E h => ?_) (fun cdv A outer s H vs Q E hr h => ?_)
 ·obtain ⟨a, kk, v, T, e, rfl, _⟩ := h
  rfl
 ·obtain ⟨a, kk, v, Ts, e, rfl, he, sz, ne, ty, hk, ok, hv, k⟩ := h
  have hr1 : Room 1 _ := hr.mono (by decide)
  have hr2 : Room 2 _ := hr.mono (by decide)
  refine ⟨_, pss_cons (ps_set (i := 3) scSB.nd rfl (Or.inl rfl) (pe_ix ix_tup (pe_fld (pv 0) rfl) pe_int (fun _ _ => rfl)))
   (pss_cons (ps_set (i := 4) scSB.nd rfl (Or.inr rfl) (pe_ix ix_list (pv 1) (pv 3) (fun _ _ => rfl)))
   (pss_cons (ps_set (i := 5) scSB.nd rfl (Or.inl rfl) (pe_ix ix_tup (pe_fld (pv 0) rfl) pe_int (fun _ _ => rfl)))
   (pss_cons (ps_if (pt_cmpR op_ne (pv 5) (pe_glob (v := V.int 255) (by rfl) mA ⟨_, rfl⟩) (nomark _))
    (pss_cons (ps_set (i := 6) scSB.nd rfl (Or.inl rfl) (pe_call GM hr1 (by rfl) mM Fm.kp bm .nil pass0 (pa_cons (pe_ix ix_list (pv 4) (pv 5) (fun _ _ => rfl)) (pa_cons (pv 2) pa_nil))))
    (pss_one (ps_ret (pe_ifExp (pt_val (pv 6)) (pe_lst (pa_cons (pe_call GU hr (by rfl) mU kU bu .nil pass0 (pa_cons (pv 0) (pa_cons (pv 5) (pa_cons (pe_ix ix_list (pv 4) (pv 5) (fun _ _ => rfl)) pa_nil)))) pa_nil)) (pe_lst pa_nil)))))
    pss_nil)
   (pss_cons (ps_if (pt_not (pt_val (pe_ix ix_list (pv 2) (pv 3) (fun _ _ => rfl)))) (pss_one (ps_ret (pe_lst pa_nil))) pss_nil)
   (pss_cons (ps_setLc (i := 7) rfl scSB.nd rfl rfl (sw_true rfl rfl rfl (by decide +kernel)) (pi_tup (pe_fld (pv 0) rfl)) (blkOk_by (own := [("row", 8)]) (by show blkC ["step", "kinds", "valued", "kind", "constructors", "head", "made", "heads", "row", "number"] (defScope sSB) _ _ = true; decide +kernel))
    (fun _ _ _ _ _ => pg_name (i := 8) scSB.nd rfl (Or.inl rfl))
    (fun _ _ _ _ _ => pts_one (pt_cmpR op_ne (pe_ix (r := rIxT K) ix_tup (pv 8) pe_int (fun _ _ => rfl)) (pe_glob (v := V.int 255) (by rfl) mA ⟨_, rfl⟩) (nomark _)))
    (fun _ _ _ _ _ => pe_ix (r := rIxT K) ix_tup (pv 8) pe_int (fun _ _ => rfl)))
   (pss_cons (ps_if (pt_not (pt_truth (pv 7) (fun _ => rfl))) (pss_one (ps_ret (pe_lst (pa_cons (pe_call GU hr (by rfl) mU kU bu .nil pass0 (pa_cons (pv 0) (pa_cons (pe_glob (v := V.int 255) (by rfl) mA ⟨_, rfl⟩) (pa_cons (pe_tup pa_nil) pa_nil)))) pa_nil)))) pss_nil)
   (pss_one (ps_ret (pe_lc rfl scSB.nd (pi_list (pe_call GT hr2 (by rfl) mT kT bt .nil pass0 (pa_cons (pv 4) (pa_cons (pv 2) (pa_cons (pv 7) pa_nil))))) (blkOk_by (own := [("number", 9)]) (by show blkC ["step", "kinds", "valued", "kind", "constructors", "head", "made", "heads", "row", "number"] (defScope sSB) _ _ = true; decide +kernel))
    (fun _ _ _ _ _ => pg_name (i := 9) scSB.nd rfl (Or.inl rfl)) (fun _ _ _ _ _ => pts_nil)
    (fun _ _ _ _ _ => pe_call GU hr (by rfl) mU kU bu .nil pass0 (pa_cons (pv 0) (pa_cons (pv 9) (pa_cons (pe_ix (r := rIxL K) ix_list (pv 4) (pv 9) (fun _ _ => rfl)) pa_nil))))))))))))), ?_⟩
  obtain ⟨told, ts0, rows, q0⟩ := e
  obtain ⟨t, ts, rfl⟩ : ∃ t ts, ts0 = t :: ts := by
   cases ts0 with
   | nil => exact absurd rfl ne
   | cons t ts => exact ⟨t, ts, rfl⟩
  obtain ⟨x, q, rfl⟩ : ∃ x q, q0 = x :: q := by
   have := sz.asked.1
   cases q0 with
   | nil => exact absurd rfl this
   | cons x q => exact ⟨x, q, rfl⟩
  have ht : t < Ts.length := ty.ts t List.mem_cons_self
  obtain ⟨dx, at_, aw, ar, aq, h1, hT, hW, hR, hq⟩ := id he
  simp only at hT hW hR hq
  obtain ⟨ks, c, hka, hkc, hcc⟩ := kind_at hk ht
  obtain ⟨cts, hcts, hctp⟩ := id hcc
  have ctl : cts.length = (consOf Ts t).length := Paired.length hctp
  have hbl : (Pc.having Ts Ts.length).length = Ts.length := MC.having_len _ _
  have hmk : ∀ n, n < (consOf Ts t).length -> Pc.makes Ts t n = MC.mk1 (Pc.having Ts Ts.length) ((consOf Ts t).getD n []) := by
   intro n hn
   refine MC.makes_eq (fun _ => rfl) ?_
   unfold Pc.fieldsOf
   rw [List.getD_eq_getElem?_getD, List.getElem?_eq_getElem hn]; rfl
  have push : ∀ (l : List (Nat × MC.Prob)), MC.kids Ts (t :: ts, rows, x :: q) = l -> MC.push Ts (told, t :: ts, rows, x :: q) = l.map fun y => (told ++ [y.1], y.2) := fun l e => by unfold MC.push; rw [e]
  have kc := MC.kids_cons Ts t ts rows x q
  have c16 : (consOf Ts t).length <= 16 := ok.cons _ (cons_mem ht)
  -- kind, constructors, head
  refine ⟨_, rfl, a, C, dx, _, _, rfl, h1, S.cl, S.nW, stepF_waiting _ _ _ _, aw, _, _, nI t, rfl, rfl, hW, atI_nat (j := 0) rfl, ?_⟩
  refine ⟨_, rfl, _, rfl, kk, _, _, V.ref c, rfl, rfl, SqL.of hka, atI_nat (j := t) (by rw [List.getElem?_map, hkc]; rfl), ?_⟩
  refine ⟨_, rfl, a, C, dx, _, _, rfl, h1, S.cl, S.nA, stepF_asked _ _ _ _, aq, _, _, nI x, rfl, rfl, hq, atI_nat (j := 0) rfl, ?_⟩
  refine ⟨_, rfl, rfl, _, rfl, ?_⟩
  by_cases hx : x = 255
  ·subst hx
   rw [if_neg (fun z => z rfl)] at kc
   have ed : (!decide (nI 255 = V.int 255)) = false := rfl
   show if (!decide (nI 255 = V.int 255)) = true then _ else _
   rw [ed]
   -- if not valued[kind]
   have hvt : t < (Pc.having Ts Ts.length).length := by rw [hbl]; exact ht
   refine ⟨_, rfl, _, rfl, v, _, _, V.bl (Pc.hasValue Ts t), rfl, rfl, SqL.of hv, atI_nat (j := t) ?_, _, rfl, ?_⟩
   ·unfold Pc.hasValue
    rw [List.getElem?_map, List.getElem?_eq_getElem hvt, List.getD_eq_getElem?_getD, List.getElem?_eq_getElem hvt]
    rfl
   cases hval : Pc.hasValue Ts t with
   | false =>
    refine ⟨Nat.zero_le _, fun p hp => k _ p (same_new hp) ⟨[], upd_same, ?_⟩⟩
    rw [hval, if_pos rfl] at kc
    rw [push _ kc]
    exact .nil
   | true =>
    rw [hval, if_neg (by decide)] at kc
    -- heads
    obtain ⟨as, hRa, hRp⟩ := id hR
    have al : as.length = rows.length := Paired.length hRp
    have rz := sz.rows
    simp only at rz
    refine ⟨_, rfl, a, C, dx, _, _, rfl, h1, S.cl, S.nR, stepF_rows _ _ _ _, ar, rfl, ⟨_, hRa⟩, fun D hD => ?_⟩
    refine lc_tup (xs := as.map V.ref) (PvC H D (rows.map fun r => (MC.headF r).map nI)) (PvC.start hD) (fun i H' _ p => p.1.tup hRa) (fun i z H2 hz p => ?_) (fun H2 p => ?_)
    ·obtain ⟨ra, hra, rfl⟩ := map_get hz
     obtain ⟨r, hri, hrt⟩ := prd_get hRp hra
     have hrm := List.mem_of_getElem? hri
     obtain ⟨rne, rl⟩ := sz.row r hrm
     obtain ⟨y, rr, rfl⟩ : ∃ y rr, r = y :: rr := by
      cases r with
      | nil => exact absurd rfl rne
      | cons y rr => exact ⟨y, rr, rfl⟩
     refine ⟨rfl, _, rfl, ra, _, _, nI y, rfl, rfl, p.1.tup hrt, atI_nat (j := 0) rfl, rfl, _, rfl, ?_⟩
     by_cases hy : y = 255
     ·have ed : (!decide (nI y = V.int 255)) = false := by rw [hy]; rfl
      show if (!decide (nI y = V.int 255)) = true then _ else _
      rw [ed]
      refine p.skip (Same.refl _) ?_
      rw [List.getElem?_map, hri]
      simp [MC.headF, hy]
     ·have ed : (!decide (nI y = V.int 255)) = true := by
       rw [decide_eq_false (fun q => hy (by have := V.int.inj q; omega))]; rfl
      show if (!decide (nI y = V.int 255)) = true then _ else _
      rw [ed]
      refine ⟨_, rfl, ra, _, _, nI y, rfl, rfl, p.1.tup hrt, atI_nat (j := 0) rfl, p.add hD (Same.refl _) ?_ ?_⟩
      ·rw [List.getElem?_map, hri]
       simp [MC.headF, hy]
      ·rw [List.length_map]; omega
    ·obtain ⟨s2, e2⟩ := p.done (by rw [List.length_map, List.length_map, al])
     rw [heads_map] at e2
     refine ⟨_, rfl, _, .inl ⟨_, SqL.of e2, rfl⟩, ?_⟩
     by_cases hh : MC.headsF rows = []
     ·rw [if_pos hh] at kc
      have em : (!!((MC.headsF rows).map nI).isEmpty) = true := by rw [hh]; rfl
      show if (!!((MC.headsF rows).map nI).isEmpty) = true then _ else _
      rw [em]
      refine ⟨_, rfl, Nat.zero_le _, fun p0 hp0 => ?_⟩
      have s3 : Same H2 (upd H2 p0 (.tup [])) := same_new hp0
      refine ⟨a, p0, 255, t, told, ts, 255 :: q, [], rows, rfl, he.same (s2.trans s3), sz, SqT.of upd_same, by decide, fun H4 p4 s4 h4 => ?_⟩
      refine ⟨(by show 1 <= sizeLine; decide), fun pl hpl => ?_⟩
      have s5 : Same H4 (upd H4 pl (.lst [.ref p4])) := same_new hpl
      refine k _ pl (((s2.trans s3).trans s4).trans s5) ⟨[p4], upd_same, ?_⟩
      rw [push _ kc]
      exact .cons (h4.same s5) .nil
     ·rw [if_neg hh] at kc
      have em : (!!((MC.headsF rows).map nI).isEmpty) = false := by
       cases e : MC.headsF rows with
       | nil => exact absurd e hh
       | cons y l => rfl
      show if (!!((MC.headsF rows).map nI).isEmpty) = true then _ else _
      rw [em]
      refine ⟨_, rfl, _, rfl, _, rfl, c, v, D, consOf Ts t, _, _, rfl, hcc.same s2, s2 _ _ hv, SqL.of e2, c16, fun fs hfs => ?_, fun H3 pw s3 h3 => ?_⟩
      ·refine ⟨ok.flds _ (cons_mem ht) fs hfs, fun f hf => ?_⟩
       rw [hbl]
       exact ok.wf _ (cons_mem ht) fs hfs f hf
      have ew : MC.worthG (mkC (Pc.having Ts Ts.length) (consOf Ts t)) (MC.headsF rows) (consOf Ts t).length = MC.worth Ts t (MC.headsF rows) := by
       rw [MC.worth_G]
       unfold MC.worthG MC.freeG
       have : (List.range (consOf Ts t).length).filter (mkC (Pc.having Ts Ts.length) (consOf Ts t)) = (List.range (consOf Ts t).length).filter (Pc.makes Ts t) :=
        List.filter_congr fun n hn => (hmk n (List.mem_range.mp hn)).symm
       rw [this]
      rw [ew] at h3
      have s23 := s2.trans s3
      refine ⟨pw, rfl, ⟨_, SqL.of h3⟩, fun L hL => ?_⟩
      have wlen : (MC.worth Ts t (MC.headsF rows)).length <= 16 := Nat.le_trans (MC.worth_len _ _ _) c16
      refine lc_list (xs := (MC.worth Ts t (MC.headsF rows)).map nI) (fun i H' => ∃ bs : List Addr, Same H3 H' /\ H' L = some (.lst (bs.map V.ref)) /\ bs.length <= i /\
        Paired (fun b (y : MC.Ent) => EntAt K C H' b y) bs ((((MC.worth Ts t (MC.headsF rows)).map fun n => (n, (MC.flds Ts t n ++ ts, MC.underF n (MC.flds Ts t n).length rows, MC.offF n (MC.flds Ts t n).length (255 :: q)))).map fun y => (told ++ [y.1], y.2)).take i))
       ⟨[], same_new hL, upd_same, Nat.le_refl _, .nil⟩ (fun i H' _ ⟨_, s, _⟩ => SqL.of (s _ _ h3)) (fun i z H4 hz ⟨bs, s4, e4, l4, p4⟩ => ?_) (fun H4 ⟨bs, s4, e4, l4, p4⟩ => ?_)
      ·obtain ⟨n, hn, rfl⟩ := map_get hz
       have hnm := List.mem_of_getElem? hn
       obtain ⟨hfe, hnl⟩ := MC.makes_fields (MC.worth_makes hnm)
       have hil : i < 16 := by have := (List.getElem?_eq_some_iff.mp hn).1; omega
       obtain ⟨cts', ta', hcts', _, hcta, hft⟩ := con_at hcc hnl
       obtain ⟨f4, _⟩ := ok.fl ht hnl
       have s24 := s23.trans s4
       refine ⟨rfl, _, rfl, _, rfl, _, rfl, _, rfl, c, _, _, V.ref ta', rfl, rfl, SqL.of (s24 _ _ hcts'), atI_nat (j := n) (by rw [List.getElem?_map, hcta]; rfl), ?_⟩
       refine ⟨a, ta', n, t, told, ts, 255 :: q, _, rows, rfl, he.same s24, sz, s24.tup hft, f4, fun H5 p5 s5 h5 => ?_⟩
       have e5 := s5 _ _ e4
       have t6 : Tups H5 (upd H5 L (.lst (bs.map V.ref ++ [.ref p5]))) := tups_upd e5 (fun xs z => nomatch z) (fun p xs z => nomatch z)
       have up : ∀ (b' : Addr) (y : MC.Ent), EntAt K C H5 b' y -> EntAt K C (upd H5 L (.lst (bs.map V.ref ++ [.ref p5]))) b' y := fun b' y ⟨dx', t', w', r', q', g1, g2, g3, g4, g5⟩ =>
        ⟨dx', t', w', r', q', by rw [upd_ne (ne_of g1 e5 (fun z => nomatch z))]; exact g1, g2.tups t6, g3.tups t6, g4.tups t6, g5.tups t6⟩
       refine ⟨_, e5, ?_, bs ++ [p5], fun b' o h => ?_, by rw [upd_same, List.map_append]; rfl, ?_, ?_⟩
       ·have : (10000000 : Nat) <= sizeLine := by decide
        rw [List.length_map]
        omega
       ·rw [upd_ne (ne_of_none h hL)]
        exact s5 _ _ (s4 _ _ h)
       ·rw [List.length_append]; simp; omega
       ·have e6 : (((MC.worth Ts t (MC.headsF rows)).map fun n => (n, (MC.flds Ts t n ++ ts, MC.underF n (MC.flds Ts t n).length rows, MC.offF n (MC.flds Ts t n).length (255 :: q)))).map fun y => (told ++ [y.1], y.2))[i]? =
          some (told ++ [n], (MC.flds Ts t n ++ ts, MC.underF n (MC.flds Ts t n).length rows, MC.offF n (MC.flds Ts t n).length (255 :: q))) := by
         rw [List.getElem?_map, List.getElem?_map, hn]; rfl
        rw [take_one e6]
        exact paired_snoc (L2.Paired.imp' (fun b y x => up b y (x.same s5)) p4) (up _ _ h5)
      ·refine k H4 L (s23.trans s4) ⟨bs, e4, ?_⟩
       rw [push _ kc]
       have : ((MC.worth Ts t (MC.headsF rows)).map nI).length = (((MC.worth Ts t (MC.headsF rows)).map fun n => (n, (MC.flds Ts t n ++ ts, MC.underF n (MC.flds Ts t n).length rows, MC.offF n (MC.flds Ts t n).length (255 :: q)))).map fun y => (told ++ [y.1], y.2)).length := by simp
       rw [this, List.take_length] at p4
       exact p4
  ·have hxl : x < (consOf Ts t).length := by
    rcases ty.hd t ts x q rfl rfl with h | h
    ·exact absurd h hx
    ·exact h
   rw [if_pos hx] at kc
   have ed : (!decide (nI x = V.int 255)) = true := by
    rw [decide_eq_false (fun q => hx (by have := V.int.inj q; omega))]; rfl
   show if (!decide (nI x = V.int 255)) = true then _ else _
   rw [ed]
   obtain ⟨cts', ta', hcts', _, hcta, hft⟩ := con_at hcc hxl
   obtain ⟨f4, fw⟩ := ok.fl ht hxl
   refine ⟨_, rfl, _, rfl, c, _, _, V.ref ta', rfl, rfl, SqL.of hcts', atI_nat (j := x) (by rw [List.getElem?_map, hcta]; rfl), _, rfl, ta', v, _, _, rfl, hft, hv, fun f hf => by rw [hbl]; exact fw f hf, by omega, fun H2 s2 => ?_⟩
   rw [<- hmk x hxl]
   refine ⟨_, rfl, _, rfl, ?_⟩
   cases hm : Pc.makes Ts t x with
   | false =>
    rw [hm, if_neg (by decide)] at kc
    refine ⟨Nat.zero_le _, fun p hp => k _ p (s2.trans (same_new hp)) ⟨[], upd_same, ?_⟩⟩
    rw [push _ kc]
    exact .nil
   | true =>
    rw [hm, if_pos rfl] at kc
    refine ⟨_, rfl, _, rfl, _, rfl, _, rfl, c, _, _, V.ref ta', rfl, rfl, SqL.of (s2 _ _ hcts'), atI_nat (j := x) (by rw [List.getElem?_map, hcta]; rfl), a, ta', x, t, told, ts, x :: q, _, rows, rfl, he.same s2, sz, s2.tup hft, f4, fun H4 p4 s4 h4 => ?_⟩
    refine ⟨(by show 1 <= sizeLine; decide), fun pl hpl => ?_⟩
    have s5 : Same H4 (upd H4 pl (.lst [.ref p4])) := same_new hpl
    refine k _ pl ((s2.trans s4).trans s5) ⟨[p4], upd_same, ?_⟩
    rw [push _ kc]
    exact .cons (h4.same s5) .nil
end
end D
set_option Elab.async false
set_option linter.all false
set_option maxRecDepth 100000
set_option maxHeartbeats 2000000
namespace MC
open Pc
structure Lim (T : Types) (P : Prob) : Prop where
 ts : ∀ t ∈ P.1, t < T.length
 rows : P.2.1.length <= 64
 row : ∀ r ∈ P.2.1, r.length + 4 * hgt P <= 2200
 asked : P.2.2.length + 4 * hgt P <= 2200
theorem off_len (c n : Nat) (hn : n <= 4) (r : List Nat) : (offF c n r).length <= r.length + 3 := by
 cases r with
 | nil => simp [offF]
 | cons x r =>
  simp only [offF]
  split
  ·simp; omega
  ·simp; omega
theorem Lim.kid {T : Types} (W : WF T) (N : Nar T) {P : Prob} (l : Lim T P) {x : Nat × Prob} (h : x ∈ kids T P) : Lim T x.2 := by
 have hh := kid_hgt N h
 obtain ⟨t, ts, rows, y, q, e, hk⟩ := kid_cases h
 clear h
 subst e
 have both : ∀ (c n : Nat) (us : List Nat), n <= 4 -> (∀ u ∈ us, u < T.length) -> hgt (us, underF c n rows, offF c n (y :: q)) < hgt (t :: ts, rows, y :: q) -> Lim T (us, underF c n rows, offF c n (y :: q)) := by
  intro c n us hn hu hg
  refine ⟨hu, ?_, fun r hr => ?_, ?_⟩
  ·have := l.rows
   simp only at this ⊢
   unfold underF
   rw [List.length_map]
   exact Nat.le_trans (List.length_filter_le _ _) this
  ·unfold underF at hr
   obtain ⟨r0, hr0, rfl⟩ := List.mem_map.mp hr
   have := l.row r0 (List.mem_filter.mp hr0).1
   have := off_len c n hn r0
   omega
  ·have := l.asked
   have := off_len c n hn (y :: q)
   simp only at *
   omega
 rcases hk with ⟨rfl, _, _, _⟩ | ⟨c, hm, rfl, _⟩
 ·exact both 255 0 ts (by decide) (fun u hu => l.ts u (List.mem_cons_of_mem _ hu)) hh
 ·refine both c _ _ (N t c) (fun u hu => ?_) hh
  rcases List.mem_append.mp hu with hu | hu
  ·have ht := l.ts t List.mem_cons_self
   obtain ⟨_, hc⟩ := makes_fields hm
   have m1 : consOf T t ∈ T := by
    have : consOf T t = T[t] := by unfold consOf; rw [List.getD_eq_getElem?_getD, List.getElem?_eq_getElem ht]; rfl
    rw [this]; exact List.getElem_mem ht
   have m2 : flds T t c ∈ consOf T t := by
    unfold flds
    rw [List.getD_eq_getElem?_getD, List.getElem?_eq_getElem hc]; exact List.getElem_mem hc
   exact W _ m1 _ m2 u hu
  ·exact l.ts u (List.mem_cons_of_mem _ hu)
def SQ (T : Types) (t : Nat) (cl : List Pat) (p : Pat) (P : Prob) : Prop := InLE T t cl p P /\ Lim T P
theorem ok_ne {T : Types} {t : Nat} {ts : List Nat} {r : List Pat} (h : OkPs T (t :: ts) r) : txts r ≠ [] := by
 match r, h with
 | [], h => simp [OkPs] at h
 | p :: r, _ => simp [txts, txt_ne]
theorem ok_head {T : Types} {t : Nat} {ts : List Nat} {r : List Pat} (h : OkPs T (t :: ts) r) {x : Nat} {q : List Nat} (e : txts r = x :: q) : x = 255 ∨ x < (consOf T t).length := by
 match r, h with
 | [], h => simp [OkPs] at h
 | .any :: r, _ =>
  simp only [txts, txt, List.cons_append, List.nil_append, List.cons.injEq] at e
  exact .inl e.1.symm
 | .con c l :: r, h =>
  simp only [OkPs, OkP] at h
  obtain ⟨⟨fs, e2, _⟩, _⟩ := h
  simp only [txts, txt, List.cons_append, List.cons.injEq] at e
  right
  rw [<- e.1]
  exact (fields_get e2).1
end MC
namespace D
open PySem PySem.Spec PyProof.Rows L2
open Pc (Types consOf)
theorem TOk.nar {T : Types} (ok : TOk T) : MC.Nar T := by
 intro t c
 unfold MC.flds
 by_cases ht : t < T.length
 ·by_cases hc : c < (consOf T t).length
  ·exact (ok.fl ht hc).1
  ·rw [List.getD_eq_getElem?_getD, List.getElem?_eq_none (by omega)]; simp
 ·have : consOf T t = [] := by unfold consOf; rw [List.getD_eq_getElem?_getD, List.getElem?_eq_none (by omega)]; rfl
  rw [this]; simp
theorem TOk.c16 {T : Types} (ok : TOk T) : MC.Cons16 T := by
 intro t
 by_cases ht : t < T.length
 ·exact ok.cons _ (cons_mem ht)
 ·have : consOf T t = [] := by unfold consOf; rw [List.getD_eq_getElem?_getD, List.getElem?_eq_none (by omega)]; rfl
  rw [this]; simp
theorem sized_of {T : Types} {t : Nat} {cl : List Pc.Pat} {p : Pc.Pat} {e : MC.Ent} (h : MC.SQ T t cl p e.2) (he : e.1.length + MC.hgt e.2 <= 513) (ne : e.2.1 ≠ []) : Sized e /\ Typed T e := by
 obtain ⟨⟨P0, ok, eP, _⟩, l⟩ := h
 obtain ⟨told, ts, rows, q⟩ := e
 simp only at eP l he ne
 obtain ⟨ts0, X, q0⟩ := P0
 unfold MC.flat at eP
 simp only [Prod.mk.injEq] at eP
 obtain ⟨rfl, rfl, rfl⟩ := eP
 obtain ⟨okX, okq⟩ := ok
 simp only at okX okq
 obtain ⟨t', ts', rfl⟩ : ∃ t' ts', ts = t' :: ts' := by
  cases ts with
  | nil => exact absurd rfl ne
  | cons t ts => exact ⟨t, ts, rfl⟩
 have hg : (t' :: ts').length <= MC.hgt (t' :: ts', X.map MC.txts, MC.txts q0) := by unfold MC.hgt; simp only; omega
 refine ⟨⟨?_, ?_, ?_, fun r hr => ?_, ?_⟩, l.ts, fun t1 ts1 x q e1 e2 => ?_⟩
 ·simp only; omega
 ·simp only at hg ⊢; omega
 ·have := l.rows; simp only at this ⊢; omega
 ·have := l.row r hr
  obtain ⟨r0, hr0, rfl⟩ := List.mem_map.mp hr
  exact ⟨MC.ok_ne (okX r0 hr0), by omega⟩
 ·have := l.asked
  exact ⟨MC.ok_ne okq, by simp only at this ⊢; omega⟩
 ·simp only [List.cons.injEq] at e1
  obtain ⟨rfl, rfl⟩ := e1
  exact MC.ok_head okq e2
abbrev cI (l : List Nat) : List Int := l.map fun (n : Nat) => (n : Int)
def castP (P : MC.Prob) : PKey := (cI P.1, P.2.1.map cI, cI P.2.2)
theorem cI_inj : ∀ {a b : List Nat}, cI a = cI b -> a = b
 | [], [], _ => rfl
 | [], _ :: _, h => by simp [cI] at h
 | _ :: _, [], h => by simp [cI] at h
 | x :: a, y :: b, h => by
  simp only [cI, List.map_cons, List.cons.injEq] at h
  rw [show x = y by omega, cI_inj h.2]
theorem cIs_inj : ∀ {a b : List (List Nat)}, a.map cI = b.map cI -> a = b
 | [], [], _ => rfl
 | [], _ :: _, h => by simp at h
 | _ :: _, [], h => by simp at h
 | x :: a, y :: b, h => by
  simp only [List.map_cons, List.cons.injEq] at h
  rw [cI_inj h.1, cIs_inj h.2]
theorem castP_inj {a b : MC.Prob} (h : castP a = castP b) : a = b := by
 obtain ⟨a1, a2, a3⟩ := a
 obtain ⟨b1, b2, b3⟩ := b
 unfold castP at h
 simp only [Prod.mk.injEq] at h
 rw [cI_inj h.1, cIs_inj h.2.1, cI_inj h.2.2]
theorem castP_mem {P : MC.Prob} {l : List MC.Prob} : decide (castP P ∈ l.map castP) = decide (P ∈ l) := by
 congr 1
 refine propext ⟨fun h => ?_, fun h => List.mem_map.mpr ⟨P, h, rfl⟩⟩
 obtain ⟨Q, hQ, e⟩ := List.mem_map.mp h
 rw [<- castP_inj e]
 exact hQ
theorem TN.tis {K : W.Frag} {H : Hp} {a : Addr} {l : List Nat} (h : TN K H a l) : TIs K H a (cI l) := by
 unfold TIs
 rw [List.map_map]
 exact h
theorem TNs.trs {K : W.Frag} {H : Hp} {a : Addr} {rows : List (List Nat)} (h : TNs K H a rows) : TRs K H a (rows.map cI) := by
 obtain ⟨as, h1, h2⟩ := h
 refine ⟨as, h1, ?_⟩
 clear h1
 induction h2 with
 | nil => exact .nil
 | cons r _ ih => exact .cons r.tis ih
theorem keyAt {K : W.Frag} {H : Hp} {a x y z : Addr} {P : MC.Prob} (h : SqT K H a [.ref x, .ref y, .ref z]) (h1 : TN K H x P.1) (h2 : TNs K H y P.2.1) (h3 : TN K H z P.2.2) : KeyAt K H a (castP P) := ⟨x, y, z, h, h1.tis, h2.trs, h3.tis⟩
theorem EntAt.tups {K : W.Frag} {C : Addr} {H H' : Hp} {a : Addr} {e : MC.Ent} (h : EntAt K C H a e) (t : Tups H H') (i : ∀ b C dx fs, H b = some (.ins C dx fs) -> H' b = some (.ins C dx fs)) : EntAt K C H' a e := by
 obtain ⟨dx, t', w, r, q, h1, h2, h3, h4, h5⟩ := h
 exact ⟨dx, t', w, r, q, i _ _ _ _ h1, h2.tups t, h3.tups t, h4.tups t, h5.tups t⟩
theorem tand2 {t u : TT} {σ : L2.St} {H : Hp} {Q : Bool -> Hp -> Prop} {k1 k2 : Bool} (h1 : ∀ Q' : Bool -> Hp -> Prop, Q' k1 H -> t σ H Q') (h2 : ∀ Q' : Bool -> Hp -> Prop, Q' k2 H -> u σ H Q') (h : Q (k1 && k2) H) : tAnd t u σ H Q := by
 refine h1 _ ?_
 cases k1 with
 | true => exact h2 _ h
 | false => exact h
theorem paired_append {α β : Type} {F : α -> β -> Prop} : ∀ {l₁ : List α} {l₂ : List β} {m₁ : List α} {m₂ : List β}, Paired F l₁ l₂ -> Paired F m₁ m₂ -> Paired F (l₁ ++ m₁) (l₂ ++ m₂)
 | _, _, _, _, .nil, h => h
 | _, _, _, _, .cons r t, h => .cons r (paired_append t h)
theorem paired_empty {β : Type} {F : Addr -> β -> Prop} : ∀ {as : List Addr} {l : List β}, Paired F as l -> (as.map V.ref).isEmpty = l.isEmpty
 | _, _, .nil => rfl
 | _, _, .cons _ _ => rfl
theorem size_mem : ∀ {cl : List Pc.Pat} {x : Pc.Pat}, x ∈ cl -> (MC.txt x).length <= MC.sizes cl
 | [], _, h => by simp at h
 | y :: cl, x, h => by
  unfold MC.sizes
  rw [List.map_cons, List.sum_cons]
  rcases List.mem_cons.mp h with rfl | h
  ·omega
  ·have := size_mem h
   unfold MC.sizes at this
   omega
abbrev sSP : Stmt := top 23
def spSP (K : W.Frag) : Sp := fun vs H Q _ => ∃ (kk ra qa : Addr) (t : Nat) (T : Types) (cl : List Pc.Pat) (p : Pc.Pat) (as : List Addr), vs = [.ref kk, nI t, .ref ra, .ref qa] /\ KindsAt K H kk T /\ TOk T /\ t < T.length /\
 SqL K H ra (as.map V.ref) /\ Paired (fun b r => TN K H b r) as (cl.map MC.txt) /\ TN K H qa (MC.txt p) /\ (∀ x ∈ cl, MC.OkP T t x) /\ MC.OkP T t p /\ MC.sizes cl + MC.csz p <= 64 /\ cl.length <= 32 /\
 ∀ H' : Hp, Same H H' -> match MC.flv T (MC.flat (MC.prob t cl p)) with
  | none => Q .non H'
  | some l => ∀ a, TN K H' a l -> Q (.ref a) H'
section
variable {P : Program} {w : World} {K : W.Frag} {mg : Str -> Option Value} {base : Heap}
theorem scSP : FnScope ["kinds", "kind", "rows", "asked", "valued", "left", "tried", "step", "problem"] ["kinds", "kind", "rows", "asked"] (defScope sSP) := ⟨rfl, rfl, rfl, by decide +kernel, rfl, by decide +kernel, by decide +kernel⟩
theorem ok_sp {f fv fb fi C : Addr} {fd fdv fdb fdi : FuncData} (F : Fun K "shown_pattern" "shown_pattern" sSP f fd) (T : Bl mg) (S : StepTxt K mg C)
  (GV : FnOk P w K mg base CX0 2 fv fdv ["kinds"] (spValued K)) (mV : mg "valued_kinds" = some (.ref fv)) (kV : PySem.W.keepIn K (.ref fv) = true) (bv : Binds K fdv ["kinds"] [])
  (GB : FnOk P w K mg base CX0 4 fb fdb ["step", "kinds", "valued"] (spSB K C)) (mB : mg "steps_behind" = some (.ref fb)) (kB : PySem.W.keepIn K (.ref fb) = true) (bb : Binds K fdb ["step", "kinds", "valued"] [])
  (Fi : Fun K "__init__" "Step.__init__" sStepI fi fdi) (bi : Binds K fdi ["self", "told", "waiting", "rows", "asked"] []) (M : Mk K C fi) :
  FnOk P w K mg base CX0 5 f fd ["kinds", "kind", "rows", "asked"] (spSP K) := by
 have GI : FnOk P w K mg base CX0 1 fi fdi ["self", "told", "waiting", "rows", "asked"] (spStepI C) := ok_stepI Fi S
 refine F.ok scSP (fun vs H Q E h => ?_) (fun cdv A outer s H vs Q E hr h => ?_)
 ·obtain ⟨kk, ra, qa, t, Ts, cl, p, as, rfl, _⟩ := h
  rfl
 ·obtain ⟨kk, ra, qa, t, Ts, cl, p, as, rfl, hk, ok, ht, hra, hrp, hqa, okc, okp, hsz, hcl, k⟩ := h
  have hr2 : Room 2 _ := hr.mono (by decide)
  have hu : (A.deeper (envOfC "shown_pattern" (defScope sSP) s.heap.objs.size f cdv)).units + 4 < cLine := Nat.lt_of_le_of_lt (Nat.add_le_add_left (by decide : 4 <= 64) _) hr.units
  refine ⟨_, pss_cons (ps_set (i := 4) scSP.nd rfl (Or.inl rfl) (pe_call GV hr2 (by rfl) mV kV bv .nil pass0 (pa_cons (pv 0) pa_nil)))
   (pss_cons (ps_set (i := 5) scSP.nd rfl (Or.inl rfl) (pe_lst (pa_cons (pe_make M GI hr2 (by rfl) S.mg bi .nil pass0 (pa_cons (pe_tup pa_nil) (pa_cons (pe_tup (pa_cons (pv 1) pa_nil)) (pa_cons (pe_callTy call_tuple_of (by rfl) T.tuple_ boot_tuple7 (pa_cons (pv 2) pa_nil)) (pa_cons (pv 3) pa_nil))))) pa_nil)))
   (pss_cons (ps_set (i := 6) scSP.nd rfl (Or.inl rfl) pe_nnew)
   (pss_cons (ps_while PassesOwn.never (pt_truth (pv 5) (fun _ => rfl))
    (pss_cons (ps_set (i := 7) scSP.nd rfl (Or.inl rfl) (pe_bm0 PySem.F.plainAttrs_list PySem.F.slot_list_pop PySem.F.type_list_pop mt_pop (pv 5)))
    (pss_cons (ps_if (PW.pt (pw_and (pt_not (pt_truth (pe_fld (pv 7) rfl) (fun _ => rfl))) (pw_and1 (pt_not (pt_truth (pe_fld (pv 7) rfl) (fun _ => rfl)))))) (pss_one (ps_ret (pe_fld (pv 7) rfl))) pss_nil)
    (pss_cons (ps_set (i := 8) scSP.nd rfl (Or.inl rfl) (pe_tup (pa_cons (pe_fld (pv 7) rfl) (pa_cons (pe_fld (pv 7) rfl) (pa_cons (pe_fld (pv 7) rfl) pa_nil)))))
    (pss_one (ps_if (PW.pt (pw_and (pt_truth (pe_fld (pv 7) rfl) (fun _ => rfl)) (pw_and1 (pt_cmp (pc_nnotin hu (pv 8) (pv 6))))))
     (pss_cons (ps_nput hu (pv 6) (pv 8) pe_bl rfl)
     (pss_one (ps_expr (pe_bm PySem.F.plainAttrs_list PySem.F.slot_list_extend PySem.F.type_list_extend mt_extend (pv 5) (pa_cons (pe_list_rev rfl (by rfl) T.list_ (by rfl) T.rev_ (pe_call GB hr (by rfl) mB kB bb .nil pass0 (pa_cons (pv 7) (pa_cons (pv 0) (pa_cons (pv 4) pa_nil))))) pa_nil)))))
     pss_nil))))))
   (pss_one (ps_ret pe_non))))), ?_⟩
  have N := ok.nar
  have C16 := ok.c16
  have Fw := C16.few
  have csz : (MC.txt p).length <= MC.csz p + 1 := by cases p <;> simp [MC.csz, MC.txt]
  have hs128 : MC.sizes cl + (MC.txt p).length <= 128 := by omega
  have hbl : (Pc.having Ts Ts.length).length = Ts.length := MC.having_len _ _
  have h513 := MC.hgt_start (t := t) hs128
  have lim0 : MC.Lim Ts (MC.flat (MC.prob t cl p)) := by
   refine ⟨fun u hu => ?_, ?_, fun r hr => ?_, ?_⟩
   ·simp only [MC.flat, MC.prob, List.mem_cons, List.not_mem_nil, or_false] at hu
    rw [hu]; exact ht
   ·simp only [MC.flat, MC.prob, MC.rowsOf, List.length_map]; omega
   ·simp only [MC.flat, MC.prob] at hr
    obtain ⟨r0, hr0, rfl⟩ := List.mem_map.mp hr
    unfold MC.rowsOf at hr0
    obtain ⟨x, hx, rfl⟩ := List.mem_map.mp hr0
    have : (MC.txt x).length <= MC.sizes cl := size_mem hx
    rw [MC.txts_single]
    omega
   ·simp only [MC.flat, MC.prob, MC.txts_single]
    have : (MC.flat (MC.prob t cl p)) = ([t], (MC.rowsOf cl).map MC.txts, MC.txt p) := by simp only [MC.flat, MC.prob, MC.txts_single]
    rw [<- this]
    omega
  have L0 := MC.Loop.start (T := Ts) (Q := MC.SQ Ts t cl p) (MC.flat (MC.prob t cl p)) ⟨MC.inLE_start okc okp hs128, lim0⟩
  generalize hans : MC.flv Ts (MC.flat (MC.prob t cl p)) = ans at L0 k
  generalize hH0 : MC.hgt (MC.flat (MC.prob t cl p)) = H0 at L0 h513
  -- valued
  refine ⟨_, rfl, kk, Ts, rfl, hk, ok, fun H1 v s1 hv => ?_⟩
  -- left
  refine ⟨Nat.zero_le _, fun pt hpt => ?_⟩
  have s2 : Same H1 (upd H1 pt (.tup [])) := same_new hpt
  refine ⟨_, rfl, (by show 1 <= sizeLine; decide), fun pw hpw => ?_⟩
  have s3 : Same (upd H1 pt (.tup [])) (upd (upd H1 pt (.tup [])) pw (.tup [nI t])) := same_new hpw
  have s13 := s1.trans (s2.trans s3)
  refine ⟨_, rfl, ra, _, rfl, .inl ⟨s13.seq hra, fun pr hpr => ?_⟩⟩
  generalize hH3 : upd (upd H1 pt (.tup [])) pw (.tup [nI t]) = H3 at s3 s13 hpr
  have s4 : Same H3 (upd H3 pr (.tup (as.map V.ref))) := same_new hpr
  have s14 := s13.trans s4
  refine ⟨_, rfl, fun x dx nx nd ne => ⟨x, dx, _, _, _, _, rfl, upd_same, fun H5 h5 kp => ⟨rfl, ?_⟩⟩⟩
  have s5 : Same (upd H3 pr (.tup (as.map V.ref))) H5 := Same.made nx nd kp
  have s15 := s14.trans s5
  refine ⟨(by show 1 <= sizeLine; decide), fun L hL => ?_⟩
  have s6 : Same H5 (upd H5 L (.lst [.ref x])) := same_new hL
  have s16 := s15.trans s6
  have hLn : H L = none := s15.free hL
  have e0 : EntAt K C H5 x ([], MC.flat (MC.prob t cl p)) := by
   have hw3 : H3 pw = some (.tup [nI t]) := by rw [<- hH3]; exact upd_same
   have ht3 : H3 pt = some (.tup []) := s3 _ _ upd_same
   refine ⟨dx, pt, pw, pr, qa, h5, SqT.of (s5 _ _ (s4 _ _ ht3)), SqT.of (s5 _ _ (s4 _ _ hw3)), ⟨as, SqT.of (s5 _ _ upd_same), ?_⟩, ?_⟩
   ·have : (MC.flat (MC.prob t cl p)).2.1 = cl.map MC.txt := by
     simp only [MC.flat, MC.prob, MC.rowsOf, List.map_map]
     exact List.map_congr_left fun x _ => MC.txts_single x
    rw [this]
    exact L2.Paired.imp' (fun b r x => x.same s15) hrp
   ·have : (MC.flat (MC.prob t cl p)).2.2 = MC.txt p := by simp only [MC.flat, MC.prob, MC.txts_single]
    rw [this]
    exact hqa.same s15
  -- tried
  intro D H7 hD s7 t7
  have s17 := s16.trans s7
  have hDn : H D = none := s16.free hD
  have hLD : L ≠ D := ne_of_none upd_same hD
  have hv5 : H5 v = some (.lst ((Pc.having Ts Ts.length).map V.bl)) := s5 _ _ (s4 _ _ (s3 _ _ (s2 _ _ hv)))
  have hvL : v ≠ L := ne_of_none hv5 hL
  have hvD : v ≠ D := ne_of_none (s6 _ _ hv5) hD
  refine ⟨fun m σ H' => ∃ (st : List MC.Ent) (as : List Addr) (tried : List MC.Prob) (x7 x8 : Option V), σ = [some (.ref kk), some (nI t), some (.ref ra), some (.ref qa), some (.ref v), some (.ref L), some (.ref D), x7, x8] /\ Same H H' /\ H' v = some (.lst ((Pc.having Ts Ts.length).map V.bl)) /\
    H' L = some (.lst (as.reverse.map V.ref)) /\ Paired (fun a e => EntAt K C H' a e) as st /\ TriedAt P w K H' D (tried.map castP) /\ MC.Loop Ts ans H0 (MC.SQ Ts t cl p) st tried /\ m = MC.msr Ts st,
   ⟨_, [([], MC.flat (MC.prob t cl p))], [x], [], _, _, rfl, s17, s7 _ _ (s6 _ _ hv5), s7 _ _ upd_same, .cons ((e0.same s6).same s7) .nil, t7, L0, rfl⟩, ?_⟩
  rintro m σ H8 ⟨st, as8, tried, x7, x8, rfl, s8, hv8, hL8, hp8, ht8, L8, rfl⟩
  refine ⟨_, rfl, _, .inl ⟨_, SqL.of hL8, rfl⟩, ?_⟩
  cases hp8 with
  | nil =>
   -- nothing is left
   have := L8.empty
   have kk := k H8 s8
   rw [this] at kk
   exact kk
  | @cons a8 e8 as' st' hE hp' =>
   have er : (a8 :: as').reverse.map V.ref = as'.reverse.map V.ref ++ [V.ref a8] := by simp
   rw [er] at hL8 ⊢
   have em : (!(as'.reverse.map V.ref ++ [V.ref a8]).isEmpty) = true := by cases as'.reverse <;> rfl
   show if (!(as'.reverse.map V.ref ++ [V.ref a8]).isEmpty) = true then _ else _
   rw [em]
   refine ⟨_, fun σ' H' q => q, ?_⟩
   -- step = left.pop()
   refine ⟨_, rfl, .inl ⟨rfl, _, SqL.of hL8⟩, L, _, V.ref a8, rfl, rfl, hL8, by simp, ?_⟩
   rw [List.dropLast_concat]
   generalize hH9 : upd H8 L (.lst (as'.reverse.map V.ref)) = H9
   have u9 : ∀ b, b ≠ L -> H9 b = H8 b := fun b hb => by rw [<- hH9]; exact upd_ne hb
   have t89 : Tups H8 H9 := by rw [<- hH9]; exact tups_upd hL8 (fun xs z => nomatch z) (fun p xs z => nomatch z)
   have i89 : ∀ b C dx fs, H8 b = some (.ins C dx fs) -> H9 b = some (.ins C dx fs) := fun b C dx fs h => by rw [u9 b (ne_of h hL8 (fun z => nomatch z))]; exact h
   have s9 : Same H H9 := fun b o h => by rw [u9 b (ne_of_none h hLn)]; exact s8 _ _ h
   have hv9 : H9 v = some (.lst ((Pc.having Ts Ts.length).map V.bl)) := by rw [u9 v hvL]; exact hv8
   have hL9 : H9 L = some (.lst (as'.reverse.map V.ref)) := by rw [<- hH9]; exact upd_same
   have hE9 := hE.tups t89 i89
   have hp9 : Paired (fun a e => EntAt K C H9 a e) as' st' := L2.Paired.imp' (fun a e x => x.tups t89 i89) hp'
   have ht9 := ht8.tups t89 (fun o h => by rw [u9 D hLD.symm]; exact h)
   have told8 := L8.told e8 List.mem_cons_self
   have sq8 := L8.q e8 List.mem_cons_self
   obtain ⟨dx8, a1, a2, a3, a4, g1, g2, g3, g4, g5⟩ := id hE9
   obtain ⟨as4, h4a, h4p⟩ := id g4
   have e4 : (as4.map V.ref).isEmpty = e8.2.2.1.isEmpty := paired_empty h4p
   have e3 : (e8.2.1.map nI).isEmpty = e8.2.1.isEmpty := by cases e8.2.1 <;> rfl
   have g3' : SqT K H9 a2 (e8.2.1.map nI) := g3
   -- if not step.waiting and not step.rows
   dsimp only [gName, tSeq, tIfS]
   refine tand2 (k1 := e8.2.1.isEmpty) (k2 := e8.2.2.1.isEmpty) (fun Q' q => ⟨_, rfl, a8, C, dx8, _, _, rfl, g1, S.cl, S.nW, stepF_waiting _ _ _ _, _, .inr (.inl ⟨_, g3', rfl⟩), by show Q' (!(!(e8.2.1.map nI).isEmpty)) H9; rw [e3, Bool.not_not]; exact q⟩)
    (fun Q' q => ⟨_, rfl, a8, C, dx8, _, _, rfl, g1, S.cl, S.nR, stepF_rows _ _ _ _, _, .inr (.inl ⟨_, h4a, rfl⟩), by show Q' (!(!(as4.map V.ref).isEmpty)) H9; rw [e4, Bool.not_not]; exact q⟩) ?_
   cases hfin : (e8.2.1.isEmpty && e8.2.2.1.isEmpty) with
   | true =>
    rw [Bool.and_eq_true, List.isEmpty_iff, List.isEmpty_iff] at hfin
    have := L8.found hfin.1 hfin.2
    have kk := k H9 s9
    rw [this] at kk
    exact ⟨_, rfl, a8, C, dx8, _, _, rfl, g1, S.cl, S.nT, stepF_told _ _ _ _, kk a1 g2⟩
   | false =>
    -- problem
    refine ⟨_, rfl, a8, C, dx8, _, _, rfl, g1, S.cl, S.nW, stepF_waiting _ _ _ _, _, rfl, a8, C, dx8, _, _, rfl, g1, S.cl, S.nR, stepF_rows _ _ _ _, _, rfl, a8, C, dx8, _, _, rfl, g1, S.cl, S.nA, stepF_asked _ _ _ _, (by show 3 <= sizeLine; decide), fun pk hpk => ?_⟩
    generalize hH10 : upd H9 pk (.tup [.ref a2, .ref a3, .ref a4]) = H10
    have s10' : Same H9 H10 := by rw [<- hH10]; exact same_new hpk
    have hpk10 : H10 pk = some (.tup [.ref a2, .ref a3, .ref a4]) := by rw [<- hH10]; exact upd_same
    have s10 := s9.trans s10'
    have ht10 := ht9.tups s10'.tups (fun o h => s10' _ _ h)
    have key10 : KeyAt K H10 pk (castP e8.2) := keyAt (SqT.of hpk10) (g3.same s10') (g4.same s10') (g5.same s10')
    dsimp only [gName, tSeq, tIfS]
    refine tand2 (k1 := !e8.2.1.isEmpty) (k2 := !decide (e8.2 ∈ tried)) (fun Q' q => ⟨_, rfl, a8, C, dx8, _, _, rfl, s10' _ _ g1, S.cl, S.nW, stepF_waiting _ _ _ _, _, .inr (.inl ⟨_, s10'.tup g3', rfl⟩), by rw [e3]; exact q⟩)
     (fun Q' q => ⟨_, rfl, _, rfl, D, pk, _, _, rfl, rfl, ht10, key10, _, rfl, by rw [castP_mem]; exact q⟩) ?_
    have hE10 : ∀ {a e}, EntAt K C H9 a e -> EntAt K C H10 a e := fun h => h.same s10'
    have skip : MC.Loop Ts ans H0 (MC.SQ Ts t cl p) st' tried -> ∃ m', m' < MC.msr Ts (e8 :: st') /\ ∃ (st : List MC.Ent) (as : List Addr) (tried : List MC.Prob) (x7 x8 : Option V), [some (V.ref kk), some (nI t), some (V.ref ra), some (V.ref qa), some (V.ref v), some (V.ref L), some (V.ref D), some (V.ref a8), some (V.ref pk)] = [some (V.ref kk), some (nI t), some (V.ref ra), some (V.ref qa), some (V.ref v), some (V.ref L), some (V.ref D), x7, x8] /\ Same H H10 /\ H10 v = some (.lst ((Pc.having Ts Ts.length).map V.bl)) /\
      H10 L = some (.lst (as.reverse.map V.ref)) /\ Paired (fun a e => EntAt K C H10 a e) as st /\ TriedAt P w K H10 D (tried.map castP) /\ MC.Loop Ts ans H0 (MC.SQ Ts t cl p) st tried /\ m' = MC.msr Ts st := fun l =>
     ⟨_, MC.msr_pop N e8 st', st', as', tried, _, _, rfl, s10, s10' _ _ hv9, s10' _ _ hL9, L2.Paired.imp' (fun a e x => x.same s10') hp9, ht10, l, rfl⟩
    cases hgo : (!e8.2.1.isEmpty && !decide (e8.2 ∈ tried)) with
    | false =>
     refine skip ?_
     by_cases hts : e8.2.1 = []
     ·refine L8.caught hts fun hr => ?_
      rw [hts, hr] at hfin
      cases hfin
     ·refine L8.again ?_
      have h1 : e8.2.1.isEmpty = false := by cases e : e8.2.1 with | nil => exact absurd e hts | cons a l => rfl
      rw [h1] at hgo
      simpa using hgo
    | true =>
     rw [Bool.and_eq_true] at hgo
     have hts : e8.2.1 ≠ [] := fun h => by rw [h] at hgo; cases hgo.1
     have hnew : e8.2 ∉ tried := by simpa using hgo.2
     have Lnew := L8.new N C16 hts hnew (fun x hx => ⟨MC.inLE_kids N Fw okc okp hs128 sq8.1 x hx, sq8.2.kid ok.wf N hx⟩)
     obtain ⟨szd, typ⟩ := sized_of sq8 (by omega) hts
     have few := MC.tried_few N okc okp hsz L8.nd (fun P hP => ⟨(L8.tq P hP).1.1, (L8.tq P hP).2⟩)
     have hnk : castP e8.2 ∉ tried.map castP := by
      have := castP_mem (P := e8.2) (l := tried)
      rw [decide_eq_false hnew] at this
      exact of_decide_eq_false this
     -- tried[problem] = True
     refine ⟨_, rfl, _, rfl, D, pk, _, _, rfl, rfl, ht10, key10, hnk, ?_, fun H11 u11 ht11 => ?_⟩
     ·rw [List.length_map]
      have : (15729000 : Nat) < sizeLine := by decide
      omega
     obtain ⟨xs10, hD10, _, _⟩ := id ht10
     have t11 : Tups H10 H11 := fun b xs => ⟨fun h => by rw [u11 b (ne_of h hD10 (fun z => nomatch z))]; exact h, fun o h => by rw [u11 b (ne_of h hD10 (fun z => nomatch z))]; exact h⟩
     have i11 : ∀ b C dx fs, H10 b = some (.ins C dx fs) -> H11 b = some (.ins C dx fs) := fun b C dx fs h => by rw [u11 b (ne_of h hD10 (fun z => nomatch z))]; exact h
     have s11 : Same H H11 := fun b o h => by rw [u11 b (ne_of_none h hDn)]; exact s10 _ _ h
     have hv11 : H11 v = some (.lst ((Pc.having Ts Ts.length).map V.bl)) := by rw [u11 v hvD]; exact s10' _ _ hv9
     have hL11 : H11 L = some (.lst (as'.reverse.map V.ref)) := by rw [u11 L hLD]; exact s10' _ _ hL9
     have hE11 := (hE10 hE9).tups t11 i11
     -- left.extend(list(reversed(steps_behind(step, kinds, valued))))
     refine ⟨_, rfl, .inl ⟨rfl, _, SqL.of hL11⟩, _, rfl, _, rfl, _, rfl, a8, kk, v, Ts, e8, rfl, hE11, szd, hts, typ, hk.same s11, ok, hv11, fun H12 pb s12 hents => ?_⟩
     obtain ⟨bs, hb12, pb12⟩ := hents
     refine ⟨pb, _, rfl, SqL.of hb12, fun l hl => ?_⟩
     have s13 : Same H12 (upd H12 l (.lst (bs.map V.ref).reverse)) := same_new hl
     have hlL : L ≠ l := ne_of_none (s12 _ _ hL11) hl
     have stkl := MC.stk_len Lnew.stk
     have lens : bs.length + as'.length <= 16 * H0 + 1 := by
      have e1 : bs.length = (MC.push Ts e8).length := Paired.length pb12
      have e2 : as'.length = st'.length := Paired.length hp9
      rw [e1, e2, <- List.length_append]
      exact stkl
     refine ⟨L, l, as'.reverse.map V.ref, (bs.map V.ref).reverse, rfl, rfl, by rw [upd_ne hlL]; exact s12 _ _ hL11, upd_same, ?_, ?_⟩
     ·have : (10000000 : Nat) <= sizeLine := by decide
      simp only [List.length_map, List.length_reverse]
      omega
     generalize hH13 : upd H12 l (.lst (bs.map V.ref).reverse) = H13 at s13
     have hL13 : H13 L = some (.lst (as'.reverse.map V.ref)) := s13 _ _ (s12 _ _ hL11)
     generalize hH14 : upd H13 L (.lst (as'.reverse.map V.ref ++ (bs.map V.ref).reverse)) = H14
     have u14 : ∀ b, b ≠ L -> H14 b = H13 b := fun b hb => by rw [<- hH14]; exact upd_ne hb
     have t14 : Tups H13 H14 := by rw [<- hH14]; exact tups_upd hL13 (fun xs z => nomatch z) (fun p xs z => nomatch z)
     have i14 : ∀ b C dx fs, H13 b = some (.ins C dx fs) -> H14 b = some (.ins C dx fs) := fun b C dx fs h => by rw [u14 b (ne_of h hL13 (fun z => nomatch z))]; exact h
     have s123 := s12.trans s13
     refine ⟨_, MC.msr_push N e8 st', MC.push Ts e8 ++ st', bs ++ as', tried ++ [e8.2], _, _, rfl, fun b o h => ?_, ?_, ?_, ?_, ?_, Lnew, rfl⟩
     ·rw [u14 b (ne_of_none h hLn)]; exact s123 _ _ (s11 _ _ h)
     ·rw [u14 v hvL]; exact s123 _ _ hv11
     ·rw [<- hH14, upd_same]; simp
     ·refine paired_append (L2.Paired.imp' (fun a e x => (x.same s13).tups t14 i14) pb12) (L2.Paired.imp' (fun a e x => ((((hE10 x).tups t11 i11).same s123).tups t14 i14)) hp9)
     ·rw [List.map_append]
      exact (ht11.tups s123.tups (fun o h => s123 _ _ h)).tups t14 (fun o h => by rw [u14 D hLD.symm]; exact h)
end
end D
set_option Elab.async false
set_option linter.all false
set_option maxRecDepth 100000
set_option maxHeartbeats 2000000
namespace D
open PySem PySem.Spec PyProof.Rows L2
open Pc (Types consOf)
abbrev sIsVal : Stmt := top 5
def spIsVal (K : W.Frag) : Sp := fun vs H Q _ => ∃ (a b : Addr) (t : Nat) (ns : List Nat) (T : Types), vs = [.ref a, nI t, .ref b] /\ KindsAt K H a T /\ TOk T /\ t < T.length /\ SqT K H b (ns.map nI) /\ ns.length <= 100000 /\
 ∀ H' : Hp, Same H H' -> Q (.bl (!ns.contains 255 && MC.eat T [t] ns)) H'
section
variable {P : Program} {w : World} {K : W.Frag} {mg : Str -> Option Value} {base : Heap}
theorem inV_nat (n : Nat) : ∀ ns : List Nat, inV (nI n) (ns.map nI) = ns.contains n
 | [] => rfl
 | m :: ns => by
  have ih := inV_nat n ns
  unfold inV at *
  rw [List.map_cons, List.any_cons, ih, List.contains_cons]
  congr 1
  show ((m : Int) == (n : Int)) = (n == m)
  rw [Bool.eq_iff_iff, beq_iff_eq, beq_iff_eq]
  omega
theorem flat_nat : ∀ ns : List Nat, (ns.map nI).all flatV = true
 | [] => rfl
 | m :: ns => by rw [List.map_cons, List.all_cons, flat_nat ns]; rfl
theorem scIV : FnScope ["kinds", "kind", "numbers"] ["kinds", "kind", "numbers"] (defScope sIsVal) := ⟨rfl, rfl, rfl, by decide +kernel, rfl, by decide +kernel, by decide +kernel⟩
theorem ok_isVal {f fp : Addr} {fd fdp : FuncData} {ta : Tok} (F : Fun K "is_value" "is_value" sIsVal f fd) (T : Bl mg) (mA : mg "ANYTHING" = some (.int 255 ta))
  (GP : FnOk P w K mg base CX0 1 fp fdp ["kinds", "kind", "numbers"] (spIsPat K)) (mP : mg "is_pattern" = some (.ref fp)) (kP : PySem.W.keepIn K (.ref fp) = true) (bp : Binds K fdp ["kinds", "kind", "numbers"] []) :
  FnOk P w K mg base CX0 2 f fd ["kinds", "kind", "numbers"] (spIsVal K) := by
 refine F.ok scIV (fun vs H Q E h => ?_) (fun cdv A outer s H vs Q E hr h => ?_)
 ·obtain ⟨a, b, t, ns, Ts, rfl, _⟩ := h
  rfl
 ·obtain ⟨a, b, t, ns, Ts, rfl, hk, ok, ht, hb, hn, k⟩ := h
  have hr1 : Room 1 _ := hr.mono (by decide)
  refine ⟨_, pss_one (ps_ret (pe_and (pe_cmpR op_notIn_seq (pe_glob (v := V.int 255) (by rfl) mA ⟨_, rfl⟩) (pv 2) (by with_unfolding_all rfl)) (pe_one (pe_call GP hr1 (by rfl) mP kP bp .nil pass0 (pa_cons (pv 0) (pa_cons (pv 1) (pa_cons (pv 2) pa_nil))))))), ?_⟩
  refine ⟨_, rfl, b, _, rfl, .inr hb, rfl, flat_nat ns, _, rfl, ?_⟩
  have e : inV (V.int 255) (ns.map nI) = ns.contains 255 := inV_nat 255 ns
  show if (!inV (V.int 255) (ns.map nI)) = true then _ else _
  rw [e]
  cases hc : ns.contains 255 with
  | true =>
   have := k H (Same.refl H)
   rw [hc] at this
   exact this
  | false =>
   refine ⟨_, rfl, _, rfl, _, rfl, a, b, t, ns, Ts, rfl, hk, ok, ht, hb, hn, fun H' s => ?_⟩
   have := k H' s
   rw [hc] at this
   exact this
abbrev sPB : Stmt := top 6
def spPB (K : W.Frag) : Sp := fun vs H Q _ => ∃ (a b : Addr) (t i : Nat) (ns r : List Nat) (v : Pc.Pat) (T : Types), vs = [.ref a, nI t, .ref b, nI i] /\ KindsAt K H a T /\ TOk T /\ t < T.length /\ SqT K H b (ns.map nI) /\ ns.length <= 100000 /\
 MC.OkP T t v /\ MC.noAny v = true /\ ns.drop i = MC.txt v ++ r /\ ∀ H' : Hp, Same H H' -> Q (nI (i + (MC.txt v).length)) H'
theorem scPB : FnScope ["kinds", "kind", "numbers", "place", "waiting", "fields"] ["kinds", "kind", "numbers", "place"] (defScope sPB) := ⟨rfl, rfl, rfl, by decide +kernel, rfl, by decide +kernel, by decide +kernel⟩
theorem drop_head {l : List Nat} {i x : Nat} {r : List Nat} (h : l.drop i = x :: r) : l[i]? = some x /\ l.drop (i + 1) = r /\ i < l.length := by
 have hi : i < l.length := by
  rcases Nat.lt_or_ge i l.length with q | q
  ·exact q
  ·rw [List.drop_eq_nil_of_le q] at h; cases h
 rw [List.drop_eq_getElem_cons hi] at h
 obtain ⟨rfl, h2⟩ := List.cons.inj h
 exact ⟨List.getElem?_eq_getElem hi, h2, hi⟩
theorem ok_pb {f : Addr} {fd : FuncData} (F : Fun K "place_behind" "place_behind" sPB f fd) (T : Bl mg) :
  FnOk P w K mg base CX0 1 f fd ["kinds", "kind", "numbers", "place"] (spPB K) := by
 refine F.ok scPB (fun vs H Q E h => ?_) (fun cdv A outer s H vs Q E hr h => ?_)
 ·obtain ⟨a, b, t, i, ns, r, v, Ts, rfl, _⟩ := h
  rfl
 ·obtain ⟨a, b, t, i, ns, r, v, Ts, rfl, hk, ok, ht, hb, hn, okv, nav, ed, k⟩ := h
  refine ⟨_, pss_cons (ps_set (i := 4) scPB.nd rfl (Or.inl rfl) (pe_lst (pa_cons (pv 1) pa_nil)))
   (pss_cons (ps_while PassesOwn.never (pt_truth (pv 4) (fun _ => rfl))
    (pss_cons (ps_set (i := 5) scPB.nd rfl (Or.inl rfl) (pe_ix ix_list (pe_ix ix_list (pv 0) (pe_bm0 PySem.F.plainAttrs_list PySem.F.slot_list_pop PySem.F.type_list_pop mt_pop (pv 4)) (fun _ _ => rfl)) (pe_ix ix_tup (pv 2) (pv 3) (fun _ _ => rfl)) (fun _ _ => rfl)))
    (pss_cons (ps_expr (pe_bm PySem.F.plainAttrs_list PySem.F.slot_list_extend PySem.F.type_list_extend mt_extend (pv 4) (pa_cons (pe_list_revT rfl (by rfl) T.list_ (by rfl) T.rev_ (pv 5)) pa_nil)))
    (pss_one (ps_aug (i := 3) scPB.nd rfl (Or.inl rfl) pe_int ip_add)))))
   (pss_one (ps_ret (pv 3)))), ?_⟩
  refine ⟨_, rfl, (by show 1 <= sizeLine; decide), fun W hW => ?_⟩
  have s1 : Same H (upd H W (.lst [nI t])) := same_new hW
  have big : (10000000 : Nat) <= sizeLine := by decide
  have hW' : ∀ b o, H b = some o -> b ≠ W := fun b o h => ne_of_none h hW
  refine ⟨fun m σ H' => ∃ (ws : List Nat) (us : List Pc.Pat) (j : Nat) (x5 : Option V), σ = [some (.ref a), some (nI t), some (.ref b), some (nI j), some (.ref W), x5] /\ Same H H' /\ H' W = some (.lst (ws.reverse.map nI)) /\
    MC.OkPs Ts ws us /\ MC.noAnys us = true /\ ns.drop j = MC.txts us ++ r /\ j + (MC.txts us).length = i + (MC.txt v).length /\ (∀ x ∈ ws, x < Ts.length) /\ ws.length <= 1 + 4 * j /\ m = (MC.txts us).length,
   ⟨_, [t], [v], i, _, rfl, s1, upd_same, by simp only [MC.OkPs, and_true]; exact okv, by simp [MC.noAnys, nav], by rw [MC.txts_single]; exact ed, by rw [MC.txts_single], fun x hx => by simp at hx; rw [hx]; exact ht, by simp, rfl⟩, ?_⟩
  rintro m σ H2 ⟨ws, us, j, x5, rfl, s2, e2, okw, na, ed2, ej, hw, hl, rfl⟩
  refine ⟨_, rfl, _, .inl ⟨_, SqL.of e2, rfl⟩, ?_⟩
  cases ws with
  | nil =>
   refine ⟨_, rfl, ?_⟩
   have : us = [] := by
    cases us with
    | nil => rfl
    | cons u us => simp [MC.OkPs] at okw
   subst this
   simp only [MC.txts, List.length_nil, Nat.add_zero] at ej
   rw [ej]
   exact k H2 s2
  | cons u ws =>
   have hu : u < Ts.length := hw u List.mem_cons_self
   have er : (u :: ws).reverse.map nI = ws.reverse.map nI ++ [nI u] := by simp
   rw [er] at e2 ⊢
   have em : (ws.reverse.map nI ++ [nI u]).isEmpty = false := by cases ws.reverse <;> rfl
   rw [em]
   obtain ⟨c, ms, vs', rfl, fs, efs, ok1, ok2, na1, na2⟩ := MC.val_head okw na
   obtain ⟨hc, hcf⟩ := MC.fields_get efs
   have ed3 : ns.drop j = c :: (MC.txts ms ++ (MC.txts vs' ++ r)) := by rw [ed2]; simp [MC.txts, MC.txt]
   obtain ⟨g1, g2, g3⟩ := drop_head ed3
   obtain ⟨ks, kc, hka, hkc, hcc⟩ := kind_at hk hu
   obtain ⟨ts, tt, hts, htl, htt, hft⟩ := con_at hcc hc
   rw [hcf] at hft
   obtain ⟨f4, fw⟩ := ok.fl hu hc
   rw [hcf] at f4 fw
   have s3 : Same H (upd H2 W (.lst (ws.reverse.map nI))) := fun b o h => by rw [upd_ne (hW' b o h)]; exact s2 _ _ h
   refine ⟨_, fun σ' H' q => q, ?_⟩
   refine ⟨_, rfl, _, rfl, .inl ⟨rfl, _, SqL.of e2⟩, W, _, nI u, rfl, rfl, e2, by simp, ?_⟩
   rw [List.dropLast_concat]
   refine ⟨a, _, _, V.ref kc, rfl, rfl, SqL.of (s3 _ _ hka), atI_nat (j := u) (by rw [List.getElem?_map, hkc]; rfl), ?_⟩
   refine ⟨_, rfl, _, rfl, b, _, _, nI c, rfl, rfl, s3.tup hb, atI_nat (j := j) (by rw [List.getElem?_map, g1]; rfl), ?_⟩
   refine ⟨kc, _, _, V.ref tt, rfl, rfl, SqL.of (s3 _ _ hts), atI_nat (j := c) (by rw [List.getElem?_map, htt]; rfl), ?_⟩
   refine ⟨_, rfl, .inl ⟨rfl, _, SqL.of upd_same⟩, _, rfl, tt, _, rfl, s3.tup hft, fun L hL => ?_⟩
   have hLW : W ≠ L := ne_of_none upd_same hL
   refine ⟨W, L, ws.reverse.map nI, (fs.map nI).reverse, rfl, rfl, by rw [upd_ne hLW]; exact upd_same, upd_same, ?_, ?_⟩
   ·simp only [List.length_map, List.length_reverse]
    simp only [List.length_cons] at hl
    omega
   ·refine ⟨_, rfl, _, _, rfl, rfl, _, ?_, fs ++ ws, ms ++ vs', j + 1, _, rfl, fun b o h => ?_, ?_, MC.okps_append ok1 ok2, by rw [MC.noAnys_append, na1, na2]; rfl, ?_, ?_, ?_, ?_, rfl⟩
    ·rw [MC.txts_append]; simp [MC.txts, MC.txt]
    ·rw [upd_ne (hW' b o h), upd_ne (ne_of_none (s3 _ _ h) hL)]; exact s3 _ _ h
    ·rw [upd_same]; simp
    ·rw [g2, MC.txts_append, List.append_assoc]
    ·rw [MC.txts_append, List.length_append]
     simp only [MC.txts, MC.txt, List.length_append, List.length_cons] at ej
     omega
    ·intro x hx
     rcases List.mem_append.mp hx with hx | hx
     ·exact fw x hx
     ·exact hw x (List.mem_cons_of_mem _ hx)
    ·rw [List.length_append]
     simp only [List.length_cons] at hl
     omega
end
end D
set_option Elab.async false
set_option linter.all false
set_option maxRecDepth 100000
set_option maxHeartbeats 2000000
namespace D
open PySem PySem.Spec PyProof.Rows L2
open Pc (Types consOf Pat)
abbrev sFits : Stmt := top 7
def spFits (K : W.Frag) : Sp := fun vs H Q _ => ∃ (a b c : Addr) (t : Nat) (v p : Pat) (T : Types), vs = [.ref a, nI t, .ref b, .ref c] /\ KindsAt K H a T /\ TOk T /\ t < T.length /\ TN K H b (MC.txt v) /\ TN K H c (MC.txt p) /\ (MC.txt v).length <= 100000 /\ (MC.txt p).length <= 100000 /\
 MC.OkP T t v /\ MC.OkP T t p /\ MC.noAny v = true /\ ∀ H' : Hp, Same H H' -> Q (.bl (MC.fitp p v)) H'
theorem decN_true {n m : Nat} (h : n = m) : decide (nI n = nI m) = true := by rw [h]; exact decide_eq_true rfl
theorem decN_false {n m : Nat} (h : n ≠ m) : decide (nI n = nI m) = false := decide_eq_false fun q => h (by have := V.int.inj q; omega)
section
variable {P : Program} {w : World} {K : W.Frag} {mg : Str -> Option Value} {base : Heap}
theorem scFi : FnScope ["kinds", "kind", "value", "pattern", "waiting", "place", "number", "turn"] ["kinds", "kind", "value", "pattern"] (defScope sFits) := ⟨rfl, rfl, rfl, by decide +kernel, rfl, by decide +kernel, by decide +kernel⟩
theorem ok_fits {f fb : Addr} {fd fdb : FuncData} {ta : Tok} (F : Fun K "fits" "fits" sFits f fd) (T : Bl mg) (mA : mg "ANYTHING" = some (.int 255 ta))
  (GB : FnOk P w K mg base CX0 1 fb fdb ["kinds", "kind", "numbers", "place"] (spPB K)) (mB : mg "place_behind" = some (.ref fb)) (kB : PySem.W.keepIn K (.ref fb) = true) (bb : Binds K fdb ["kinds", "kind", "numbers", "place"] []) :
  FnOk P w K mg base CX0 2 f fd ["kinds", "kind", "value", "pattern"] (spFits K) := by
 refine F.ok scFi (fun vs H Q E h => ?_) (fun cdv A outer s H vs Q E hr h => ?_)
 ·obtain ⟨a, b, c, t, v, p, Ts, rfl, _⟩ := h
  rfl
 ·obtain ⟨a, b, c, t, v, p, Ts, rfl, hk, ok, ht, hb, hc, lv, lp, okv, okp, nav, k⟩ := h
  have hr1 : Room 1 _ := hr.mono (by decide)
  have Fw : MC.Few Ts := MC.few_of ok
  refine ⟨_, pss_cons (ps_set (i := 4) scFi.nd rfl (Or.inl rfl) (pe_lst (pa_cons (pv 1) pa_nil)))
   (pss_cons (ps_set (i := 5) scFi.nd rfl (Or.inl rfl) pe_int)
   (pss_cons (ps_for PassesOwn.never rfl (pi_tup (pv 3)) (pg_name (i := 6) scFi.nd rfl (Or.inl rfl))
    (pss_cons (ps_set (i := 7) scFi.nd rfl (Or.inl rfl) (pe_bm0 PySem.F.plainAttrs_list PySem.F.slot_list_pop PySem.F.type_list_pop mt_pop (pv 4)))
    (pss_one (ps_if (pt_cmpR op_eq (pv 6) (pe_glob (v := V.int 255) (by rfl) mA ⟨_, rfl⟩) (nomark _))
     (pss_one (ps_set (i := 5) scFi.nd rfl (Or.inl rfl) (pe_call GB hr1 (by rfl) mB kB bb .nil pass0 (pa_cons (pv 0) (pa_cons (pv 7) (pa_cons (pv 2) (pa_cons (pv 5) pa_nil)))))))
     (pss_one (ps_if (pt_cmpR op_eq (pe_ix ix_tup (pv 2) (pv 5) (fun _ _ => rfl)) (pv 6) (nomark _))
      (pss_cons (ps_expr (pe_bm PySem.F.plainAttrs_list PySem.F.slot_list_extend PySem.F.type_list_extend mt_extend (pv 4) (pa_cons (pe_list_revT rfl (by rfl) T.list_ (by rfl) T.rev_ (pe_ix ix_list (pe_ix ix_list (pv 0) (pv 7) (fun _ _ => rfl)) (pv 6) (fun _ _ => rfl))) pa_nil)))
      (pss_one (ps_aug (i := 5) scFi.nd rfl (Or.inl rfl) pe_int ip_add)))
      (pss_one (ps_ret pe_bl))))))))
   (pss_one (ps_ret pe_bl)))), ?_⟩
  refine ⟨_, rfl, (by show 1 <= sizeLine; decide), fun W hW => ?_⟩
  have s1 : Same H (upd H W (.lst [nI t])) := same_new hW
  have big : (10000000 : Nat) <= sizeLine := by decide
  have hW' : ∀ b o, H b = some o -> b ≠ W := fun b o h => ne_of_none h hW
  refine ⟨_, rfl, c, rfl, ⟨_, s1.tup hc⟩, for_tup (xs := (MC.txt p).map nI) (fun i σ H' => ∃ (ws : List Nat) (ps us : List Pat) (j : Nat) (x6 x7 : Option V), σ = [some (.ref a), some (nI t), some (.ref b), some (.ref c), some (.ref W), some (nI j), x6, x7] /\ Same H H' /\ H' W = some (.lst (ws.reverse.map nI)) /\
    MC.FitAt Ts ws ps us /\ (MC.txt p).drop i = MC.txts ps /\ (MC.txt v).drop j = MC.txts us /\ MC.fitps ps us = MC.fitp p v /\ (∀ x ∈ ws, x < Ts.length) /\ ws.length <= 1 + 4 * i)
   ⟨[t], [p], [v], 0, _, _, rfl, s1, upd_same, ⟨by simp only [MC.OkPs, and_true]; exact okp, by simp only [MC.OkPs, and_true]; exact okv, by simp [MC.noAnys, nav]⟩, by rw [MC.txts_single]; rfl, by rw [MC.txts_single]; rfl, by simp [MC.fitps], fun x hx => by simp at hx; rw [hx]; exact ht, by simp⟩
   (fun i σ H' _ ⟨_, _, _, _, _, _, _, s, _⟩ => s.tup hc) ?_ ?_⟩
  ·rintro i x σ H2 hx ⟨ws, ps, us, j, x6, x7, rfl, s2, e2, fa, ep, ev, ef, hw, hl⟩
   obtain ⟨n, hni, rfl⟩ := map_get hx
   have hi : i < (MC.txt p).length := (List.getElem?_eq_some_iff.mp hni).1
   have hdrop : (MC.txt p).drop i = n :: (MC.txt p).drop (i + 1) := by
    rw [List.drop_eq_getElem_cons hi, (List.getElem?_eq_some_iff.mp hni).2]
   rw [hdrop] at ep
   cases ps with
   | nil => simp [MC.txts] at ep
   | cons p1 ps =>
   cases ws with
   | nil => have := fa.okp; simp [MC.OkPs] at this
   | cons u ws =>
   obtain ⟨d, ms, vs', rfl, fs, efs, okm, okvs, nam, nav'⟩ := MC.val_head fa.okv fa.na
   have hu : u < Ts.length := hw u List.mem_cons_self
   have er : (u :: ws).reverse.map nI = ws.reverse.map nI ++ [nI u] := by simp
   rw [er] at e2
   have s3 : Same H (upd H2 W (.lst (ws.reverse.map nI))) := fun b o h => by rw [upd_ne (hW' b o h)]; exact s2 _ _ h
   refine ⟨_, rfl, .inl ⟨rfl, _, SqL.of e2⟩, W, _, nI u, rfl, rfl, e2, by simp, ?_⟩
   rw [List.dropLast_concat]
   refine ⟨_, rfl, rfl, _, rfl, ?_⟩
   cases p1 with
   | any =>
    simp only [MC.txts, MC.txt, List.cons_append, List.nil_append] at ep
    have ep2 := (List.cons.inj ep).2
    obtain rfl := (List.cons.inj ep).1
    show if decide (nI 255 = V.int 255) = true then _ else _
    rw [show decide (nI 255 = V.int 255) = true from rfl]
    have okp1 : MC.OkP Ts u (.con d ms) := by have := fa.okv; simp only [MC.OkPs] at this; exact this.1
    refine ⟨_, rfl, _, rfl, _, rfl, _, rfl, a, b, u, j, MC.txt v, MC.txts vs', .con d ms, Ts, rfl, hk.same s3, ok, hu, s3.tup hb, lv, okp1, by simp only [MC.noAny]; exact nam, ev, fun H4 s4 => ?_⟩
    refine ⟨ws, ps, vs', j + (MC.txt (.con d ms)).length, _, _, rfl, s3.trans s4, s4 _ _ upd_same, fa.skip, ep2, ?_, by rw [<- ef, MC.fitps_any], fun x hx => hw x (List.mem_cons_of_mem _ hx), ?_⟩
    ·rw [<- List.drop_drop, ev]
     show List.drop (MC.txt (.con d ms)).length (MC.txt (.con d ms) ++ MC.txts vs') = _
     rw [List.drop_left]
    ·simp only [List.length_cons] at hl
     omega
   | con cc l =>
    have okp1 := fa.okp
    simp only [MC.OkPs, MC.OkP] at okp1
    obtain ⟨⟨gs, egs, _⟩, _⟩ := okp1
    have hc255 := Fw.ne egs
    simp only [MC.txts, MC.txt, List.cons_append] at ep
    have ep2 := (List.cons.inj ep).2
    obtain rfl := (List.cons.inj ep).1
    show if decide (nI n = nI 255) = true then _ else _
    rw [decN_false hc255]
    have ev2 : (MC.txt v).drop j = d :: (MC.txts ms ++ MC.txts vs') := by rw [ev]; simp [MC.txts, MC.txt]
    obtain ⟨g1, g2, g3⟩ := drop_head ev2
    refine ⟨_, rfl, _, rfl, b, _, _, nI d, rfl, rfl, s3.tup hb, atI_nat (j := j) (by rw [List.getElem?_map, g1]; rfl), _, rfl, rfl, _, rfl, ?_⟩
    by_cases hdn : d = n
    ·subst hdn
     show if decide (nI d = nI d) = true then _ else _
     rw [decN_true rfl]
     obtain ⟨fs', ef', fa', eq'⟩ := fa.down
     rw [efs] at ef'
     cases ef'
     obtain ⟨hcd, hcf⟩ := MC.fields_get efs
     obtain ⟨ks, kc, hka, hkc, hcc⟩ := kind_at hk hu
     obtain ⟨ts, tt, hts, htl, htt, hft⟩ := con_at hcc hcd
     rw [hcf] at hft
     obtain ⟨f4, fw⟩ := ok.fl hu hcd
     rw [hcf] at f4 fw
     refine ⟨_, rfl, .inl ⟨rfl, _, SqL.of upd_same⟩, _, rfl, _, rfl, a, _, _, V.ref kc, rfl, rfl, SqL.of (s3 _ _ hka), atI_nat (j := u) (by rw [List.getElem?_map, hkc]; rfl), _, rfl, kc, _, _, V.ref tt, rfl, rfl, SqL.of (s3 _ _ hts), atI_nat (j := d) (by rw [List.getElem?_map, htt]; rfl), tt, _, rfl, s3.tup hft, fun L hL => ?_⟩
     have hLW : W ≠ L := ne_of_none upd_same hL
     refine ⟨W, L, ws.reverse.map nI, (fs.map nI).reverse, rfl, rfl, by rw [upd_ne hLW]; exact upd_same, upd_same, ?_, ?_⟩
     ·simp only [List.length_map, List.length_reverse]
      simp only [List.length_cons] at hl
      omega
     ·refine ⟨_, rfl, _, _, rfl, rfl, fs ++ ws, l ++ ps, ms ++ vs', j + 1, _, _, rfl, fun b o h => ?_, ?_, fa', ?_, ?_, ?_, ?_, ?_⟩
      ·rw [upd_ne (hW' b o h), upd_ne (ne_of_none (s3 _ _ h) hL)]; exact s3 _ _ h
      ·rw [upd_same]; simp
      ·rw [MC.txts_append]; exact ep2
      ·rw [g2, MC.txts_append]
      ·rw [<- ef, eq']
      ·intro x hx
       rcases List.mem_append.mp hx with hx | hx
       ·exact fw x hx
       ·exact hw x (List.mem_cons_of_mem _ hx)
      ·rw [List.length_append]
       simp only [List.length_cons] at hl
       omega
    ·show if decide (nI d = nI n) = true then _ else _
     rw [decN_false hdn]
     refine (show Q (.bl false) _ from ?_)
     have : MC.fitp p v = false := by
      rw [<- ef]
      have : (n == d) = false := by simp; omega
      simp [MC.fitps, MC.fitp, this]
     rw [<- this]
     exact k _ s3
  ·rintro σ H2 ⟨ws, ps, us, j, x6, x7, rfl, s2, e2, fa, ep, ev, ef, hw, hl⟩
   rw [List.length_map, List.drop_length] at ep
   have eps : ps = [] := by
    cases ps with
    | nil => rfl
    | cons q ps =>
     have := MC.txt_ne q
     simp [MC.txts] at ep
     exact absurd ep.1 this
   subst eps
   have eus : us = [] := by
    have h1 := MC.okps_len fa.okp
    have h2 := MC.okps_len fa.okv
    rw [h1] at h2
    exact List.length_eq_zero_iff.mp h2.symm
   subst eus
   refine (show Q (.bl true) H2 from ?_)
   have : MC.fitp p v = true := by rw [<- ef]; rfl
   rw [<- this]
   exact k H2 s2
end
end D
set_option Elab.async false
set_option linter.all false
set_option maxRecDepth 100000
set_option maxHeartbeats 2000000
namespace D
open PySem PySem.Spec PyProof.Rows L2
open Pc (Types consOf Pat)
def spotF (w k n : V) : List (Str × V) := putF "number" n (putF "kind" k (putF "way" w []))
theorem spotF_way (w k n : V) : (spotF w k n).lookup ("way" : Str) = some w := by
 unfold spotF; rw [lookup_putF, if_neg (by decide +kernel), lookup_putF, if_neg (by decide +kernel), lookup_putF, if_pos rfl]
theorem spotF_kind (w k n : V) : (spotF w k n).lookup ("kind" : Str) = some k := by
 unfold spotF; rw [lookup_putF, if_neg (by decide +kernel), lookup_putF, if_pos rfl]
theorem spotF_number (w k n : V) : (spotF w k n).lookup ("number" : Str) = some n := by
 unfold spotF; rw [lookup_putF, if_pos rfl]
structure SpotTxt (K : W.Frag) (mg : Str -> Option Value) (C : Addr) : Prop where
 cl : Cls K C
 nW : NoAttr K C "way"
 nK : NoAttr K C "kind"
 nN : NoAttr K C "number"
 mg : mg "Spot" = some (.ref C)
def SpotAt (C : Addr) (H : Hp) (a : Addr) (x : MC.Spt) : Prop := ∃ dx p, H a = some (.ins C dx (spotF (.ref p) (nI x.2.1) (nI x.2.2))) /\ H p = some (.tup (x.1.map nI))
def SpotsAt (C : Addr) (H : Hp) (l : Addr) (xs : List MC.Spt) : Prop := ∃ as : List Addr, H l = some (.lst (as.map V.ref)) /\ Paired (fun a x => SpotAt C H a x) as xs
def SpsAt (C : Addr) (H : Hp) (l : Addr) (xs : List (List MC.Spt)) : Prop := ∃ as : List Addr, H l = some (.lst (as.map V.ref)) /\ Paired (fun a x => SpotsAt C H a x) as xs
theorem SpotAt.same {C : Addr} {H H' : Hp} {a : Addr} {x : MC.Spt} (h : SpotAt C H a x) (s : Same H H') : SpotAt C H' a x := by
 obtain ⟨dx, p, h1, h2⟩ := h
 exact ⟨dx, p, s _ _ h1, s _ _ h2⟩
theorem SpotsAt.same {C : Addr} {H H' : Hp} {a : Addr} {x : List MC.Spt} (h : SpotsAt C H a x) (s : Same H H') : SpotsAt C H' a x := by
 obtain ⟨as, h1, h2⟩ := h
 exact ⟨as, s _ _ h1, L2.Paired.imp' (fun b r x => x.same s) h2⟩
theorem SpsAt.same {C : Addr} {H H' : Hp} {a : Addr} {x : List (List MC.Spt)} (h : SpsAt C H a x) (s : Same H H') : SpsAt C H' a x := by
 obtain ⟨as, h1, h2⟩ := h
 exact ⟨as, s _ _ h1, L2.Paired.imp' (fun b r x => x.same s) h2⟩
theorem SpotAt.lst {C : Addr} {H : Hp} {a l : Addr} {x : MC.Spt} {xs ys : List V} (h : SpotAt C H a x) (hl : H l = some (.lst xs)) : SpotAt C (upd H l (.lst ys)) a x := by
 obtain ⟨dx, p, h1, h2⟩ := h
 exact ⟨dx, p, by rw [upd_ne (ne_of h1 hl (by intro z; cases z))]; exact h1, by rw [upd_ne (ne_of h2 hl (by intro z; cases z))]; exact h2⟩
theorem SpotsAt.lst {C : Addr} {H : Hp} {b l : Addr} {x : List MC.Spt} {xs ys : List V} (h : SpotsAt C H b x) (hl : H l = some (.lst xs)) (ne : b ≠ l) : SpotsAt C (upd H l (.lst ys)) b x := by
 obtain ⟨as, h1, h2⟩ := h
 exact ⟨as, by rw [upd_ne ne]; exact h1, L2.Paired.imp' (fun b r x => x.lst hl) h2⟩
abbrev sSpotI : Stmt := inClass (top 9) 0
def spSpotI (C : Addr) : Sp := fun vs H Q _ => ∃ (p dx : Addr) (w k n : V), vs = [.ref p, w, k, n] /\ H p = some (.ins C dx []) /\ ∀ H' : Hp, H' p = some (.ins C dx (spotF w k n)) -> (∀ b o, H b = some o -> b ≠ p -> H' b = some o) -> Q .non H'
section
variable {P : Program} {w : World} {K : W.Frag} {mg : Str -> Option Value} {base : Heap}
theorem scPI : FnScope ["self", "way", "kind", "number"] ["self", "way", "kind", "number"] (defScope sSpotI) := ⟨rfl, rfl, rfl, by decide +kernel, rfl, by decide +kernel, by decide +kernel⟩
theorem ok_spotI {f C : Addr} {fd : FuncData} (F : Fun K "__init__" "Spot.__init__" sSpotI f fd) (T : SpotTxt K mg C) : FnOk P w K mg base CX0 1 f fd ["self", "way", "kind", "number"] (spSpotI C) := by
 refine F.ok scPI (fun vs H Q E h => ?_) (fun cdv A outer s H vs Q E hr h => ?_)
 ·obtain ⟨p, dx, w, k, n, rfl, _⟩ := h
  rfl
 ·obtain ⟨p, dx, w, k, n, rfl, hp, q⟩ := h
  refine ⟨_, pss_cons (ps_fld (pv 0) (pv 1) rfl) (pss_cons (ps_fld (pv 0) (pv 2) rfl) (pss_one (ps_fld (pv 0) (pv 3) rfl))), ?_⟩
  refine ⟨_, rfl, _, rfl, p, C, dx, [], rfl, hp, T.cl, T.nW, (by show 0 < 1000; decide), ?_⟩
  refine ⟨_, rfl, _, rfl, p, C, dx, _, rfl, upd_same, T.cl, T.nK, (by show 1 < 1000; decide), ?_⟩
  refine ⟨_, rfl, _, rfl, p, C, dx, _, rfl, upd_same, T.cl, T.nN, ?_, ?_⟩
  ·exact Nat.lt_of_le_of_lt (length_putF _ _ _) (Nat.lt_of_le_of_lt (Nat.add_le_add_right (length_putF _ _ _) 1) (by show 2 < 1000; decide))
  refine q _ upd_same fun b o e hb => ?_
  rw [upd_ne hb, upd_ne hb, upd_ne hb]
  exact e
abbrev sSBl : Stmt := top 10
def to255 (x : List Nat × Nat) : MC.Spt := (x.1, x.2, 255)
def spSBl (K : W.Frag) (C : Addr) : Sp := fun vs H Q _ => ∃ (a b : Addr) (x : MC.Spt) (fs : List Nat), vs = [.ref a, .ref b] /\ SpotAt C H a x /\ TN K H b fs /\ fs.length <= 4 /\ x.1.length <= 10000 /\
 ∀ (H' : Hp) (l : Addr), Same H H' -> SpotsAt C H' l ((MC.below x.1 0 fs).map to255) -> Q (.ref l) H'
theorem scBl : FnScope ["spot", "fields", "place", "kind"] ["spot", "fields"] (defScope sSBl) := ⟨rfl, rfl, rfl, by decide +kernel, rfl, by decide +kernel, by decide +kernel⟩
theorem ok_sbl {f fi C : Addr} {fd fdi : FuncData} {ta : Tok} (F : Fun K "spots_below" "spots_below" sSBl f fd) (T : Bl mg) (S : SpotTxt K mg C) (mA : mg "ANYTHING" = some (.int 255 ta))
  (Fi : Fun K "__init__" "Spot.__init__" sSpotI fi fdi) (bi : Binds K fdi ["self", "way", "kind", "number"] []) (M : Mk K C fi) :
  FnOk P w K mg base CX0 3 f fd ["spot", "fields"] (spSBl K C) := by
 have GI : FnOk P w K mg base CX0 1 fi fdi ["self", "way", "kind", "number"] (spSpotI C) := ok_spotI Fi S
 refine F.ok scBl (fun vs H Q E h => ?_) (fun cdv A outer s H vs Q E hr h => ?_)
 ·obtain ⟨a, b, x, fs, rfl, _⟩ := h
  rfl
 ·obtain ⟨a, b, x, fs, rfl, ha, hb, hf, hz, k⟩ := h
  refine ⟨_, pss_one (ps_ret (pe_lc rfl scBl.nd (pi_enumT (by rfl) T.enum_ (pa_cons (pv 1) pa_nil)) (blkOk_by (own := [("place", 2), ("kind", 3)]) (by show blkC ["spot", "fields", "place", "kind"] (defScope sSBl) _ _ = true; decide +kernel))
   (fun _ _ _ _ _ => pg_tupB K (n := 2) rfl rfl (pgs_cons (pg_name (i := 2) scBl.nd rfl (Or.inl rfl)) (pgs_cons (pg_name (i := 3) scBl.nd rfl (Or.inl rfl)) pgs_nil)))
   (fun _ _ _ _ _ => pts_nil)
   (fun _ _ _ _ _ => pe_make M GI hr (by rfl) S.mg bi .nil pass0 (pa_cons (pe_op op_catP (pe_fldB K rfl (pv 0) rfl) (pe_tup (pa_cons (pv 2) pa_nil))) (pa_cons (pv 3) (pa_cons (pe_glob (v := V.int 255) (by rfl) mA ⟨_, rfl⟩) pa_nil)))))), ?_⟩
  obtain ⟨dx, wp, h1, h2⟩ := ha
  have bl := MC.below_len x.1 fs 0
  refine ⟨_, rfl, b, _, rfl, hb, fun D hD => ?_⟩
  refine lc_enumT (xs := fs.map nI) (fun i H' => ∃ as : List Addr, Same H H' /\ H' D = some (.lst (as.map V.ref)) /\ Paired (fun a x => SpotAt C H' a x) as (((MC.below x.1 0 fs).take i).map to255) /\ as.length <= i)
   ⟨[], same_new hD, upd_same, .nil, Nat.le_refl _⟩ (fun i H' _ ⟨_, s, _⟩ => s.tup hb) (fun i y H2 Tt hy ⟨as, s2, e2, p2, l2⟩ hT => ?_) (fun H2 ⟨as, s2, e2, p2, l2⟩ => ?_)
  ·obtain ⟨g, hg, rfl⟩ := map_get hy
   have hbg := MC.below_get x.1 fs 0 i g hg
   have hif : i < fs.length := (List.getElem?_eq_some_iff.mp hg).1
   have s3 : Same H2 (upd H2 Tt (.tup [.int (i : Nat), nI g])) := same_new hT
   refine ⟨Tt, _, rfl, SqT.of upd_same, rfl, _, _, rfl, _, _, rfl, rfl, rfl, ?_⟩
   refine ⟨_, rfl, a, C, dx, _, _, rfl, s3 _ _ (s2 _ _ h1), S.cl, S.nW, spotF_way _ _ _, _, rfl, (by show 1 <= sizeLine; decide), fun pn hpn => ?_⟩
   have s4 : Same (upd H2 Tt (.tup [.int (i : Nat), nI g])) (upd (upd H2 Tt (.tup [.int (i : Nat), nI g])) pn (.tup [nI i])) := same_new hpn
   refine ⟨wp, pn, _, _, rfl, rfl, s4 _ _ (s3 _ _ (s2 _ _ h2)), upd_same, ?_, fun pt H5 s5 h5 => ?_⟩
   ·have : (10000000 : Nat) <= sizeLine := by decide
    rw [List.length_map]; simp; omega
   refine ⟨_, rfl, fun z dz nx nd ne => ⟨z, dz, _, _, _, rfl, upd_same, fun H9 h9 kp => ⟨rfl, ?_⟩⟩⟩
   have s9 : Same H5 H9 := Same.made nx nd kp
   have s29 := ((s3.trans s4).trans s5).trans s9
   have eD := s29 _ _ e2
   refine ⟨_, eD, ?_, as ++ [z], fun b' o h => ?_, by rw [upd_same, List.map_append]; rfl, ?_, ?_⟩
   ·have : (10000000 : Nat) <= sizeLine := by decide
    rw [List.length_map]
    omega
   ·rw [upd_ne (ne_of_none h hD)]
    exact s29 _ _ (s2 _ _ h)
   ·rw [take_one hbg, List.map_append]
    refine paired_snoc (L2.Paired.imp' (fun b r x => (x.same s29).lst eD) p2) (SpotAt.lst ⟨dz, pt, h9, ?_⟩ eD)
    have := s9 _ _ h5
    rw [this]
    simp [to255]
   ·rw [List.length_append]; simp; omega
  ·rw [List.length_map] at p2
   rw [List.take_of_length_le (by rw [bl]; exact Nat.le_refl _)] at p2
   exact k H2 D s2 ⟨as, e2, p2⟩
end
end D
set_option Elab.async false
set_option linter.all false
set_option maxRecDepth 100000
set_option maxHeartbeats 2000000
namespace D
open PySem PySem.Spec PyProof.Rows L2
open Pc (Types consOf Pat)
abbrev sSO : Stmt := top 11
def spSO (K : W.Frag) (C : Addr) : Sp := fun vs H Q _ => ∃ (a c : Addr) (t : Nat) (p : Pat) (T : Types), vs = [.ref a, nI t, .ref c] /\ KindsAt K H a T /\ TOk T /\ t < T.length /\ TN K H c (MC.txt p) /\ (MC.txt p).length <= 4000 /\ MC.OkP T t p /\
 ∀ (H' : Hp) (l : Addr), Same H H' -> H l = none -> SpotsAt C H' l (MC.spk T [] t p) -> Q (.ref l) H'
section
variable {P : Program} {w : World} {K : W.Frag} {mg : Str -> Option Value} {base : Heap}
theorem scSO : FnScope ["kinds", "kind", "pattern", "found", "waiting", "number", "spot"] ["kinds", "kind", "pattern"] (defScope sSO) := ⟨rfl, rfl, rfl, by decide +kernel, rfl, by decide +kernel, by decide +kernel⟩
theorem ok_so {f fb fi C : Addr} {fd fdb fdi : FuncData} {ta : Tok} (F : Fun K "spots_of" "spots_of" sSO f fd) (T : Bl mg) (S : SpotTxt K mg C) (mA : mg "ANYTHING" = some (.int 255 ta))
  (GB : FnOk P w K mg base CX0 3 fb fdb ["spot", "fields"] (spSBl K C)) (mB : mg "spots_below" = some (.ref fb)) (kB : PySem.W.keepIn K (.ref fb) = true) (bb : Binds K fdb ["spot", "fields"] [])
  (Fi : Fun K "__init__" "Spot.__init__" sSpotI fi fdi) (bi : Binds K fdi ["self", "way", "kind", "number"] []) (M : Mk K C fi) :
  FnOk P w K mg base CX0 4 f fd ["kinds", "kind", "pattern"] (spSO K C) := by
 have GI : FnOk P w K mg base CX0 1 fi fdi ["self", "way", "kind", "number"] (spSpotI C) := ok_spotI Fi S
 refine F.ok scSO (fun vs H Q E h => ?_) (fun cdv A outer s H vs Q E hr h => ?_)
 ·obtain ⟨a, c, t, p, Ts, rfl, _⟩ := h
  rfl
 ·obtain ⟨a, c, t, p, Ts, rfl, hk, ok, ht, hc, lp, okp, k⟩ := h
  have hr2 : Room 2 _ := hr.mono (by decide)
  have hr3 : Room 3 _ := hr
  have Fw : MC.Few Ts := MC.few_of ok
  have big : (10000000 : Nat) <= sizeLine := by decide
  refine ⟨_, pss_cons (ps_set (i := 3) scSO.nd rfl (Or.inl rfl) (pe_lst pa_nil))
   (pss_cons (ps_set (i := 4) scSO.nd rfl (Or.inl rfl) (pe_lst (pa_cons (pe_make M GI hr2 (by rfl) S.mg bi .nil pass0 (pa_cons (pe_tup pa_nil) (pa_cons (pv 1) (pa_cons (pe_glob (v := V.int 255) (by rfl) mA ⟨_, rfl⟩) pa_nil)))) pa_nil)))
   (pss_cons (ps_for PassesOwn.never rfl (pi_tup (pv 2)) (pg_name (i := 5) scSO.nd rfl (Or.inl rfl))
    (pss_cons (ps_set (i := 6) scSO.nd rfl (Or.inl rfl) (pe_bm0 PySem.F.plainAttrs_list PySem.F.slot_list_pop PySem.F.type_list_pop mt_pop (pv 4)))
    (pss_one (ps_if (pt_cmpR op_ne (pv 5) (pe_glob (v := V.int 255) (by rfl) mA ⟨_, rfl⟩) (nomark _))
     (pss_cons (ps_expr (pe_bm PySem.F.plainAttrs_list PySem.F.slot_list_append PySem.F.type_list_append mt_append (pv 3) (pa_cons (pe_make M GI hr2 (by rfl) S.mg bi .nil pass0 (pa_cons (pe_fld (pv 6) rfl) (pa_cons (pe_fld (pv 6) rfl) (pa_cons (pv 5) pa_nil)))) pa_nil)))
     (pss_one (ps_expr (pe_bm PySem.F.plainAttrs_list PySem.F.slot_list_extend PySem.F.type_list_extend mt_extend (pv 4) (pa_cons (pe_list_rev rfl (by rfl) T.list_ (by rfl) T.rev_ (pe_call GB hr3 (by rfl) mB kB bb .nil pass0 (pa_cons (pv 6) (pa_cons (pe_ix ix_list (pe_ix ix_list (pv 0) (pe_fld (pv 6) rfl) (fun _ _ => rfl)) (pv 5) (fun _ _ => rfl)) pa_nil)))) pa_nil)))))
     pss_nil))))
   (pss_one (ps_ret (pv 3))))), ?_⟩
  refine ⟨(by show 0 <= sizeLine; decide), fun Fd hF => ?_⟩
  have s1 : Same H (upd H Fd (.lst [])) := same_new hF
  refine ⟨(by show 0 <= sizeLine; decide), fun et het => ?_⟩
  have s1' : Same (upd H Fd (.lst [])) (upd (upd H Fd (.lst [])) et (.tup [])) := same_new het
  refine ⟨_, rfl, fun z dz nx nd ne => ⟨z, dz, _, _, _, rfl, upd_same, fun H1 h1 kp => ⟨rfl, ?_⟩⟩⟩
  have s2 : Same (upd (upd H Fd (.lst [])) et (.tup [])) H1 := Same.made nx nd kp
  refine ⟨(by show 1 <= sizeLine; decide), fun W hW => ?_⟩
  have s3 : Same H1 (upd H1 W (.lst [V.ref z])) := same_new hW
  have s03 : Same H (upd H1 W (.lst [V.ref z])) := ((s1.trans s1').trans s2).trans s3
  have hF1 : H1 Fd = some (.lst []) := s2 _ _ (s1' _ _ upd_same)
  have FW : Fd ≠ W := ne_of_none hF1 hW
  have hW0 : H W = none := ((s1.trans s1').trans s2).free hW
  have hFn : ∀ b o, H b = some o -> b ≠ Fd := fun b o h => ne_of_none h hF
  have hWn : ∀ b o, H b = some o -> b ≠ W := fun b o h => ne_of_none h hW0
  have z0 : SpotAt C (upd H1 W (.lst [V.ref z])) z ([], t, 255) := ⟨dz, et, s3 _ _ h1, s3 _ _ (s2 _ _ upd_same)⟩
  refine ⟨_, rfl, c, rfl, ⟨_, s03.tup hc⟩, for_tup (xs := (MC.txt p).map nI) (fun i σ H' => ∃ (fas was : List Addr) (dn : List MC.Spt) (ws : List (List Nat × Nat)) (ps : List Pat) (x5 x6 : Option V), σ = [some (.ref a), some (nI t), some (.ref c), some (.ref Fd), some (.ref W), x5, x6] /\ Same H H' /\
    H' Fd = some (.lst (fas.map V.ref)) /\ Paired (fun a x => SpotAt C H' a x) fas dn /\ H' W = some (.lst (was.reverse.map V.ref)) /\ Paired (fun a x => SpotAt C H' a x) was (ws.map to255) /\
    MC.OkPs Ts (ws.map (·.2)) ps /\ (MC.txt p).drop i = MC.txts ps /\ dn ++ MC.spw Ts ws ps = MC.spk Ts [] t p /\ (∀ x ∈ ws, x.2 < Ts.length /\ x.1.length <= i) /\ ws.length <= 1 + 4 * i /\ dn.length <= i)
   ⟨[], [z], [], [([], t)], [p], _, _, rfl, s03, by rw [upd_ne FW]; exact hF1, .nil, upd_same, .cons z0 .nil, by simp only [List.map_cons, List.map_nil, MC.OkPs, and_true]; exact okp, by rw [MC.txts_single]; rfl, by simp [MC.spw], fun x hx => by simp at hx; subst hx; exact ⟨ht, by simp⟩, by simp, by simp⟩
   (fun i σ H' _ ⟨_, _, _, _, _, _, _, _, s, _⟩ => s.tup hc) ?_ ?_⟩
  ·rintro i x σ H2 hx ⟨fas, was, dn, ws, ps, x5, x6, rfl, s4, eF, pF, eW, pW, okw, ep, es, hw, hl, hd⟩
   obtain ⟨n, hni, rfl⟩ := map_get hx
   have hi : i < (MC.txt p).length := (List.getElem?_eq_some_iff.mp hni).1
   have hdrop : (MC.txt p).drop i = n :: (MC.txt p).drop (i + 1) := by
    rw [List.drop_eq_getElem_cons hi, (List.getElem?_eq_some_iff.mp hni).2]
   rw [hdrop] at ep
   cases ps with
   | nil => simp [MC.txts] at ep
   | cons p1 ps =>
   cases ws with
   | nil => simp [MC.OkPs] at okw
   | cons u ws =>
   obtain ⟨uw, ut⟩ := u
   obtain ⟨hu, huw⟩ := hw _ List.mem_cons_self
   simp only at hu huw
   simp only [List.map_cons, MC.OkPs] at okw
   obtain ⟨okp1, okps⟩ := okw
   cases pW with
   | @cons y _ was _ hy pW =>
   have er : (y :: was).reverse.map V.ref = was.reverse.map V.ref ++ [V.ref y] := by simp
   rw [er] at eW
   have FW' : Fd ≠ W := FW
   have s5 : Same H (upd H2 W (.lst (was.reverse.map V.ref))) := fun b o h => by rw [upd_ne (hWn b o h)]; exact s4 _ _ h
   have y5 := hy.lst (ys := was.reverse.map V.ref) eW
   obtain ⟨dy, wy, hy1, hy2⟩ := id y5
   simp only [to255] at hy1 hy2
   have pF5 := L2.Paired.imp' (fun a x (h : SpotAt C H2 a x) => h.lst (ys := was.reverse.map V.ref) eW) pF
   have pW5 := L2.Paired.imp' (fun a x (h : SpotAt C H2 a x) => h.lst (ys := was.reverse.map V.ref) eW) pW
   have eF5 : upd H2 W (.lst (was.reverse.map V.ref)) Fd = some (.lst (fas.map V.ref)) := by rw [upd_ne FW']; exact eF
   refine ⟨_, rfl, .inl ⟨rfl, _, SqL.of eW⟩, W, _, V.ref y, rfl, rfl, eW, by simp, ?_⟩
   rw [List.dropLast_concat]
   refine ⟨_, rfl, rfl, _, rfl, ?_⟩
   cases p1 with
   | any =>
    simp only [MC.txts, MC.txt, List.cons_append, List.nil_append] at ep
    have ep2 := (List.cons.inj ep).2
    obtain rfl := (List.cons.inj ep).1
    show if (!decide (nI 255 = V.int 255)) = true then _ else _
    rw [show (!decide (nI 255 = V.int 255)) = false from rfl]
    refine ⟨fas, was, dn, ws, ps, _, _, rfl, s5, eF5, pF5, upd_same, pW5, okps, ep2, by rw [<- es, MC.spw_any], fun x hx => ⟨(hw x (List.mem_cons_of_mem _ hx)).1, Nat.le_succ_of_le (hw x (List.mem_cons_of_mem _ hx)).2⟩, ?_, by omega⟩
    simp only [List.length_cons] at hl
    omega
   | con cc l =>
    simp only [MC.OkP] at okp1
    obtain ⟨fs, efs, okl⟩ := okp1
    have hc255 := Fw.ne efs
    simp only [MC.txts, MC.txt, List.cons_append] at ep
    have ep2 := (List.cons.inj ep).2
    obtain rfl := (List.cons.inj ep).1
    show if (!decide (nI n = nI 255)) = true then _ else _
    rw [decN_false hc255]
    obtain ⟨hcd, hcf⟩ := MC.fields_get efs
    obtain ⟨ks, kc, hka, hkc, hcc⟩ := kind_at hk hu
    obtain ⟨ts, tt, hts, htl, htt, hft⟩ := con_at hcc hcd
    rw [hcf] at hft
    obtain ⟨f4, fw⟩ := ok.fl hu hcd
    rw [hcf] at f4 fw
    -- found.append(Spot(..))
    refine ⟨_, rfl, .inl ⟨rfl, _, SqL.of eF5⟩, _, rfl, y, C, dy, _, _, rfl, hy1, S.cl, S.nW, spotF_way _ _ _, _, rfl, y, C, dy, _, _, rfl, hy1, S.cl, S.nK, spotF_kind _ _ _, _, rfl, fun z dz nx nd ne => ⟨z, dz, _, _, _, rfl, upd_same, fun H6 h6 kp6 => ⟨rfl, ?_⟩⟩⟩
    have s6 : Same (upd H2 W (.lst (was.reverse.map V.ref))) H6 := Same.made nx nd kp6
    have eF6 := s6 _ _ eF5
    refine ⟨Fd, _, _, rfl, rfl, eF6, ?_, ?_⟩
    ·have := Paired.length pF
     rw [List.length_map]
     omega
    have y7 : SpotAt C (upd H6 Fd (.lst (fas.map V.ref ++ [V.ref z]))) y (uw, ut, 255) := (y5.same s6).lst eF6
    have z7 : SpotAt C (upd H6 Fd (.lst (fas.map V.ref ++ [V.ref z]))) z (uw, ut, n) := SpotAt.lst ⟨dz, wy, h6, s6 _ _ hy2⟩ eF6
    have pF7 := L2.Paired.imp' (fun a x (h : SpotAt C _ a x) => (h.same s6).lst (ys := fas.map V.ref ++ [V.ref z]) eF6) pF5
    have pW7 := L2.Paired.imp' (fun a x (h : SpotAt C _ a x) => (h.same s6).lst (ys := fas.map V.ref ++ [V.ref z]) eF6) pW5
    have eW7 : upd H6 Fd (.lst (fas.map V.ref ++ [V.ref z])) W = some (.lst (was.reverse.map V.ref)) := by rw [upd_ne (Ne.symm FW')]; exact s6 _ _ upd_same
    have s7 : Same H (upd H6 Fd (.lst (fas.map V.ref ++ [V.ref z]))) := fun b o h => by rw [upd_ne (hFn b o h)]; exact s6 _ _ (s5 _ _ h)
    obtain ⟨dy7, wy7, hy71, hy72⟩ := id y7
    simp only at hy71 hy72
    -- waiting.extend(..)
    refine ⟨_, rfl, .inl ⟨rfl, _, SqL.of eW7⟩, _, rfl, _, rfl, _, rfl, y, C, dy7, _, _, rfl, hy71, S.cl, S.nK, spotF_kind _ _ _, a, _, _, V.ref kc, rfl, rfl, SqL.of (s7 _ _ hka), atI_nat (j := ut) (by rw [List.getElem?_map, hkc]; rfl), _, rfl, kc, _, _, V.ref tt, rfl, rfl, SqL.of (s7 _ _ hts), atI_nat (j := n) (by rw [List.getElem?_map, htt]; rfl), ?_⟩
    refine ⟨y, tt, (uw, ut, 255), fs, rfl, y7, s7.tup hft, f4, by simp only; omega, fun H8 B s8 hB => ?_⟩
    obtain ⟨bs, eB, pB⟩ := hB
    refine ⟨B, _, rfl, SqL.of eB, fun L hL => ?_⟩
    have s9 : Same H8 (upd H8 L (.lst (bs.map V.ref).reverse)) := same_new hL
    have s79 := s8.trans s9
    have eW9 := s79 _ _ eW7
    refine ⟨W, L, _, _, rfl, rfl, eW9, upd_same, ?_, ?_⟩
    ·have h1 := Paired.length pW
     have h2 := Paired.length pB
     rw [List.length_map] at h1
     rw [List.length_map, MC.below_len] at h2
     simp only [List.length_map, List.length_reverse]
     simp only [List.length_cons] at hl
     omega
    refine ⟨fas ++ [z], bs ++ was, dn ++ [(uw, ut, n)], MC.below uw 0 fs ++ ws, l ++ ps, _, _, rfl, fun b o h => ?_, ?_, ?_, ?_, ?_, ?_, ?_, ?_, fun x hx => ?_, ?_, ?_⟩
    ·rw [upd_ne (hWn b o h)]; exact s79 _ _ (s7 _ _ h)
    ·rw [upd_ne FW', s79 _ _ upd_same, List.map_append]; rfl
    ·exact L2.Paired.imp' (fun a x (h : SpotAt C _ a x) => (h.same s79).lst eW9) (paired_snoc pF7 z7)
    ·rw [upd_same]; simp
    ·rw [List.map_append]
     refine L2.Paired.imp' (fun a x (h : SpotAt C _ a x) => h.lst eW9) (paired_append ?_ ?_)
     ·exact L2.Paired.imp' (fun a x (h : SpotAt C _ a x) => h.same s9) pB
     ·exact L2.Paired.imp' (fun a x (h : SpotAt C _ a x) => h.same s79) pW7
    ·rw [List.map_append, MC.below_snd]
     exact MC.okps_append okl okps
    ·rw [MC.txts_append]; exact ep2
    ·rw [<- es, MC.spw_con Ts efs okl]; simp
    ·rcases List.mem_append.mp hx with hx | hx
     ·obtain ⟨j, hj⟩ := List.getElem?_of_mem hx
      have hjl : j < fs.length := by
       have := (List.getElem?_eq_some_iff.mp hj).1
       rw [MC.below_len] at this
       exact this
      have := MC.below_get uw fs 0 j fs[j] (List.getElem?_eq_getElem hjl)
      rw [hj] at this
      cases this
      refine ⟨fw _ (List.getElem_mem hjl), ?_⟩
      simp
      omega
     ·exact ⟨(hw x (List.mem_cons_of_mem _ hx)).1, Nat.le_succ_of_le (hw x (List.mem_cons_of_mem _ hx)).2⟩
    ·rw [List.length_append, MC.below_len]
     simp only [List.length_cons] at hl
     omega
    ·rw [List.length_append]; simp; omega
  ·rintro σ H2 ⟨fas, was, dn, ws, ps, x5, x6, rfl, s4, eF, pF, eW, pW, okw, ep, es, hw, hl, hd⟩
   rw [List.length_map, List.drop_length] at ep
   have eps : ps = [] := by
    cases ps with
    | nil => rfl
    | cons q ps =>
     have := MC.txt_ne q
     simp [MC.txts] at ep
     exact absurd ep.1 this
   subst eps
   have e0 : MC.spw Ts ws [] = [] := by cases ws <;> rfl
   rw [e0, List.append_nil] at es
   subst es
   exact ⟨_, rfl, k H2 Fd s4 hF ⟨fas, eF, pF⟩⟩
end
end D
set_option Elab.async false
set_option linter.all false
set_option maxRecDepth 100000
set_option maxHeartbeats 2000000
namespace D
open PySem PySem.Spec PyProof.Rows L2
open Pc (Types consOf Pat Asked answerAt)
def wayK (w : List Nat) : List Key := w.map fun (n : Nat) => (Sum.inl (n : Int) : Key)
def ansK (a : Asked) : List (List Key × V) := a.map fun x => (wayK x.1, nI x.2)
def AnsAt (H : Hp) (d : Addr) (a : Asked) : Prop := H d = some (.dT (ansK a))
theorem wayK_V (w : List Nat) : (wayK w).map kV = w.map nI := by
 unfold wayK
 rw [List.map_map]
 rfl
theorem wayK_inj : ∀ {v w : List Nat}, wayK v = wayK w -> v = w
 | [], [], _ => rfl
 | [], _ :: _, h => by cases h
 | _ :: _, [], h => by cases h
 | a :: v, b :: w, h => by
  unfold wayK at h
  simp only [List.map_cons, List.cons.injEq, Sum.inl.injEq] at h
  have := wayK_inj (v := v) (w := w) h.2
  have e : a = b := by omega
  rw [e, this]
theorem ans_val (a : Asked) (w : List Nat) : valV (ansK a) (wayK w) = (answerAt a w).map nI := by
 induction a with
 | nil => rfl
 | cons x a ih =>
  have e1 : ansK (x :: a) = (wayK x.1, nI x.2) :: ansK a := rfl
  rw [e1]
  by_cases h : x.1 = w
  ·rw [valV_pos (by simp only; rw [h])]
   unfold answerAt
   simp [List.find?_cons, h]
  ·rw [valV_neg (by simp only; exact fun q => h (wayK_inj q)), ih]
   unfold answerAt
   have : (x.1 == w) = false := by simpa using h
   simp [List.find?_cons, this]
theorem ans_put {a : Asked} {w : List Nat} {c : Nat} (h : answerAt a w = none) : putK (ansK a) (wayK w) (nI c) = ansK (a ++ [(w, c)]) := by
 unfold putK
 rw [valV_any, ans_val, h]
 simp [ansK]
abbrev sRO : Stmt := top 12
def spRO (C : Addr) : Sp := fun vs H Q _ => ∃ (l d : Addr) (sp : List MC.Spt) (a : Asked), vs = [.ref l, .ref d] /\ SpotsAt C H l sp /\ AnsAt H d a /\ sp.length <= 10000 /\ ∀ H' : Hp, Same H H' -> Q (.bl (MC.outF a sp)) H'
section
variable {P : Program} {w : World} {K : W.Frag} {mg : Str -> Option Value} {base : Heap}
theorem scRO : FnScope ["spots", "answered", "spot"] ["spots", "answered"] (defScope sRO) := ⟨rfl, rfl, rfl, by decide +kernel, rfl, by decide +kernel, by decide +kernel⟩
theorem ok_ro {f C : Addr} {fd : FuncData} (F : Fun K "is_ruled_out" "is_ruled_out" sRO f fd) (T : Bl mg) (S : SpotTxt K mg C) : FnOk P w K mg base CX0 1 f fd ["spots", "answered"] (spRO C) := by
 refine F.ok scRO (fun vs H Q E h => ?_) (fun cdv A outer s H vs Q E hr h => ?_)
 ·obtain ⟨l, d, sp, a, rfl, _⟩ := h
  rfl
 ·obtain ⟨l, d, sp, a, rfl, hl, hd, hz, k⟩ := h
  have hu : (A.deeper (envOfC "is_ruled_out" (defScope sRO) s.heap.objs.size f cdv)).units + 1 < cLine := Nat.lt_of_le_of_lt (Nat.add_le_add_left (by decide : 1 <= 64) _) hr.units
  refine ⟨_, pss_one (ps_ret (pe_callB (cr_any rfl) (by rfl) T.any_ PyProof.Rows.boot_any (pa_cons (pe_lc rfl scRO.nd (pi_list (pv 0)) (blkOk_by (own := [("spot", 2)]) (by show blkC ["spots", "answered", "spot"] (defScope sRO) _ _ = true; decide +kernel))
   (fun _ _ _ _ _ => pg_name (i := 2) scRO.nd rfl (Or.inl rfl)) (fun _ _ _ _ _ => pts_nil)
   (fun _ _ _ _ _ => pe_cmpR (r := rNe) op_ne (pe_dget2 hu (pv 1) (pe_fldB K rfl (pv 2) rfl) (pe_fldB K rfl (pv 2) rfl) ⟨rfl, rfl, rfl, rfl⟩) (pe_fldB K rfl (pv 2) rfl) (nomark _))) pa_nil))), ?_⟩
  obtain ⟨as, e1, p1⟩ := id hl
  have al : as.length = sp.length := Paired.length p1
  refine ⟨_, rfl, l, rfl, ⟨_, SqL.of e1⟩, fun D hD => ?_⟩
  refine lc_list (xs := as.map V.ref) (PvC H D (sp.map fun x => some (V.bl ((answerAt a x.1).getD x.2.2 != x.2.2)))) (PvC.start hD) (fun i H' _ p => SqL.of (p.1 _ _ e1)) (fun i x H2 hx p => ?_) (fun H2 p => ?_)
  ·obtain ⟨b, hb, rfl⟩ := map_get hx
   obtain ⟨y, hy, dx, wp, hy1, hy2⟩ := prd_get p1 hb
   have g1 := p.1 _ _ hy1
   have g2 := p.1 _ _ hy2
   have g3 : H2 d = some (.dT (ansK a)) := p.1 _ _ hd
   refine ⟨rfl, _, rfl, d, rfl, .inr ⟨_, .inl g3⟩, _, rfl, b, C, dx, _, _, rfl, g1, S.cl, S.nW, spotF_way _ _ _, _, rfl, b, C, dx, _, _, rfl, g1, S.cl, S.nN, spotF_number _ _ _, _, DGet.t g3 (k := wayK y.1) (by rw [wayK_V]; exact g2), _, rfl, b, C, dx, _, _, rfl, g1, S.cl, S.nN, spotF_number _ _ _, ?_⟩
   rw [ans_val]
   have e : ((answerAt a y.1).map nI).getD (nI y.2.2) = nI ((answerAt a y.1).getD y.2.2) := by cases answerAt a y.1 <;> rfl
   rw [e]
   refine ⟨rfl, ?_⟩
   have eb : (!decide (nI ((answerAt a y.1).getD y.2.2) = nI y.2.2)) = ((answerAt a y.1).getD y.2.2 != y.2.2) := by
    by_cases q : (answerAt a y.1).getD y.2.2 = y.2.2
    ·rw [decN_true q]; simp [q]
    ·rw [decN_false q]; simp [q]
   rw [eb]
   refine p.add hD (Same.refl _) ?_ ?_
   ·rw [List.getElem?_map, hy]; rfl
   ·rw [List.length_map]; omega
  ·obtain ⟨s1, e⟩ := p.done (by rw [List.length_map, List.length_map, al])
   rw [filterMap_some] at e
   refine ⟨D, sp.map fun x => (answerAt a x.1).getD x.2.2 != x.2.2, rfl, SqL.of ?_, ?_⟩
   ·rw [e, List.map_map]; rfl
   ·have : (sp.map fun x => (answerAt a x.1).getD x.2.2 != x.2.2).any id = MC.outF a sp := by
     rw [List.any_map]; rfl
    rw [this]
    exact k H2 s1
abbrev sFL : Stmt := top 13
def natO : Option Nat -> V
 | none => .non
 | some i => nI i
def spFL (C : Addr) : Sp := fun vs H Q _ => ∃ (l d : Addr) (sps : List (List MC.Spt)) (a : Asked), vs = [.ref l, .ref d] /\ SpsAt C H l sps /\ AnsAt H d a /\ (∀ sp ∈ sps, sp.length <= 10000) /\ ∀ H' : Hp, Same H H' -> Q (natO (MC.leftF a sps)) H'
theorem scFL : FnScope ["clauses", "answered", "number", "spots"] ["clauses", "answered"] (defScope sFL) := ⟨rfl, rfl, rfl, by decide +kernel, rfl, by decide +kernel, by decide +kernel⟩
theorem ok_fl {f fr C : Addr} {fd fdr : FuncData} (F : Fun K "first_left" "first_left" sFL f fd) (T : Bl mg)
  (GR : FnOk P w K mg base CX0 1 fr fdr ["spots", "answered"] (spRO C)) (mR : mg "is_ruled_out" = some (.ref fr)) (kR : PySem.W.keepIn K (.ref fr) = true) (br : Binds K fdr ["spots", "answered"] []) :
  FnOk P w K mg base CX0 2 f fd ["clauses", "answered"] (spFL C) := by
 refine F.ok scFL (fun vs H Q E h => ?_) (fun cdv A outer s H vs Q E hr h => ?_)
 ·obtain ⟨l, d, sps, a, rfl, _⟩ := h
  rfl
 ·obtain ⟨l, d, sps, a, rfl, hl, hd, hz, k⟩ := h
  have hr1 : Room 1 _ := hr.mono (by decide)
  refine ⟨_, pss_cons (ps_for PassesOwn.never rfl (pi_enum (by rfl) T.enum_ (pa_cons (pv 0) pa_nil)) (pg_tup (n := 2) rfl (pgs_cons (pg_name (i := 2) scFL.nd rfl (Or.inl rfl)) (pgs_cons (pg_name (i := 3) scFL.nd rfl (Or.inl rfl)) pgs_nil)))
    (pss_one (ps_if (pt_not (pt_val (pe_call GR hr1 (by rfl) mR kR br .nil pass0 (pa_cons (pv 3) (pa_cons (pv 1) pa_nil))))) (pss_one (ps_ret (pv 2))) pss_nil)))
   (pss_one (ps_ret pe_non)), ?_⟩
  obtain ⟨as, e1, p1⟩ := id hl
  have al : as.length = sps.length := Paired.length p1
  refine ⟨_, rfl, l, _, rfl, SqL.of e1, for_enum (xs := as.map V.ref) (fun i σ H' => ∃ x2 x3 : Option V, σ = [some (.ref l), some (.ref d), x2, x3] /\ Same H H' /\ ∀ (j : Nat) (sp : List MC.Spt), j < i -> sps[j]? = some sp -> (!MC.outF a sp) = false)
   ⟨_, _, rfl, Same.refl H, fun j sp hj => absurd hj (Nat.not_lt_zero _)⟩ (fun i σ H' _ ⟨_, _, _, s, _⟩ => SqL.of (s _ _ e1)) ?_ ?_⟩
  ·rintro i x σ H2 Tt hx ⟨x2, x3, rfl, s2, hn⟩ hT
   obtain ⟨b, hb, rfl⟩ := map_get hx
   obtain ⟨sp, hsp, hat⟩ := prd_get p1 hb
   have s3 : Same H2 (upd H2 Tt (.tup [.int (i : Nat), V.ref b])) := same_new hT
   refine ⟨Tt, _, rfl, SqT.of upd_same, rfl, _, _, rfl, _, _, rfl, rfl, ?_⟩
   refine ⟨_, rfl, _, rfl, b, d, sp, a, rfl, hat.same (s2.trans s3), (s2.trans s3) _ _ hd, hz sp (List.mem_of_getElem? hsp), fun H4 s4 => ⟨_, rfl, ?_⟩⟩
   have s24 := (s2.trans s3).trans s4
   cases ho : MC.outF a sp with
   | true =>
    refine ⟨_, _, rfl, s24, fun j sp' hj hs => ?_⟩
    by_cases q : j = i
    ·subst q
     rw [hsp] at hs
     cases hs
     rw [ho]; rfl
    ·exact hn j sp' (by omega) hs
   | false =>
    refine ⟨_, rfl, ?_⟩
    have : MC.leftF a sps = some i := MC.idx_some hsp (by rw [ho]; rfl) hn
    have q := k H4 s24
    rw [this] at q
    exact q
  ·rintro σ H2 ⟨x2, x3, rfl, s2, hn⟩
   have : MC.leftF a sps = none := MC.idx_none fun i sp e => hn i sp (by rw [List.length_map, al]; exact (List.getElem?_eq_some_iff.mp e).1) e
   have q := k H2 s2
   rw [this] at q
   exact q
abbrev sFU : Stmt := top 14
def spFU (C : Addr) : Sp := fun vs H Q _ => ∃ (l d : Addr) (sp : List MC.Spt) (a : Asked), vs = [.ref l, .ref d] /\ SpotsAt C H l sp /\ AnsAt H d a /\ match MC.unF a sp with
 | none => Q .non H
 | some x => ∀ b, SpotAt C H b x -> Q (.ref b) H
theorem scFU : FnScope ["spots", "answered", "spot"] ["spots", "answered"] (defScope sFU) := ⟨rfl, rfl, rfl, by decide +kernel, rfl, by decide +kernel, by decide +kernel⟩
theorem find_some {α : Type} {f : α -> Bool} : ∀ {l : List α} {i : Nat} {x : α}, l[i]? = some x -> f x = true -> (∀ (j : Nat) (y : α), j < i -> l[j]? = some y -> f y = false) -> l.find? f = some x
 | [], i, x, e, _, _ => by simp at e
 | a :: l, 0, x, e, hx, _ => by simp at e; subst e; simp [hx]
 | a :: l, i + 1, x, e, hx, h => by
  have ha : f a = false := h 0 a (by omega) rfl
  rw [List.find?_cons, ha]
  exact find_some (i := i) (by simpa using e) hx fun j y hj hy => h (j + 1) y (by omega) (by simpa using hy)
theorem ok_fu {f C : Addr} {fd : FuncData} (F : Fun K "first_unasked" "first_unasked" sFU f fd) (T : Bl mg) (S : SpotTxt K mg C) : FnOk P w K mg base CX0 1 f fd ["spots", "answered"] (spFU C) := by
 refine F.ok scFU (fun vs H Q E h => ?_) (fun cdv A outer s H vs Q E hr h => ?_)
 ·obtain ⟨l, d, sp, a, rfl, _⟩ := h
  rfl
 ·obtain ⟨l, d, sp, a, rfl, hl, hd, k⟩ := h
  have hu : (A.deeper (envOfC "first_unasked" (defScope sFU) s.heap.objs.size f cdv)).units + 1 < cLine := Nat.lt_of_le_of_lt (Nat.add_le_add_left (by decide : 1 <= 64) _) hr.units
  refine ⟨_, pss_cons (ps_for PassesOwn.never rfl (pi_list (pv 0)) (pg_name (i := 2) scFU.nd rfl (Or.inl rfl))
    (pss_one (ps_if (pt_cmp (pc_dnotin hu (pe_fld (pv 2) rfl) (pv 1)) (by with_unfolding_all rfl)) (pss_one (ps_ret (pv 2))) pss_nil)))
   (pss_one (ps_ret pe_non)), ?_⟩
  obtain ⟨as, e1, p1⟩ := id hl
  have al : as.length = sp.length := Paired.length p1
  refine ⟨_, rfl, l, rfl, ⟨_, SqL.of e1⟩, for_list (xs := as.map V.ref) (fun i σ H' => H' = H /\ ∃ x2 : Option V, σ = [some (.ref l), some (.ref d), x2] /\ ∀ (j : Nat) (y : MC.Spt), j < i -> sp[j]? = some y -> (answerAt a y.1).isNone = false)
   ⟨rfl, _, rfl, fun j sp hj => absurd hj (Nat.not_lt_zero _)⟩ (fun i σ H' _ ⟨q, _⟩ => by rw [q]; exact SqL.of e1) ?_ ?_⟩
  ·rintro i x σ H2 hx ⟨rfl, x2, rfl, hn⟩
   obtain ⟨b, hb, rfl⟩ := map_get hx
   obtain ⟨y, hy, hat⟩ := prd_get p1 hb
   obtain ⟨dx, wp, hy1, hy2⟩ := id hat
   refine ⟨_, rfl, b, C, dx, _, _, rfl, hy1, S.cl, S.nW, spotF_way _ _ _, _, rfl, d, _, rfl, DGet.t hd (k := wayK y.1) (by rw [wayK_V]; exact hy2), _, rfl, ?_⟩
   rw [ans_val]
   cases ho : answerAt a y.1 with
   | some c =>
    refine ⟨rfl, _, rfl, fun j y' hj hs => ?_⟩
    by_cases q : j = i
    ·subst q
     rw [hy] at hs
     cases hs
     rw [ho]; rfl
    ·exact hn j y' (by omega) hs
   | none =>
    refine ⟨_, rfl, ?_⟩
    have : MC.unF a sp = some y := find_some hy (by rw [ho]; rfl) hn
    rw [this] at k
    exact k b hat
  ·rintro σ H2 ⟨rfl, x2, rfl, hn⟩
   have : MC.unF a sp = none := by
    unfold MC.unF
    rw [List.find?_eq_none]
    intro y hy
    obtain ⟨i, e⟩ := List.getElem?_of_mem hy
    have := hn i y (by rw [List.length_map, al]; exact (List.getElem?_eq_some_iff.mp e).1) e
    simp [this]
   rw [this] at k
   exact k
abbrev sAN : Stmt := top 15
def spAN (C : Addr) : Sp := fun vs H Q _ => ∃ (l d : Addr) (sps : List (List MC.Spt)) (a : Asked), vs = [.ref l, .ref d] /\ SpsAt C H l sps /\ AnsAt H d a /\ (∀ sp ∈ sps, sp.length <= 10000) /\ ∀ H' : Hp, Same H H' -> match MC.nxF a sps with
 | .ask x => ∀ b, SpotAt C H' b x -> Q (.ref b) H'
 | _ => Q .non H'
theorem scAN : FnScope ["clauses", "answered", "number"] ["clauses", "answered"] (defScope sAN) := ⟨rfl, rfl, rfl, by decide +kernel, rfl, by decide +kernel, by decide +kernel⟩
theorem ok_an {f fl fu C : Addr} {fd fdl fdu : FuncData} (F : Fun K "asked_next" "asked_next" sAN f fd) (T : Bl mg)
  (GL : FnOk P w K mg base CX0 2 fl fdl ["clauses", "answered"] (spFL C)) (mL : mg "first_left" = some (.ref fl)) (kL : PySem.W.keepIn K (.ref fl) = true) (bl : Binds K fdl ["clauses", "answered"] [])
  (GU : FnOk P w K mg base CX0 1 fu fdu ["spots", "answered"] (spFU C)) (mU : mg "first_unasked" = some (.ref fu)) (kU : PySem.W.keepIn K (.ref fu) = true) (bu : Binds K fdu ["spots", "answered"] []) :
  FnOk P w K mg base CX0 3 f fd ["clauses", "answered"] (spAN C) := by
 refine F.ok scAN (fun vs H Q E h => ?_) (fun cdv A outer s H vs Q E hr h => ?_)
 ·obtain ⟨l, d, sps, a, rfl, _⟩ := h
  rfl
 ·obtain ⟨l, d, sps, a, rfl, hl, hd, hz, k⟩ := h
  have hr2 : Room 2 _ := hr.mono (by decide)
  have hr1 : Room 1 _ := hr.mono (by decide)
  refine ⟨_, pss_cons (ps_set (i := 2) scAN.nd rfl (Or.inl rfl) (pe_call GL hr2 (by rfl) mL kL bl .nil pass0 (pa_cons (pv 0) (pa_cons (pv 1) pa_nil))))
   (pss_one (ps_ret (pe_ifExp (pt_cmpR op_isN (pv 2) pe_non (nomark _)) pe_non (pe_call GU hr1 (by rfl) mU kU bu .nil pass0 (pa_cons (pe_ix ix_list (pv 0) (pv 2) (fun _ _ => rfl)) (pa_cons (pv 1) pa_nil)))))), ?_⟩
  refine ⟨_, rfl, _, rfl, l, d, sps, a, rfl, hl, hd, hz, fun H1 s1 => ?_⟩
  have k1 := k H1 s1
  refine ⟨_, rfl, rfl, _, rfl, ?_⟩
  unfold MC.nxF at k1
  cases e : MC.leftF a sps with
  | none =>
   rw [e] at k1
   exact k1
  | some i =>
   rw [e] at k1
   simp only at k1
   show if decide (nI i = V.non) = true then _ else _
   rw [show decide (nI i = V.non) = false from rfl]
   obtain ⟨as, e1, p1⟩ := hl.same s1
   obtain ⟨hi, _⟩ := List.findIdx?_eq_some_iff_getElem.mp e
   obtain ⟨b, hb, hat⟩ := prd_get2 p1 (List.getElem?_eq_getElem hi)
   have g : sps.getD i [] = sps[i] := by rw [List.getD_eq_getElem?_getD, List.getElem?_eq_getElem hi]; rfl
   rw [g] at k1
   refine ⟨_, rfl, _, rfl, l, _, _, V.ref b, rfl, rfl, SqL.of e1, atI_nat (j := i) (by rw [List.getElem?_map, hb]; rfl), _, rfl, b, d, sps[i], a, rfl, hat, s1 _ _ hd, ?_⟩
   cases e2 : MC.unF a sps[i] with
   | none => rw [e2] at k1; exact k1
   | some x => rw [e2] at k1; exact k1
abbrev sAB : Stmt := top 16
def spAB (K : W.Frag) (C : Addr) : Sp := fun vs H Q _ => ∃ (kk l c : Addr) (T : Types) (sps : List (List MC.Spt)) (ns : List Nat), vs = [.ref kk, .ref l, .ref c] /\ KindsAt K H kk T /\ TOk T /\ SpsAt C H l sps /\ TN K H c ns /\ ns.length <= 10000 /\
 (∀ sp ∈ sps, sp.length <= 10000) /\ (∀ sp ∈ sps, ∀ x ∈ sp, x.2.1 < T.length) /\ ∀ H' : Hp, Same H H' -> match MC.goF T sps [] ns with
  | none => Q .non H'
  | some a => ∀ d, AnsAt H' d a -> Q (.ref d) H'
theorem scAB : FnScope ["kinds", "clauses", "constructors", "valued", "answered", "number", "spot"] ["kinds", "clauses", "constructors"] (defScope sAB) := ⟨rfl, rfl, rfl, by decide +kernel, rfl, by decide +kernel, by decide +kernel⟩
theorem nx_mem {a : Asked} {sps : List (List MC.Spt)} {x : MC.Spt} (h : MC.nxF a sps = .ask x) : (∃ sp ∈ sps, x ∈ sp) /\ answerAt a x.1 = none := by
 unfold MC.nxF at h
 split at h
 ·cases h
 ·rename_i i q
  split at h
  ·cases h
  ·rename_i y q2
   cases h
   obtain ⟨hi, _⟩ := List.findIdx?_eq_some_iff_getElem.mp q
   have g : sps.getD i [] = sps[i] := by rw [List.getD_eq_getElem?_getD, List.getElem?_eq_getElem hi]; rfl
   rw [g] at q2
   refine ⟨⟨sps[i], List.getElem_mem hi, List.mem_of_find?_eq_some q2⟩, ?_⟩
   have := List.find?_some q2
   simpa using this
theorem ok_ab {f fv fm fn C : Addr} {fd fdv fdm fdn : FuncData} (F : Fun K "answered_by" "answered_by" sAB f fd) (T : Bl mg) (S : SpotTxt K mg C)
  (GV : FnOk P w K mg base CX0 2 fv fdv ["kinds"] (spValued K)) (mV : mg "valued_kinds" = some (.ref fv)) (kV : PySem.W.keepIn K (.ref fv) = true) (bv : Binds K fdv ["kinds"] [])
  (GM : FnOk P w K mg base CX0 1 fm fdm ["fields", "valued"] (spMakes K)) (mM : mg "makes_value" = some (.ref fm)) (kM : PySem.W.keepIn K (.ref fm) = true) (bm : Binds K fdm ["fields", "valued"] [])
  (GN : FnOk P w K mg base CX0 3 fn fdn ["clauses", "answered"] (spAN C)) (mN : mg "asked_next" = some (.ref fn)) (kN : PySem.W.keepIn K (.ref fn) = true) (bn : Binds K fdn ["clauses", "answered"] []) :
  FnOk P w K mg base CX0 4 f fd ["kinds", "clauses", "constructors"] (spAB K C) := by
 refine F.ok scAB (fun vs H Q E h => ?_) (fun cdv A outer s H vs Q E hr h => ?_)
 ·obtain ⟨kk, l, c, Ts, sps, ns, rfl, _⟩ := h
  rfl
 ·obtain ⟨kk, l, c, Ts, sps, ns, rfl, hk, ok, hl, hc, hn, hz, ht, k⟩ := h
  have hr3 : Room 3 _ := hr.mono (by decide)
  have hr2 : Room 2 _ := hr.mono (by decide)
  have hr1 : Room 1 _ := hr.mono (by decide)
  have hu : (A.deeper (envOfC "answered_by" (defScope sAB) s.heap.objs.size f cdv)).units + 1 < cLine := Nat.lt_of_le_of_lt (Nat.add_le_add_left (by decide : 1 <= 64) _) hr.units
  refine ⟨_, pss_cons (ps_set (i := 3) scAB.nd rfl (Or.inl rfl) (pe_call GV hr2 (by rfl) mV kV bv .nil pass0 (pa_cons (pv 0) pa_nil)))
   (pss_cons (ps_set (i := 4) scAB.nd rfl (Or.inl rfl) pe_dnewT)
   (pss_cons (ps_for PassesOwn.never rfl (pi_tup (pv 2)) (pg_name (i := 5) scAB.nd rfl (Or.inl rfl))
    (pss_cons (ps_set (i := 6) scAB.nd rfl (Or.inl rfl) (pe_call GN hr3 (by rfl) mN kN bn .nil pass0 (pa_cons (pv 1) (pa_cons (pv 4) pa_nil))))
    (pss_cons (ps_if (PW.pt (pw_or (pt_cmpR op_isN (pv 6) pe_non (nomark _)) (pw_or1 (pt_cmpR op_ge (pv 5) (pe_callB call_len_seq (by rfl) T.len_ PySem.boot_len (pa_cons (pe_ix ix_list (pv 0) (pe_fld (pv 6) rfl) (fun _ _ => rfl)) pa_nil)) (nomark _))))) (pss_one (ps_ret pe_non)) pss_nil)
    (pss_cons (ps_if (pt_not (pt_val (pe_call GM hr1 (by rfl) mM kM bm .nil pass0 (pa_cons (pe_ix ix_list (pe_ix ix_list (pv 0) (pe_fld (pv 6) rfl) (fun _ _ => rfl)) (pv 5) (fun _ _ => rfl)) (pa_cons (pv 3) pa_nil))))) (pss_one (ps_ret pe_non)) pss_nil)
    (pss_one (ps_dput hu (pv 4) (pe_fld (pv 6) rfl) (pv 5) rfl))))))
   (pss_one (ps_ret (pv 4))))), ?_⟩
  refine ⟨_, rfl, kk, Ts, rfl, hk, ok, fun H1 pv1 s1 e1 => ?_⟩
  refine fun d hd => ?_
  have s2 : Same H1 (upd H1 d (.dT [])) := same_new hd
  have s02 := s1.trans s2
  have hd0 : H d = none := s1.free hd
  have hdn : ∀ b o, H b = some o -> b ≠ d := fun b o h => ne_of_none h hd0
  have hvd : pv1 ≠ d := ne_of_none e1 hd
  refine ⟨_, rfl, c, rfl, ⟨_, s02.tup hc⟩, for_tup (xs := ns.map nI) (fun i σ H' => ∃ (a : Asked) (x5 x6 : Option V), σ = [some (.ref kk), some (.ref l), some (.ref c), some (.ref pv1), some (.ref d), x5, x6] /\ Same H H' /\ H' pv1 = some (.lst ((Pc.having Ts Ts.length).map V.bl)) /\ AnsAt H' d a /\
    MC.goF Ts sps a (ns.drop i) = MC.goF Ts sps [] ns /\ a.length <= i)
   ⟨[], _, _, rfl, s02, s2 _ _ e1, upd_same, rfl, Nat.le_refl _⟩ (fun i σ H' _ ⟨_, _, _, _, s, _⟩ => s.tup hc) ?_ ?_⟩
  ·rintro i x σ H2 hx ⟨a, x5, x6, rfl, s3, e3, hA, eg, la⟩
   obtain ⟨n, hni, rfl⟩ := map_get hx
   have hi : i < ns.length := (List.getElem?_eq_some_iff.mp hni).1
   have hdrop : ns.drop i = n :: ns.drop (i + 1) := by
    rw [List.drop_eq_getElem_cons hi, (List.getElem?_eq_some_iff.mp hni).2]
   rw [hdrop] at eg
   refine ⟨_, rfl, _, rfl, l, d, sps, a, rfl, hl.same s3, hA, hz, fun H4 s4 => ?_⟩
   have s34 := s3.trans s4
   have noneW : MC.goF Ts sps [] ns = none -> Q .non H4 := fun q => by
    have := k H4 s34
    rw [q] at this
    exact this
   rw [MC.goF] at eg
   cases e : MC.nxF a sps with
   | clause j =>
    rw [e] at eg
    exact ⟨_, rfl, rfl, _, rfl, noneW eg.symm⟩
   | nothing =>
    rw [e] at eg
    exact ⟨_, rfl, rfl, _, rfl, noneW eg.symm⟩
   | ask x =>
    rw [e] at eg
    simp only at eg
    intro b hb
    obtain ⟨⟨sp, hsp, hxs⟩, hna⟩ := nx_mem e
    have hxt := ht sp hsp x hxs
    obtain ⟨dx, wp, hb1, hb2⟩ := id hb
    obtain ⟨ks, kc, hka, hkc, hcc⟩ := kind_at hk hxt
    obtain ⟨ts, hts, htp⟩ := id hcc
    have tl : ts.length = (consOf Ts x.2.1).length := Paired.length htp
    refine ⟨_, rfl, rfl, _, rfl, ?_⟩
    show if decide (V.ref b = V.non) = true then _ else _
    rw [show decide (V.ref b = V.non) = false from rfl]
    refine ⟨_, rfl, _, rfl, _, rfl, b, C, dx, _, _, rfl, hb1, S.cl, S.nK, spotF_kind _ _ _, kk, _, _, V.ref kc, rfl, rfl, SqL.of (s34 _ _ hka), atI_nat (j := x.2.1) (by rw [List.getElem?_map, hkc]; rfl), kc, _, rfl, .inl (SqL.of (s34 _ _ hts)), _, _, rfl, rfl, _, rfl, ?_⟩
    rw [List.length_map, tl]
    by_cases hge : (((consOf Ts x.2.1).length : Nat) : Int) <= (n : Int)
    ·show if decide ((((consOf Ts x.2.1).length : Nat) : Int) <= (n : Int)) = true then _ else _
     rw [decide_eq_true hge]
     refine noneW ?_
     rw [<- eg, if_neg]
     unfold Pc.makes Pc.fieldsOf
     rw [List.getElem?_eq_none (by omega)]
     exact Bool.false_ne_true
    ·show if decide ((((consOf Ts x.2.1).length : Nat) : Int) <= (n : Int)) = true then _ else _
     rw [decide_eq_false hge]
     have hlt : n < (consOf Ts x.2.1).length := by omega
     obtain ⟨ts', tt, hts', _, htt, hft⟩ := con_at hcc hlt
     obtain ⟨f4, fw⟩ := ok.fl hxt hlt
     have hmk : Pc.makes Ts x.2.1 n = MC.mk1 (Pc.having Ts Ts.length) ((consOf Ts x.2.1).getD n []) := MC.makes_eq (fun t => rfl) (by unfold Pc.fieldsOf; rw [List.getD_eq_getElem?_getD, List.getElem?_eq_getElem hlt]; rfl)
     refine ⟨_, rfl, _, rfl, b, C, dx, _, _, rfl, hb1, S.cl, S.nK, spotF_kind _ _ _, kk, _, _, V.ref kc, rfl, rfl, SqL.of (s34 _ _ hka), atI_nat (j := x.2.1) (by rw [List.getElem?_map, hkc]; rfl), _, rfl, kc, _, _, V.ref tt, rfl, rfl, SqL.of (s34 _ _ hts'), atI_nat (j := n) (by rw [List.getElem?_map, htt]; rfl), _, rfl, ?_⟩
     refine ⟨tt, pv1, _, _, rfl, s34.tup hft, s4 _ _ e3, fun g hg => by rw [MC.having_len]; exact fw g hg, by omega, fun H5 s5 => ⟨_, rfl, ?_⟩⟩
     have s35 := s34.trans s5
     rw [<- hmk]
     cases hm : Pc.makes Ts x.2.1 n with
     | false =>
      rw [hm] at eg
      have := k H5 s35
      rw [<- eg] at this
      exact this
     | true =>
      rw [hm, if_pos rfl] at eg
      have hA5 : H5 d = some (.dT (ansK a)) := s5 _ _ (s4 _ _ hA)
      refine ⟨_, rfl, _, rfl, _, rfl, b, C, dx, _, _, rfl, s5 _ _ hb1, S.cl, S.nW, spotF_way _ _ _, d, _, rfl, DPut.t hA5 (k := wayK x.1) (by rw [wayK_V]; exact s5 _ _ hb2) ?_, ?_⟩
      ·have : (10000000 : Nat) <= sizeLine := by decide
       unfold ansK
       rw [List.length_map]
       omega
      ·refine ⟨a ++ [(x.1, n)], _, _, rfl, fun b o h => ?_, ?_, ?_, eg, ?_⟩
       ·rw [upd_ne (hdn b o h)]; exact s35 _ _ h
       ·rw [upd_ne hvd]; exact s5 _ _ (s4 _ _ e3)
       ·unfold AnsAt
        rw [upd_same, ans_put hna]
       ·rw [List.length_append]; simp; omega
  ·rintro σ H2 ⟨a, x5, x6, rfl, s3, e3, hA, eg, la⟩
   rw [List.length_map, List.drop_length] at eg
   refine ⟨_, rfl, ?_⟩
   have := k H2 s3
   rw [<- eg] at this
   exact this d hA
end
end D
set_option Elab.async false
set_option linter.all false
set_option maxRecDepth 100000
set_option maxHeartbeats 2000000
namespace D
open PySem PySem.Spec PyProof.Rows L2
open Pc (Types consOf Pat)
abbrev sCo : Stmt := top 39
def spCo (K : W.Frag) : Sp := fun vs H Q _ => ∃ (a : Addr) (ns : List Nat), vs = [.ref a] /\ (SqL K H a (ns.map nI) ∨ SqT K H a (ns.map nI)) /\ ns.length <= 1000000 /\
 ∀ (H' : Hp) (p : Addr), Same H H' -> H p = none -> H' p = some (.lst (nI ns.length :: ns.map nI)) -> Q (.ref p) H'
theorem boot_list5 : bootBuiltins "list" = some (.type "list") := by decide +kernel
section
variable {P : Program} {w : World} {K : W.Frag} {mg : Str -> Option Value} {base : Heap}
theorem scCo : FnScope ["numbers"] ["numbers"] (defScope sCo) := ⟨rfl, rfl, rfl, by decide +kernel, rfl, by decide +kernel, by decide +kernel⟩
theorem sq_same {H H' : Hp} {a : Addr} {xs : List V} (h : SqL K H a xs ∨ SqT K H a xs) (s : Same H H') : SqL K H' a xs ∨ SqT K H' a xs := h.elim (fun q => .inl (s.seq q)) (fun q => .inr (s.tup q))
theorem ok_co {f : Addr} {fd : FuncData} (F : Fun K "counted" "counted" sCo f fd) (T : Bl mg) : FnOk P w K mg base CX0 1 f fd ["numbers"] (spCo K) := by
 refine F.ok scCo (fun vs H Q E h => ?_) (fun cdv A outer s H vs Q E hr h => ?_)
 ·obtain ⟨a, ns, rfl, _⟩ := h
  rfl
 ·obtain ⟨a, ns, rfl, ha, hn, k⟩ := h
  have big : (10000000 : Nat) <= sizeLine := by decide
  refine ⟨_, pss_one (ps_ret (pe_op op_cat (pe_lst (pa_cons (pe_callB call_len_seq (by rfl) T.len_ PySem.boot_len (pa_cons (pv 0) pa_nil)) pa_nil)) (pe_callTy call_list_of (by rfl) T.list_ boot_list5 (pa_cons (pv 0) pa_nil)))), ?_⟩
  refine ⟨_, rfl, a, _, rfl, ha, (by show 1 <= sizeLine; decide), fun l hl => ?_⟩
  rw [List.length_map]
  have s1 : Same H (upd H l (.lst [nI ns.length])) := same_new hl
  refine ⟨_, rfl, a, _, rfl, sq_same ha s1, fun m hm => ?_⟩
  have s2 : Same (upd H l (.lst [nI ns.length])) (upd (upd H l (.lst [nI ns.length])) m (.lst (ns.map nI))) := same_new hm
  refine ⟨l, m, _, _, rfl, rfl, s2 _ _ upd_same, upd_same, ?_, fun p hp => ?_⟩
  ·rw [List.length_map]; simp; omega
  ·have s3 := same_new (o := .lst ([nI ns.length] ++ ns.map nI)) hp
   exact k _ p ((s1.trans s2).trans s3) ((s1.trans s2).free hp) upd_same
abbrev sPT : Stmt := top 40
def spPT (K : W.Frag) : Sp := fun vs H Q _ => ∃ (x : V) (o : Option (List Nat)), vs = [x] /\ (match o with | none => x = .non | some l => ∃ a, x = .ref a /\ TN K H a l /\ l.length <= 1000000) /\
 ∀ (H' : Hp) (p : Addr), Same H H' -> H p = none -> H' p = some (.lst ((MC.tellP o).map V.int)) -> Q (.ref p) H'
theorem scPT : FnScope ["found"] ["found"] (defScope sPT) := ⟨rfl, rfl, rfl, by decide +kernel, rfl, by decide +kernel, by decide +kernel⟩
theorem ok_pt {f fc : Addr} {fd fdc : FuncData} (F : Fun K "pattern_told" "pattern_told" sPT f fd) (T : Bl mg)
  (GC : FnOk P w K mg base CX0 1 fc fdc ["numbers"] (spCo K)) (mC : mg "counted" = some (.ref fc)) (kC : PySem.W.keepIn K (.ref fc) = true) (bc : Binds K fdc ["numbers"] []) : FnOk P w K mg base CX0 2 f fd ["found"] (spPT K) := by
 refine F.ok scPT (fun vs H Q E h => ?_) (fun cdv A outer s H vs Q E hr h => ?_)
 ·obtain ⟨x, o, rfl, _⟩ := h
  rfl
 ·obtain ⟨x, o, rfl, ho, k⟩ := h
  have hr1 : Room 1 _ := hr.mono (by decide)
  refine ⟨_, pss_one (ps_ret (pe_ifExp (pt_cmpR op_isN (pv 0) pe_non (nomark _)) (pe_lst (pa_cons pe_int pa_nil)) (pe_call GC hr1 (by rfl) mC kC bc .nil pass0 (pa_cons (pv 0) pa_nil)))), ?_⟩
  refine ⟨_, rfl, rfl, _, rfl, ?_⟩
  cases o with
  | none =>
   subst ho
   exact ⟨(by show 1 <= sizeLine; decide), fun p hp => k _ p (same_new hp) hp upd_same⟩
  | some l =>
   obtain ⟨a, rfl, ha, hl⟩ := ho
   show if decide (V.ref a = V.non) = true then _ else _
   rw [show decide (V.ref a = V.non) = false from rfl]
   refine ⟨_, rfl, a, l, rfl, .inr ha, hl, fun H' p s hp e => k H' p s hp ?_⟩
   rw [e]
   unfold MC.tellP
   rw [List.map_cons, List.map_map]
   rfl
end
def deskF (k m c : V) : List (Str × V) := putF "clauses" c (putF "matched" m (putF "kinds" k []))
theorem putF_hit {f : Str} {v x : V} {r : List (Str × V)} : putF f v ((f, x) :: r) = (f, v) :: r := by rw [putF, if_pos rfl]
theorem putF_miss {f g : Str} {v x : V} {r : List (Str × V)} (h : ¬ g = f) : putF f v ((g, x) :: r) = (g, x) :: putF f v r := by rw [putF, if_neg h]
theorem putF_nil {f : Str} {v : V} : putF f v [] = [(f, v)] := rfl
theorem deskF_eq (k m c : V) : deskF k m c = [(("kinds" : Str), k), (("matched" : Str), m), (("clauses" : Str), c)] := by
 unfold deskF
 rw [putF_nil, putF_miss (by decide +kernel), putF_nil, putF_miss (by decide +kernel), putF_miss (by decide +kernel), putF_nil]
theorem deskF_kinds (k m c : V) : (deskF k m c).lookup ("kinds" : Str) = some k := by
 unfold deskF; rw [lookup_putF, if_neg (by decide +kernel), lookup_putF, if_neg (by decide +kernel), lookup_putF, if_pos rfl]
theorem deskF_matched (k m c : V) : (deskF k m c).lookup ("matched" : Str) = some m := by
 unfold deskF; rw [lookup_putF, if_neg (by decide +kernel), lookup_putF, if_pos rfl]
theorem deskF_clauses (k m c : V) : (deskF k m c).lookup ("clauses" : Str) = some c := by
 unfold deskF; rw [lookup_putF, if_pos rfl]
theorem deskF_no (k m c : V) {x : Str} (h1 : ¬ x = "kinds") (h2 : ¬ x = "matched") (h3 : ¬ x = "clauses") : (deskF k m c).lookup x = none := by
 unfold deskF; rw [lookup_putF, if_neg h3, lookup_putF, if_neg h2, lookup_putF, if_neg h1]; rfl
theorem deskF_putM (k m c v : V) : putF "matched" v (deskF k m c) = deskF k v c := by
 rw [deskF_eq, deskF_eq, putF_miss (by decide +kernel), putF_hit]
theorem deskF_putC (k m c v : V) : putF "clauses" v (deskF k m c) = deskF k m v := by
 rw [deskF_eq, deskF_eq, putF_miss (by decide +kernel), putF_miss (by decide +kernel), putF_hit]
theorem deskF_len (k m c : V) : (deskF k m c).length < 1000 := by rw [deskF_eq]; show 3 < 1000; decide
structure DeskTxt (K : W.Frag) (mg : Str -> Option Value) (C : Addr) : Prop where
 cl : Cls K C
 nK : NoAttr K C "kinds"
 nM : NoAttr K C "matched"
 nC : NoAttr K C "clauses"
 mg : mg "Desk" = some (.ref C)
structure Cn (mg : Str -> Option Value) : Prop where
 fn : ∃ t, mg "FITS_NONE" = some (.int (-1) t)
 nt : ∃ t, mg "NOT_THERE" = some (.int (-2) t)
 nr : ∃ t, mg "NO_ROOM" = some (.int (-3) t)
 nn : ∃ t, mg "NOT_NOW" = some (.int (-4) t)
 an : ∃ t, mg "ASKED_NEXT" = some (.int 1 t)
 ch : ∃ t, mg "CHOSEN" = some (.int 2 t)
 nf : ∃ t, mg "NOTHING_FITS" = some (.int 3 t)
 mki : ∃ t, mg "MOST_KINDS" = some (.int 16 t)
 mc : ∃ t, mg "MOST_CONSTRUCTORS" = some (.int 16 t)
 mf : ∃ t, mg "MOST_FIELDS" = some (.int 4 t)
 ml : ∃ t, mg "MOST_CLAUSES" = some (.int 32 t)
 mn : ∃ t, mg "MOST_NUMBERS" = some (.int 64 t)
 mv : ∃ t, mg "MOST_VALUE_NUMBERS" = some (.int 1024 t)
 any_ : ∃ t, mg "ANYTHING" = some (.int 255 t)
 range_ : mg "range" = none
def OpenAt (K : W.Frag) (H : Hp) (cs : List Addr) (mv : V) : Option (Nat × List Pat) -> Prop
 | none => mv = .non
 | some x => mv = nI x.1 /\ Paired (fun b r => TN K H b r) cs (x.2.map MC.txt)
def DeskAt (K : W.Frag) (C : Addr) (H : Hp) (d : Addr) (fp : List Addr) (s : Pcheck.State) : Prop :=
 ∃ (dx kk cc : Addr) (ks cs : List Addr) (mv : V), fp = d :: kk :: cc :: ks /\ (kk :: cc :: ks).Nodup /\ H d = some (.ins C dx (deskF (.ref kk) mv (.ref cc))) /\ H kk = some (.lst (ks.map V.ref)) /\ H cc = some (.lst (cs.map V.ref)) /\
  Paired (fun c x => ConsAt K H c x) ks s.types /\ OpenAt K H cs mv s.opened
theorem ConsAt.tups {K : W.Frag} {H H' : Hp} {c : Addr} {cs : List (List Nat)} (h : ConsAt K H c cs) (e : Tups H H') (k : ∀ o, H c = some o -> H' c = some o) : ConsAt K H' c cs := by
 obtain ⟨ts, h1, h2⟩ := h
 exact ⟨ts, k _ h1, L2.Paired.imp' (fun t fs x => e.tup x) h2⟩
theorem OpenAt.tups {K : W.Frag} {H H' : Hp} {cs : List Addr} {mv : V} : ∀ {o : Option (Nat × List Pat)}, OpenAt K H cs mv o -> Tups H H' -> OpenAt K H' cs mv o
 | none, h, _ => h
 | some _, h, e => ⟨h.1, L2.Paired.imp' (fun t fs x => e.tup x) h.2⟩
theorem paired_mem {α β : Type} {F G : α -> β -> Prop} : ∀ {l : List α} {m : List β}, Paired F l m -> (∀ a b, a ∈ l -> F a b -> G a b) -> Paired G l m
 | _, _, .nil, _ => .nil
 | _, _, .cons r t, h => .cons (h _ _ List.mem_cons_self r) (paired_mem t fun a b ha => h a b (List.mem_cons_of_mem _ ha))
theorem DeskAt.frame {K : W.Frag} {C : Addr} {H H' : Hp} {d : Addr} {fp : List Addr} {s : Pcheck.State} (D : DeskAt K C H d fp s) (t : Tups H H') (k : ∀ b o, b ∈ fp -> H b = some o -> H' b = some o) : DeskAt K C H' d fp s := by
 obtain ⟨dx, kk, cc, ks, cs, mv, rfl, nd, h1, h2, h3, h4, h5⟩ := D
 exact ⟨dx, kk, cc, ks, cs, mv, rfl, nd, k _ _ (by simp) h1, k _ _ (by simp) h2, k _ _ (by simp) h3, paired_mem h4 fun a b ha x => x.tups t fun o ho => k _ _ (by simp [ha]) ho, h5.tups t⟩
theorem DeskAt.same {K : W.Frag} {C : Addr} {H H' : Hp} {d : Addr} {fp : List Addr} {s : Pcheck.State} (D : DeskAt K C H d fp s) (e : Same H H') : DeskAt K C H' d fp s := D.frame e.tups fun b o _ h => e b o h
def Told (K : W.Frag) (C d : Addr) (z : Pcheck.State × Pcheck.Ans) (H : Hp) (fp : List Addr) (Q : VK) : Prop :=
 ∀ (H' : Hp) (fp' : List Addr) (p : Addr), DeskAt K C H' d fp' z.1 -> (∀ b o, H b = some o -> b ∉ fp -> H' b = some o) -> (∀ b ∈ fp', b ∈ fp ∨ H b = none) -> H p = none -> H' p = some (.lst ((PcheckNeutral.told z.2).map V.int)) -> Q (.ref p) H'
theorem Told.new {K : W.Frag} {C d : Addr} {z : Pcheck.State × Pcheck.Ans} {H H1 : Hp} {fp : List Addr} {Q : VK} {p : Addr} {xs : List V} (k : Told K C d z H fp Q) (D : DeskAt K C H d fp z.1) (s : Same H H1) (hp : H1 p = none) (e : xs = (PcheckNeutral.told z.2).map V.int) : Q (.ref p) (upd H1 p (.lst xs)) := by
 have s2 := s.trans (same_new (o := .lst xs) hp)
 exact k _ fp p (D.same s2) (fun b o h _ => s2 b o h) (fun b h => .inl h) (s.free hp) (by rw [upd_same, e])
theorem Told.old {K : W.Frag} {C d : Addr} {z : Pcheck.State × Pcheck.Ans} {H H1 : Hp} {fp : List Addr} {Q : VK} {p : Addr} {xs : List V} (k : Told K C d z H fp Q) (D : DeskAt K C H d fp z.1) (s : Same H H1) (hp : H p = none) (h1 : H1 p = some (.lst xs)) (e : xs = (PcheckNeutral.told z.2).map V.int) : Q (.ref p) H1 :=
 k _ fp p (D.same s) (fun b o h _ => s b o h) (fun b h => .inl h) hp (by rw [h1, e])
def spM (K : W.Frag) (C : Addr) (args : Hp -> List V -> Pcheck.Call -> Prop) : Sp := fun vs H Q _ => ∃ (d : Addr) (rest : List V) (s : Pcheck.State) (fp : List Addr) (c : Pcheck.Call), vs = .ref d :: rest /\ args H rest c /\ DeskAt K C H d fp s /\ MC.StOk s /\ (MC.rowOf c).length <= 2048 /\
 Told K C d (Pcheck.step s c) H fp Q
end D
set_option Elab.async false
set_option linter.all false
set_option maxRecDepth 100000
set_option maxHeartbeats 2000000
namespace D
open PySem PySem.Spec PyProof.Rows L2
open Pc (Types consOf Pat)
abbrev dm (i : Nat) : Stmt := inClass (top 41) i
def spDI (C : Addr) : Sp := fun vs H Q _ => ∃ (p dx : Addr), vs = [.ref p] /\ H p = some (.ins C dx []) /\ ∀ (H' : Hp) (kk cc : Addr), H' p = some (.ins C dx (deskF (.ref kk) .non (.ref cc))) -> H' kk = some (.lst []) -> H' cc = some (.lst []) -> kk ≠ cc -> H kk = none -> H cc = none ->
 (∀ b o, H b = some o -> b ≠ p -> H' b = some o) -> Q .non H'
section
variable {P : Program} {w : World} {K : W.Frag} {mg : Str -> Option Value} {base : Heap}
theorem scDI : FnScope ["self"] ["self"] (defScope (dm 0)) := ⟨rfl, rfl, rfl, by decide +kernel, rfl, by decide +kernel, by decide +kernel⟩
theorem ok_di {f C : Addr} {fd : FuncData} (F : Fun K "__init__" "Desk.__init__" (dm 0) f fd) (T : DeskTxt K mg C) : FnOk P w K mg base CX0 1 f fd ["self"] (spDI C) := by
 refine F.ok scDI (fun vs H Q E h => ?_) (fun cdv A outer s H vs Q E hr h => ?_)
 ·obtain ⟨p, dx, rfl, _⟩ := h
  rfl
 ·obtain ⟨p, dx, rfl, hp, q⟩ := h
  refine ⟨_, pss_cons (ps_fld (pv 0) (pe_lst pa_nil) rfl) (pss_cons (ps_fld (pv 0) pe_non rfl) (pss_one (ps_fld (pv 0) (pe_lst pa_nil) rfl))), ?_⟩
  refine ⟨(by show 0 <= sizeLine; decide), fun kk hk => ?_⟩
  have pk : p ≠ kk := ne_of_none hp hk
  refine ⟨_, rfl, p, C, dx, [], rfl, by rw [upd_ne pk]; exact hp, T.cl, T.nK, (by show 0 < 1000; decide), ?_⟩
  refine ⟨_, rfl, p, C, dx, _, rfl, upd_same, T.cl, T.nM, (by show 1 < 1000; decide), ?_⟩
  refine ⟨(by show 0 <= sizeLine; decide), fun cc hc => ?_⟩
  have pc : p ≠ cc := ne_of_none upd_same hc
  refine ⟨_, rfl, p, C, dx, _, rfl, by rw [upd_ne pc]; exact upd_same, T.cl, T.nC, ?_, ?_⟩
  ·exact Nat.lt_of_le_of_lt (length_putF _ _ _) (Nat.lt_of_le_of_lt (Nat.add_le_add_right (length_putF _ _ _) 1) (by show 2 < 1000; decide))
  have hc0 : cc ≠ kk /\ H cc = none := by
   rw [upd_ne (Ne.symm pc), upd_ne (Ne.symm pc)] at hc
   have ck : cc ≠ kk := by
    rintro rfl
    rw [upd_same] at hc
    cases hc
   rw [upd_ne ck] at hc
   exact ⟨ck, hc⟩
  refine q _ kk cc upd_same ?_ ?_ (Ne.symm hc0.1) hk hc0.2 fun b o e hb => ?_
  ·rw [upd_ne (Ne.symm pk), upd_ne (Ne.symm hc0.1), upd_ne (Ne.symm pk), upd_ne (Ne.symm pk)]
   exact upd_same
  ·rw [upd_ne (Ne.symm pc)]
   exact upd_same
  ·rw [upd_ne hb, upd_ne (ne_of_none e hc0.2), upd_ne hb, upd_ne hb, upd_ne (ne_of_none e hk)]
   exact e
def arT : Hp -> List V -> Pcheck.Call -> Prop := fun _ rest c => rest = [] /\ c = .type_
theorem scAK : FnScope ["self"] ["self"] (defScope (dm 1)) := ⟨rfl, rfl, rfl, by decide +kernel, rfl, by decide +kernel, by decide +kernel⟩
theorem ok_ak {f C : Addr} {fd : FuncData} (F : Fun K "add_kind" "Desk.add_kind" (dm 1) f fd) (T : Bl mg) (S : DeskTxt K mg C) (N : Cn mg) : FnOk P w K mg base CX0 1 f fd ["self"] (spM K C arT) := by
 obtain ⟨t1, nn⟩ := N.nn
 obtain ⟨t2, nr⟩ := N.nr
 obtain ⟨t3, mk⟩ := N.mki
 refine F.ok scAK (fun vs H Q E h => ?_) (fun cdv A outer s0 H vs Q E hr h => ?_)
 ·obtain ⟨d, rest, s, fp, c, rfl, ⟨rfl, _⟩, _⟩ := h
  rfl
 ·obtain ⟨d, rest, s, fp, c, rfl, ⟨rfl, rfl⟩, hD, ok, hz, k⟩ := h
  refine ⟨_, pss_cons (ps_if (pt_cmpR op_notN (pe_fld (pv 0) rfl) pe_non (nomark _)) (pss_one (ps_ret (pe_lst (pa_cons (pe_glob (v := V.int (-4)) (by rfl) nn ⟨_, rfl⟩) pa_nil)))) pss_nil)
   (pss_cons (ps_if (pt_cmpR op_ge (pe_callB call_len_seq (by rfl) T.len_ PySem.boot_len (pa_cons (pe_fld (pv 0) rfl) pa_nil)) (pe_glob (v := V.int 16) (by rfl) mk ⟨_, rfl⟩) (nomark _)) (pss_one (ps_ret (pe_lst (pa_cons (pe_glob (v := V.int (-3)) (by rfl) nr ⟨_, rfl⟩) pa_nil)))) pss_nil)
   (pss_cons (ps_expr (pe_bm PySem.F.plainAttrs_list PySem.F.slot_list_append PySem.F.type_list_append mt_append (pe_fld (pv 0) rfl) (pa_cons (pe_lst pa_nil) pa_nil)))
   (pss_one (ps_ret (pe_lst (pa_cons (pe_op op_sub (pe_callB call_len_seq (by rfl) T.len_ PySem.boot_len (pa_cons (pe_fld (pv 0) rfl) pa_nil)) pe_int) pa_nil)))))), ?_⟩
  obtain ⟨dx, kk, cc, ks, cs, mv, rfl, nd, h1, h2, h3, h4, h5⟩ := id hD
  have kl : ks.length = s.types.length := Paired.length h4
  refine ⟨_, rfl, d, C, dx, _, _, rfl, h1, S.cl, S.nM, deskF_matched _ _ _, rfl, _, rfl, ?_⟩
  unfold Pcheck.step at k
  simp only at k
  cases ho : s.opened with
  | some x =>
   rw [ho] at h5 k
   obtain ⟨rfl, _⟩ := h5
   rw [if_pos (show (some x).isSome = true from rfl)] at k
   exact ⟨(by show 1 <= sizeLine; decide), fun p hp => k.new hD (Same.refl H) hp rfl⟩
  | none =>
   rw [ho] at h5 k
   have h5 : mv = .non := h5
   subst h5
   rw [if_neg (show ¬ (none : Option (Nat × List Pat)).isSome = true from Bool.false_ne_true)] at k
   refine ⟨_, rfl, d, C, dx, _, _, rfl, h1, S.cl, S.nK, deskF_kinds _ _ _, kk, _, rfl, .inl (SqL.of h2), _, _, rfl, rfl, _, rfl, ?_⟩
   rw [List.length_map, kl]
   by_cases hge : (16 : Int) <= ((s.types.length : Nat) : Int)
   ·show if decide ((16 : Int) <= ((s.types.length : Nat) : Int)) = true then _ else _
    rw [decide_eq_true hge]
    rw [if_pos (by show 16 <= s.types.length; omega)] at k
    exact ⟨(by show 1 <= sizeLine; decide), fun p hp => k.new hD (Same.refl H) hp rfl⟩
   ·show if decide ((16 : Int) <= ((s.types.length : Nat) : Int)) = true then _ else _
    rw [decide_eq_false hge]
    have hlt : s.types.length < 16 := by omega
    rw [if_neg (by show ¬ 16 <= s.types.length; omega)] at k
    refine ⟨_, rfl, d, C, dx, _, _, rfl, h1, S.cl, S.nK, deskF_kinds _ _ _, .inl ⟨rfl, _, SqL.of h2⟩, (by show 0 <= sizeLine; decide), fun e he => ?_⟩
    have s1 : Same H (upd H e (.lst [])) := same_new he
    refine ⟨kk, _, _, rfl, rfl, s1 _ _ h2, ?_, ?_⟩
    ·have : (10000000 : Nat) <= sizeLine := by decide
     rw [List.length_map]; omega
    have ndk : d ≠ kk := ne_of h1 h2 (by intro z; cases z)
    have ke : e ≠ kk := Ne.symm (ne_of_none h2 he)
    have hd2 : upd (upd H e (.lst [])) kk (.lst (ks.map V.ref ++ [V.ref e])) d = some (.ins C dx (deskF (.ref kk) .non (.ref cc))) := by rw [upd_ne ndk]; exact s1 _ _ h1
    refine ⟨_, rfl, d, C, dx, _, _, rfl, hd2, S.cl, S.nK, deskF_kinds _ _ _, kk, _, rfl, .inl (SqL.of upd_same), _, _, rfl, rfl, (by show 1 <= sizeLine; decide), fun p hp => ?_⟩
    have s3 := same_new (o := .lst [V.int (((ks.map V.ref ++ [V.ref e]).length : Nat) - 1)]) hp
    have tu : Tups (upd H e (.lst [])) (upd (upd H e (.lst [])) kk (.lst (ks.map V.ref ++ [V.ref e]))) := tups_upd (s1 _ _ h2) (fun xs z => nomatch z) (fun p xs z => nomatch z)
    have nd2 := List.nodup_cons.mp nd
    have nd3 := List.nodup_cons.mp nd2.2
    have ckk : cc ≠ kk := fun q => nd2.1 (by rw [q]; simp)
    have hpH : H p = none := by
     have a : upd H e (.lst []) p = none := by
      rw [upd_ne (fun q => by rw [q, upd_same] at hp; cases hp)] at hp
      exact hp
     exact s1.free a
    have dsk : DeskAt K C (upd (upd H e (.lst [])) kk (.lst (ks.map V.ref ++ [V.ref e]))) d (d :: kk :: cc :: (ks ++ [e])) ⟨s.types ++ [[]], none⟩ := by
     refine ⟨dx, kk, cc, ks ++ [e], cs, .non, rfl, ?_, hd2, ?_, ?_, ?_, ?_⟩
     ·have hk1 : kk ∉ ks := fun q => nd2.1 (List.mem_cons_of_mem _ q)
      have hk2 : cc ∉ ks := nd3.1
      have he1 : e ∉ ks := fun q => by
       obtain ⟨i, hi⟩ := List.getElem?_of_mem q
       obtain ⟨y, _, ts, hts, _⟩ := prd_get h4 hi
       rw [he] at hts
       cases hts
      have he2 : cc ≠ e := ne_of_none h3 he
      refine List.nodup_cons.mpr ⟨?_, List.nodup_cons.mpr ⟨?_, ?_⟩⟩
      ·simp [Ne.symm ckk, hk1, Ne.symm ke]
      ·simp [hk2, he2]
      ·rw [List.nodup_append]
       exact ⟨nd3.2, by simp, fun a ha b hb => by simp at hb; subst hb; exact fun q => he1 (q ▸ ha)⟩
     ·rw [upd_same, List.map_append]; rfl
     ·rw [upd_ne ckk]; exact s1 _ _ h3
     ·refine paired_snoc (paired_mem h4 fun a b ha x => (x.same s1).tups tu fun o hoo => ?_) ⟨[], ?_, .nil⟩
      ·rw [upd_ne (fun q => nd2.1 (by rw [<- q]; exact List.mem_cons_of_mem _ ha))]
       exact hoo
      ·rw [upd_ne ke]; exact upd_same
     ·exact rfl
    refine k _ _ p (dsk.same s3) (fun b o hb hn => s3 _ _ ?_) (fun b hb => ?_) hpH ?_
    ·rw [upd_ne (fun q => hn (by rw [q]; simp))]; exact s1 _ _ hb
    ·simp only [List.mem_cons, List.mem_append, List.not_mem_nil, or_false] at hb
     rcases hb with hb | hb | hb | hb | hb
     ·exact .inl (by simp [hb])
     ·exact .inl (by simp [hb])
     ·exact .inl (by simp [hb])
     ·exact .inl (by simp [hb])
     ·exact .inr (by rw [hb]; exact he)
    ·rw [upd_same]
     have : (((ks.map V.ref ++ [V.ref e]).length : Nat) : Int) - 1 = (s.types.length : Int) := by
      rw [List.length_append, List.length_map, kl]; simp
     show some (HO.lst [V.int ((((ks.map V.ref ++ [V.ref e]).length : Nat) : Int) - 1)]) = _
     rw [this]; rfl
def arN (g : Nat -> Pcheck.Call) : Hp -> List V -> Pcheck.Call -> Prop := fun _ rest c => ∃ n : Nat, rest = [nI n] /\ c = g n
theorem scHV : FnScope ["self", "kind"] ["self", "kind"] (defScope (dm 3)) := ⟨rfl, rfl, rfl, by decide +kernel, rfl, by decide +kernel, by decide +kernel⟩
theorem ok_hv {f C fv : Addr} {fd fdv : FuncData} (F : Fun K "has_value" "Desk.has_value" (dm 3) f fd) (T : Bl mg) (S : DeskTxt K mg C) (N : Cn mg)
  (GV : FnOk P w K mg base CX0 2 fv fdv ["kinds"] (spValued K)) (mV : mg "valued_kinds" = some (.ref fv)) (kV : PySem.W.keepIn K (.ref fv) = true) (bv : Binds K fdv ["kinds"] []) :
  FnOk P w K mg base CX0 3 f fd ["self", "kind"] (spM K C (arN .hasValue)) := by
 obtain ⟨t1, nt⟩ := N.nt
 refine F.ok scHV (fun vs H Q E h => ?_) (fun cdv A outer s0 H vs Q E hr h => ?_)
 ·obtain ⟨d, rest, s, fp, c, rfl, ⟨n, rfl, _⟩, _⟩ := h
  rfl
 ·obtain ⟨d, rest, s, fp, c, rfl, ⟨n, rfl, rfl⟩, hD, ok, hz, k⟩ := h
  have hr2 : Room 2 _ := hr.mono (by decide)
  refine ⟨_, pss_cons (ps_if (pt_cmpR op_ge (pv 1) (pe_callB call_len_seq (by rfl) T.len_ PySem.boot_len (pa_cons (pe_fld (pv 0) rfl) pa_nil)) (nomark _)) (pss_one (ps_ret (pe_lst (pa_cons (pe_glob (v := V.int (-2)) (by rfl) nt ⟨_, rfl⟩) pa_nil)))) pss_nil)
   (pss_one (ps_ret (pe_lst (pa_cons (pe_ifExp (pt_val (pe_ix ix_list (pe_call GV hr2 (by rfl) mV kV bv .nil pass0 (pa_cons (pe_fld (pv 0) rfl) pa_nil)) (pv 1) (fun _ _ => rfl))) pe_int pe_int) pa_nil)))), ?_⟩
  obtain ⟨dx, kk, cc, ks, cs, mv, rfl, nd, h1, h2, h3, h4, h5⟩ := id hD
  have kl : ks.length = s.types.length := Paired.length h4
  unfold Pcheck.step at k
  simp only at k
  refine ⟨_, rfl, _, rfl, d, C, dx, _, _, rfl, h1, S.cl, S.nK, deskF_kinds _ _ _, kk, _, rfl, .inl (SqL.of h2), _, _, rfl, rfl, _, rfl, ?_⟩
  rw [List.length_map, kl]
  by_cases hge : ((s.types.length : Nat) : Int) <= (n : Int)
  ·show if decide (((s.types.length : Nat) : Int) <= (n : Int)) = true then _ else _
   rw [decide_eq_true hge]
   rw [if_pos (by omega)] at k
   exact ⟨(by show 1 <= sizeLine; decide), fun p hp => k.new hD (Same.refl H) hp rfl⟩
  ·show if decide (((s.types.length : Nat) : Int) <= (n : Int)) = true then _ else _
   rw [decide_eq_false hge]
   have hlt : n < s.types.length := by omega
   rw [if_neg (by omega)] at k
   refine ⟨_, rfl, d, C, dx, _, _, rfl, h1, S.cl, S.nK, deskF_kinds _ _ _, kk, s.types, rfl, ⟨ks, h2, h4⟩, ok.ty, fun H1 q s1 e1 => ?_⟩
   have hb : n < (Pc.having s.types s.types.length).length := by rw [MC.having_len]; exact hlt
   refine ⟨_, rfl, q, _, _, V.bl ((Pc.having s.types s.types.length).getD n false), rfl, rfl, SqL.of e1, atI_nat (j := n) ?_, _, rfl, ?_⟩
   ·rw [List.getElem?_map, List.getElem?_eq_getElem hb, List.getD_eq_getElem?_getD, List.getElem?_eq_getElem hb]; rfl
   have eh : Pc.hasValue s.types n = (Pc.having s.types s.types.length).getD n false := rfl
   rw [<- eh]
   cases hv : Pc.hasValue s.types n with
   | true =>
    rw [hv] at k
    exact ⟨(by show 1 <= sizeLine; decide), fun p hp => k.new hD s1 hp rfl⟩
   | false =>
    rw [hv] at k
    exact ⟨(by show 1 <= sizeLine; decide), fun p hp => k.new hD s1 hp rfl⟩
theorem scBe : FnScope ["self", "kind"] ["self", "kind"] (defScope (dm 4)) := ⟨rfl, rfl, rfl, by decide +kernel, rfl, by decide +kernel, by decide +kernel⟩
theorem ok_be {f C : Addr} {fd : FuncData} (F : Fun K "begin" "Desk.begin" (dm 4) f fd) (T : Bl mg) (S : DeskTxt K mg C) (N : Cn mg) : FnOk P w K mg base CX0 1 f fd ["self", "kind"] (spM K C (arN .begin_)) := by
 obtain ⟨t1, nt⟩ := N.nt
 obtain ⟨t2, nn⟩ := N.nn
 refine F.ok scBe (fun vs H Q E h => ?_) (fun cdv A outer s0 H vs Q E hr h => ?_)
 ·obtain ⟨d, rest, s, fp, c, rfl, ⟨n, rfl, _⟩, _⟩ := h
  rfl
 ·obtain ⟨d, rest, s, fp, c, rfl, ⟨n, rfl, rfl⟩, hD, ok, hz, k⟩ := h
  refine ⟨_, pss_cons (ps_if (pt_cmpR op_notN (pe_fld (pv 0) rfl) pe_non (nomark _)) (pss_one (ps_ret (pe_lst (pa_cons (pe_glob (v := V.int (-4)) (by rfl) nn ⟨_, rfl⟩) pa_nil)))) pss_nil)
   (pss_cons (ps_if (pt_cmpR op_ge (pv 1) (pe_callB call_len_seq (by rfl) T.len_ PySem.boot_len (pa_cons (pe_fld (pv 0) rfl) pa_nil)) (nomark _)) (pss_one (ps_ret (pe_lst (pa_cons (pe_glob (v := V.int (-2)) (by rfl) nt ⟨_, rfl⟩) pa_nil)))) pss_nil)
   (pss_cons (ps_fld (pv 0) (pv 1) rfl) (pss_cons (ps_fld (pv 0) (pe_lst pa_nil) rfl)
   (pss_one (ps_ret (pe_lst (pa_cons pe_int pa_nil))))))), ?_⟩
  obtain ⟨dx, kk, cc, ks, cs, mv, rfl, nd, h1, h2, h3, h4, h5⟩ := id hD
  have kl : ks.length = s.types.length := Paired.length h4
  unfold Pcheck.step at k
  simp only at k
  refine ⟨_, rfl, d, C, dx, _, _, rfl, h1, S.cl, S.nM, deskF_matched _ _ _, rfl, _, rfl, ?_⟩
  cases ho : s.opened with
  | some x =>
   rw [ho] at h5 k
   obtain ⟨rfl, _⟩ := h5
   rw [if_pos (show (some x).isSome = true from rfl)] at k
   exact ⟨(by show 1 <= sizeLine; decide), fun p hp => k.new hD (Same.refl H) hp rfl⟩
  | none =>
   rw [ho] at h5 k
   have h5 : mv = .non := h5
   subst h5
   rw [if_neg (show ¬ (none : Option (Nat × List Pat)).isSome = true from Bool.false_ne_true)] at k
   refine ⟨_, rfl, _, rfl, d, C, dx, _, _, rfl, h1, S.cl, S.nK, deskF_kinds _ _ _, kk, _, rfl, .inl (SqL.of h2), _, _, rfl, rfl, _, rfl, ?_⟩
   rw [List.length_map, kl]
   by_cases hge : ((s.types.length : Nat) : Int) <= (n : Int)
   ·show if decide (((s.types.length : Nat) : Int) <= (n : Int)) = true then _ else _
    rw [decide_eq_true hge]
    rw [if_pos (by omega)] at k
    exact ⟨(by show 1 <= sizeLine; decide), fun p hp => k.new hD (Same.refl H) hp rfl⟩
   ·show if decide (((s.types.length : Nat) : Int) <= (n : Int)) = true then _ else _
    rw [decide_eq_false hge]
    rw [if_neg (by omega)] at k
    refine ⟨_, rfl, _, rfl, d, C, dx, _, rfl, h1, S.cl, S.nM, deskF_len _ _ _, ?_⟩
    rw [deskF_putM]
    refine ⟨(by show 0 <= sizeLine; decide), fun e he => ?_⟩
    have de : d ≠ e := ne_of_none upd_same he
    have he0 : H e = none := by rw [upd_ne (Ne.symm de)] at he; exact he
    refine ⟨_, rfl, d, C, dx, _, rfl, by rw [upd_ne de]; exact upd_same, S.cl, S.nC, deskF_len _ _ _, ?_⟩
    rw [deskF_putC]
    have a2 : d ≠ kk := ne_of h1 h2 (by intro z; cases z)
    have keep : ∀ b o, H b = some o -> b ≠ d -> (upd (upd (upd H d (.ins C dx (deskF (.ref kk) (nI n) (.ref cc)))) e (.lst [])) d (.ins C dx (deskF (.ref kk) (nI n) (.ref e)))) b = some o := fun b o hb hn => by
     rw [upd_ne hn, upd_ne (ne_of_none hb he0), upd_ne hn]; exact hb
    have tu : Tups H (upd (upd (upd H d (.ins C dx (deskF (.ref kk) (nI n) (.ref cc)))) e (.lst [])) d (.ins C dx (deskF (.ref kk) (nI n) (.ref e)))) := fun b xs =>
     ⟨fun hb => keep _ _ hb (ne_of hb h1 (by intro z; cases z)), fun o hb => keep _ _ hb (ne_of hb h1 (by intro z; cases z))⟩
    have nd2 := List.nodup_cons.mp nd
    have nd3 := List.nodup_cons.mp nd2.2
    have he1 : e ∉ ks := fun q => by
     obtain ⟨i, hi⟩ := List.getElem?_of_mem q
     obtain ⟨y, _, ts, hts, _⟩ := prd_get h4 hi
     rw [he0] at hts
     cases hts
    have dsk : DeskAt K C (upd (upd (upd H d (.ins C dx (deskF (.ref kk) (nI n) (.ref cc)))) e (.lst [])) d (.ins C dx (deskF (.ref kk) (nI n) (.ref e)))) d (d :: kk :: e :: ks) { s with opened := some (n, []) } := by
     refine ⟨dx, kk, e, ks, [], nI n, rfl, ?_, upd_same, keep _ _ h2 (Ne.symm a2), ?_, ?_, rfl, .nil⟩
     ·refine List.nodup_cons.mpr ⟨?_, List.nodup_cons.mpr ⟨he1, nd3.2⟩⟩
      have : kk ≠ e := ne_of_none h2 he0
      have hk : kk ∉ ks := fun q => nd2.1 (List.mem_cons_of_mem _ q)
      simp [this, hk]
     ·rw [upd_ne (Ne.symm de), upd_same]; rfl
     ·refine paired_mem h4 fun a b ha x => x.tups tu fun o hoo => keep _ _ hoo ?_
      obtain ⟨ts, hts, _⟩ := x
      exact ne_of hts h1 (by intro z; cases z)
    refine ⟨(by show 1 <= sizeLine; decide), fun p hp => ?_⟩
    have s3 := same_new (o := .lst [V.int 0]) hp
    refine k _ _ p (dsk.same s3) (fun b o hb hn => s3 _ _ (keep b o hb fun q => hn (by rw [q]; simp))) (fun b hb => ?_) ?_ upd_same
    ·simp only [List.mem_cons] at hb
     rcases hb with hb | hb | hb | hb
     ·exact .inl (by simp [hb])
     ·exact .inl (by simp [hb])
     ·exact .inr (by rw [hb]; exact he0)
     ·exact .inl (by simp [hb])
    ·have pd : p ≠ d := fun q => by rw [q, upd_same] at hp; cases hp
     rw [upd_ne pd] at hp
     have pe : p ≠ e := fun q => by rw [q, upd_same] at hp; cases hp
     rw [upd_ne pe, upd_ne pd] at hp
     exact hp
def ar0 (g : Pcheck.Call) : Hp -> List V -> Pcheck.Call -> Prop := fun _ rest c => rest = [] /\ c = g
theorem scEn : FnScope ["self"] ["self"] (defScope (dm 13)) := ⟨rfl, rfl, rfl, by decide +kernel, rfl, by decide +kernel, by decide +kernel⟩
theorem ok_en {f C : Addr} {fd : FuncData} (F : Fun K "end" "Desk.end" (dm 13) f fd) (T : Bl mg) (S : DeskTxt K mg C) (N : Cn mg) : FnOk P w K mg base CX0 1 f fd ["self"] (spM K C (ar0 .end_)) := by
 obtain ⟨t2, nn⟩ := N.nn
 refine F.ok scEn (fun vs H Q E h => ?_) (fun cdv A outer s0 H vs Q E hr h => ?_)
 ·obtain ⟨d, rest, s, fp, c, rfl, ⟨rfl, _⟩, _⟩ := h
  rfl
 ·obtain ⟨d, rest, s, fp, c, rfl, ⟨rfl, rfl⟩, hD, ok, hz, k⟩ := h
  refine ⟨_, pss_cons (ps_if (pt_cmpR op_isN (pe_fld (pv 0) rfl) pe_non (nomark _)) (pss_one (ps_ret (pe_lst (pa_cons (pe_glob (v := V.int (-4)) (by rfl) nn ⟨_, rfl⟩) pa_nil)))) pss_nil)
   (pss_cons (ps_fld (pv 0) pe_non rfl)
   (pss_one (ps_ret (pe_lst (pa_cons pe_int pa_nil))))), ?_⟩
  obtain ⟨dx, kk, cc, ks, cs, mv, rfl, nd, h1, h2, h3, h4, h5⟩ := id hD
  unfold Pcheck.step Pcheck.ofMatch at k
  simp only at k
  refine ⟨_, rfl, d, C, dx, _, _, rfl, h1, S.cl, S.nM, deskF_matched _ _ _, rfl, _, rfl, ?_⟩
  cases ho : s.opened with
  | none =>
   rw [ho] at h5 k
   have h5 : mv = .non := h5
   subst h5
   exact ⟨(by show 1 <= sizeLine; decide), fun p hp => k.new hD (Same.refl H) hp rfl⟩
  | some x =>
   rw [ho] at h5 k
   obtain ⟨rfl, _⟩ := h5
   show if decide (nI x.1 = V.non) = true then _ else _
   rw [show decide (nI x.1 = V.non) = false from rfl]
   refine ⟨_, rfl, d, C, dx, _, rfl, h1, S.cl, S.nM, deskF_len _ _ _, ?_⟩
   rw [deskF_putM]
   have tu : Tups H (upd H d (.ins C dx (deskF (.ref kk) .non (.ref cc)))) := tups_upd h1 (fun xs z => nomatch z) (fun p xs z => nomatch z)
   have a2 : d ≠ kk := ne_of h1 h2 (by intro z; cases z)
   have a3 : d ≠ cc := ne_of h1 h3 (by intro z; cases z)
   have dsk : DeskAt K C (upd H d (.ins C dx (deskF (.ref kk) .non (.ref cc)))) d (d :: kk :: cc :: ks) { s with opened := none } := by
    refine ⟨dx, kk, cc, ks, cs, .non, rfl, nd, upd_same, by rw [upd_ne (Ne.symm a2)]; exact h2, by rw [upd_ne (Ne.symm a3)]; exact h3, ?_, rfl⟩
    refine paired_mem h4 fun a b ha x => x.tups tu fun o hoo => ?_
    obtain ⟨ts, hts, _⟩ := x
    rw [upd_ne (ne_of hts h1 (by intro z; cases z))]
    exact hoo
   refine ⟨(by show 1 <= sizeLine; decide), fun p hp => ?_⟩
   have s3 := same_new (o := .lst [V.int 0]) hp
   refine k _ _ p (dsk.same s3) (fun b o hb hn => s3 _ _ (by rw [upd_ne (fun q => hn (by rw [q]; simp))]; exact hb)) (fun b hb => .inl hb) ?_ upd_same
   rw [upd_ne (fun q => by rw [q, upd_same] at hp; cases hp)] at hp
   exact hp
end
end D
set_option Elab.async false
set_option linter.all false
set_option maxRecDepth 100000
set_option maxHeartbeats 2000000
namespace D
open PySem PySem.Spec PyProof.Rows L2
open Pc (Types consOf Pat)
section
variable {P : Program} {w : World} {K : W.Frag} {mg : Str -> Option Value} {base : Heap}
theorem prd_len {α β : Type} {F : α -> β -> Prop} {l : List α} {m : List β} (h : Paired F l m) : l.length = m.length := Paired.length h
theorem paired_erase {α β : Type} {F : α -> β -> Prop} : ∀ {l : List α} {m : List β}, Paired F l m -> ∀ i : Nat, Paired F (l.eraseIdx i) (m.eraseIdx i)
 | _, _, .nil, i => by simp; exact .nil
 | _, _, .cons r t, 0 => t
 | _, _, .cons r t, i + 1 => .cons r (paired_erase t i)
theorem erase_map {α β : Type} (f : α -> β) : ∀ (l : List α) (i : Nat), (l.map f).eraseIdx i = (l.eraseIdx i).map f
 | [], i => by simp
 | a :: l, 0 => by simp
 | a :: l, i + 1 => by simp [erase_map f l i]
theorem paired_set {α β : Type} {F G : α -> β -> Prop} : ∀ {l : List α} {m : List β} {t : Nat} {c : α} {y : β}, Paired F l m -> l.Nodup -> l[t]? = some c -> (∀ a b, a ∈ l -> a ≠ c -> F a b -> G a b) -> G c y -> Paired G l (m.set t y)
 | _, _, t, c, y, .nil, _, e, _, _ => by simp at e
 | _, _, 0, c, y, .cons (a := a) r t, nd, e, h, g => by
  have e' : a = c := by simpa using e
  subst e'
  have nd' := List.nodup_cons.mp nd
  exact .cons g (paired_mem t fun a' b ha => h a' b (List.mem_cons_of_mem _ ha) fun q => nd'.1 (q ▸ ha))
 | _, _, i + 1, c, y, .cons (a := a) (b := b) r t, nd, e, h, g => by
  have nd' := List.nodup_cons.mp nd
  have e' := (by simpa using e : _)
  refine .cons (h _ _ List.mem_cons_self (fun q => nd'.1 (q ▸ List.mem_of_getElem? e')) r) (paired_set t nd'.2 e' (fun a' b ha => h a' b (List.mem_cons_of_mem _ ha)) g)
theorem DeskAt.clauses {C : Addr} {H : Hp} {d dx kk cc : Addr} {ks cs cs' : List Addr} {t : Nat} {cl cl' : List Pat} {T : Types} (nd : (kk :: cc :: ks).Nodup) (h1 : H d = some (.ins C dx (deskF (.ref kk) (nI t) (.ref cc)))) (h2 : H kk = some (.lst (ks.map V.ref))) (h3 : H cc = some (.lst (cs.map V.ref)))
  (h4 : Paired (fun c x => ConsAt K H c x) ks T) (h5 : Paired (fun b r => TN K H b r) cs' (cl'.map MC.txt)) : DeskAt K C (upd H cc (.lst (cs'.map V.ref))) d (d :: kk :: cc :: ks) ⟨T, some (t, cl')⟩ := by
 have tu : Tups H (upd H cc (.lst (cs'.map V.ref))) := tups_upd h3 (fun xs z => nomatch z) (fun p xs z => nomatch z)
 have nd2 := List.nodup_cons.mp nd
 have nd3 := List.nodup_cons.mp nd2.2
 have ckk : kk ≠ cc := fun q => nd2.1 (by rw [q]; simp)
 refine ⟨dx, kk, cc, ks, cs', nI t, rfl, nd, by rw [upd_ne (ne_of h1 h3 (by intro z; cases z))]; exact h1, by rw [upd_ne ckk]; exact h2, upd_same, ?_, rfl, L2.Paired.imp' (fun b r x => x.tups tu) h5⟩
 refine paired_mem h4 fun a b ha x => x.tups tu fun o hoo => ?_
 rw [upd_ne (show a ≠ cc from fun q => nd3.1 (q ▸ ha))]
 exact hoo
theorem scDr : FnScope ["self", "number"] ["self", "number"] (defScope (dm 12)) := ⟨rfl, rfl, rfl, by decide +kernel, rfl, by decide +kernel, by decide +kernel⟩
theorem ok_dr {f C : Addr} {fd : FuncData} (F : Fun K "drop" "Desk.drop" (dm 12) f fd) (T : Bl mg) (S : DeskTxt K mg C) (N : Cn mg) : FnOk P w K mg base CX0 1 f fd ["self", "number"] (spM K C (arN .drop)) := by
 obtain ⟨t1, nt⟩ := N.nt
 obtain ⟨t2, nn⟩ := N.nn
 refine F.ok scDr (fun vs H Q E h => ?_) (fun cdv A outer s0 H vs Q E hr h => ?_)
 ·obtain ⟨d, rest, s, fp, c, rfl, ⟨n, rfl, _⟩, _⟩ := h
  rfl
 ·obtain ⟨d, rest, s, fp, c, rfl, ⟨n, rfl, rfl⟩, hD, ok, hz, k⟩ := h
  refine ⟨_, pss_cons (ps_if (pt_cmpR op_isN (pe_fld (pv 0) rfl) pe_non (nomark _)) (pss_one (ps_ret (pe_lst (pa_cons (pe_glob (v := V.int (-4)) (by rfl) nn ⟨_, rfl⟩) pa_nil)))) pss_nil)
   (pss_cons (ps_if (pt_cmpR op_ge (pv 1) (pe_callB call_len_seq (by rfl) T.len_ PySem.boot_len (pa_cons (pe_fld (pv 0) rfl) pa_nil)) (nomark _)) (pss_one (ps_ret (pe_lst (pa_cons (pe_glob (v := V.int (-2)) (by rfl) nt ⟨_, rfl⟩) pa_nil)))) pss_nil)
   (pss_cons (ps_expr (pe_bm PySem.F.plainAttrs_list PySem.F.slot_list_pop PySem.F.type_list_pop mt_popAt (pe_fld (pv 0) rfl) (pa_cons (pv 1) pa_nil)))
   (pss_one (ps_ret (pe_lst (pa_cons (pe_callB call_len_seq (by rfl) T.len_ PySem.boot_len (pa_cons (pe_fld (pv 0) rfl) pa_nil)) pa_nil)))))), ?_⟩
  obtain ⟨dx, kk, cc, ks, cs, mv, rfl, nd, h1, h2, h3, h4, h5⟩ := id hD
  unfold Pcheck.step Pcheck.ofMatch at k
  simp only at k
  refine ⟨_, rfl, d, C, dx, _, _, rfl, h1, S.cl, S.nM, deskF_matched _ _ _, rfl, _, rfl, ?_⟩
  cases ho : s.opened with
  | none =>
   rw [ho] at h5 k
   have h5 : mv = .non := h5
   subst h5
   exact ⟨(by show 1 <= sizeLine; decide), fun p hp => k.new hD (Same.refl H) hp rfl⟩
  | some x =>
   obtain ⟨t, cl⟩ := x
   rw [ho] at h5 k
   obtain ⟨rfl, h5⟩ := h5
   simp only at k h5
   have cn : cs.length = cl.length := by rw [prd_len h5, List.length_map]
   obtain ⟨_, _, _, z4⟩ := ok.op t cl ho
   show if decide (nI t = V.non) = true then _ else _
   rw [show decide (nI t = V.non) = false from rfl]
   refine ⟨_, rfl, _, rfl, d, C, dx, _, _, rfl, h1, S.cl, S.nC, deskF_clauses _ _ _, cc, _, rfl, .inl (SqL.of h3), _, _, rfl, rfl, _, rfl, ?_⟩
   rw [List.length_map, cn]
   by_cases hge : ((cl.length : Nat) : Int) <= (n : Int)
   ·show if decide (((cl.length : Nat) : Int) <= (n : Int)) = true then _ else _
    rw [decide_eq_true hge]
    rw [if_pos (by omega)] at k
    exact ⟨(by show 1 <= sizeLine; decide), fun p hp => k.new hD (Same.refl H) hp rfl⟩
   ·show if decide (((cl.length : Nat) : Int) <= (n : Int)) = true then _ else _
    rw [decide_eq_false hge]
    rw [if_neg (by omega)] at k
    have hlt : n < cs.length := by omega
    refine ⟨_, rfl, d, C, dx, _, _, rfl, h1, S.cl, S.nC, deskF_clauses _ _ _, .inl ⟨rfl, _, SqL.of h3⟩, _, rfl, cc, _, (n : Int), n, V.ref cs[n], rfl, rfl, h3, by omega, by omega, ?_, ?_, ?_⟩
    ·exact seqIndex_of (by omega) (by rw [List.length_map]; omega)
    ·rw [List.getElem?_map, List.getElem?_eq_getElem hlt]; rfl
    rw [erase_map]
    have dsk := DeskAt.clauses (K := K) (cl := cl) (cs' := cs.eraseIdx n) (cl' := cl.eraseIdx n) nd h1 h2 h3 h4 (by rw [<- erase_map]; exact paired_erase h5 n)
    have hd2 : upd H cc (.lst ((cs.eraseIdx n).map V.ref)) d = some (.ins C dx (deskF (.ref kk) (nI t) (.ref cc))) := by rw [upd_ne (ne_of h1 h3 (by intro z; cases z))]; exact h1
    refine ⟨_, rfl, d, C, dx, _, _, rfl, hd2, S.cl, S.nC, deskF_clauses _ _ _, cc, _, rfl, .inl (SqL.of upd_same), (by show 1 <= sizeLine; decide), fun p hp => ?_⟩
    have s3 := same_new (o := .lst [V.int (((cs.eraseIdx n).map V.ref).length : Nat)]) hp
    refine k _ _ p (dsk.same s3) (fun b o hb hn => s3 _ _ (by rw [upd_ne (fun q => hn (by rw [q]; simp))]; exact hb)) (fun b hb => .inl hb) ?_ ?_
    ·rw [upd_ne (fun q => by rw [q, upd_same] at hp; cases hp)] at hp
     exact hp
    ·rw [upd_same, List.length_map, List.length_eraseIdx_of_lt hlt, cn]; rfl
def arR (K : W.Frag) (g : List Nat -> Pcheck.Call) : Hp -> List V -> Pcheck.Call -> Prop := fun H rest c => ∃ (a : Addr) (l : List Nat), rest = [.ref a] /\ TN K H a l /\ c = g l
theorem scAC : FnScope ["self", "pattern", "numbers", "clause"] ["self", "pattern"] (defScope (dm 5)) := ⟨rfl, rfl, rfl, by decide +kernel, rfl, by decide +kernel, by decide +kernel⟩
theorem sum_sizes : ∀ cl : List Pat, ((cl.map MC.txt).map fun r => ((r.length : Nat) : Int)).sum = ((MC.sizes cl : Nat) : Int)
 | [] => rfl
 | p :: cl => by
  have ih := sum_sizes cl
  simp only [List.map_cons, List.sum_cons, ih]
  unfold MC.sizes
  simp
theorem ok_ac {f C fp_ : Addr} {fd fdp : FuncData} (F : Fun K "add_clause" "Desk.add_clause" (dm 5) f fd) (T : Bl mg) (S : DeskTxt K mg C) (N : Cn mg)
  (GP : FnOk P w K mg base CX0 1 fp_ fdp ["kinds", "kind", "numbers"] (spIsPat K)) (mP : mg "is_pattern" = some (.ref fp_)) (kP : PySem.W.keepIn K (.ref fp_) = true) (bp : Binds K fdp ["kinds", "kind", "numbers"] []) :
  FnOk P w K mg base CX0 2 f fd ["self", "pattern"] (spM K C (arR K .clause)) := by
 obtain ⟨t1, nt⟩ := N.nt
 obtain ⟨t2, nn⟩ := N.nn
 obtain ⟨t3, nr⟩ := N.nr
 obtain ⟨t4, ml⟩ := N.ml
 obtain ⟨t5, mn⟩ := N.mn
 refine F.ok scAC (fun vs H Q E h => ?_) (fun cdv A outer s0 H vs Q E hr h => ?_)
 ·obtain ⟨d, rest, s, fp, c, rfl, ⟨a, l, rfl, _⟩, _⟩ := h
  rfl
 ·obtain ⟨d, rest, s, fp, c, rfl, ⟨a, l, rfl, ha, rfl⟩, hD, ok, hz, k⟩ := h
  have hr1 : Room 1 _ := hr.mono (by decide)
  refine ⟨_, pss_cons (ps_if (pt_cmpR op_isN (pe_fld (pv 0) rfl) pe_non (nomark _)) (pss_one (ps_ret (pe_lst (pa_cons (pe_glob (v := V.int (-4)) (by rfl) nn ⟨_, rfl⟩) pa_nil)))) pss_nil)
   (pss_cons (ps_set (i := 2) scAC.nd rfl (Or.inl rfl) (pe_op op_add (pe_callB (cr_sum rfl) (by rfl) T.sum_ PyProof.Rows.boot_sum (pa_cons (pe_lc rfl scAC.nd (pi_list (pe_fld (pv 0) rfl)) (blkOk_by (own := [("clause", 3)]) (by show blkC ["self", "pattern", "numbers", "clause"] (defScope (dm 5)) _ _ = true; decide +kernel))
     (fun _ _ _ _ _ => pg_name (i := 3) scAC.nd rfl (Or.inl rfl)) (fun _ _ _ _ _ => pts_nil) (fun _ _ _ _ _ => pe_callB (r := rLen K) call_len_seq (by rfl) T.len_ PySem.boot_len (pa_cons (pv 3) pa_nil))) pa_nil)) (pe_callB call_len_seq (by rfl) T.len_ PySem.boot_len (pa_cons (pv 1) pa_nil))))
   (pss_cons (ps_if (PW.pt (pw_or (pt_cmpR op_ge (pe_callB call_len_seq (by rfl) T.len_ PySem.boot_len (pa_cons (pe_fld (pv 0) rfl) pa_nil)) (pe_glob (v := V.int 32) (by rfl) ml ⟨_, rfl⟩) (nomark _)) (pw_or1 (pt_cmpR op_gt (pv 2) (pe_glob (v := V.int 64) (by rfl) mn ⟨_, rfl⟩) (nomark _))))) (pss_one (ps_ret (pe_lst (pa_cons (pe_glob (v := V.int (-3)) (by rfl) nr ⟨_, rfl⟩) pa_nil)))) pss_nil)
   (pss_cons (ps_if (pt_not (pt_val (pe_call GP hr1 (by rfl) mP kP bp .nil pass0 (pa_cons (pe_fld (pv 0) rfl) (pa_cons (pe_fld (pv 0) rfl) (pa_cons (pv 1) pa_nil)))))) (pss_one (ps_ret (pe_lst (pa_cons (pe_glob (v := V.int (-2)) (by rfl) nt ⟨_, rfl⟩) pa_nil)))) pss_nil)
   (pss_cons (ps_expr (pe_bm PySem.F.plainAttrs_list PySem.F.slot_list_append PySem.F.type_list_append mt_append (pe_fld (pv 0) rfl) (pa_cons (pv 1) pa_nil)))
   (pss_one (ps_ret (pe_lst (pa_cons (pe_op op_sub (pe_callB call_len_seq (by rfl) T.len_ PySem.boot_len (pa_cons (pe_fld (pv 0) rfl) pa_nil)) pe_int) pa_nil)))))))), ?_⟩
  obtain ⟨dx, kk, cc, ks, cs, mv, rfl, nd, h1, h2, h3, h4, h5⟩ := id hD
  have lz : l.length <= 2048 := hz
  unfold Pcheck.step Pcheck.ofMatch at k
  simp only at k
  refine ⟨_, rfl, d, C, dx, _, _, rfl, h1, S.cl, S.nM, deskF_matched _ _ _, rfl, _, rfl, ?_⟩
  cases ho : s.opened with
  | none =>
   rw [ho] at h5 k
   have h5 : mv = .non := h5
   subst h5
   exact ⟨(by show 1 <= sizeLine; decide), fun p hp => k.new hD (Same.refl H) hp rfl⟩
  | some x =>
   obtain ⟨t, cl⟩ := x
   rw [ho] at h5 k
   obtain ⟨rfl, h5⟩ := h5
   simp only at k h5
   have cn : cs.length = cl.length := by rw [prd_len h5, List.length_map]
   obtain ⟨z1, z2, z3, z4⟩ := ok.op t cl ho
   rw [MC.sizeOf_eq z3] at k
   show if decide (nI t = V.non) = true then _ else _
   rw [show decide (nI t = V.non) = false from rfl]
   -- sum([len(clause) ..])
   refine ⟨_, rfl, d, C, dx, _, _, rfl, h1, S.cl, S.nC, deskF_clauses _ _ _, cc, rfl, ⟨_, SqL.of h3⟩, fun D hDn => ?_⟩
   refine lc_list (xs := cs.map V.ref) (PvC H D ((cl.map MC.txt).map fun r => some (V.int (r.length : Nat)))) (PvC.start hDn) (fun i H' _ p => SqL.of (p.1 _ _ h3)) (fun i x H2 hx p => ?_) (fun H2 p => ?_)
   ·obtain ⟨b, hb, rfl⟩ := map_get hx
    obtain ⟨r, hr, hbr⟩ := prd_get h5 hb
    refine ⟨rfl, _, rfl, b, _, rfl, .inr (p.1.tup hbr), ?_⟩
    rw [List.length_map]
    refine p.add hDn (Same.refl _) ?_ ?_
    ·rw [List.getElem?_map, hr]; rfl
    ·rw [List.length_map, List.length_map]; omega
   obtain ⟨s2, e2⟩ := p.done (by rw [List.length_map, List.length_map, List.length_map, cn])
   rw [filterMap_some] at e2
   have hc2 := s2 _ _ h3
   have hd2 := s2 _ _ h1
   refine ⟨D, (cl.map MC.txt).map fun r => ((r.length : Nat) : Int), rfl, SqL.of (by rw [e2, List.map_map (g := V.int)]; rfl), _, rfl, a, _, rfl, .inr (s2.tup ha), _, _, rfl, rfl, ?_⟩
   rw [sum_sizes, List.length_map]
   refine ⟨_, rfl, d, C, dx, _, _, rfl, hd2, S.cl, S.nC, deskF_clauses _ _ _, cc, _, rfl, .inl (SqL.of hc2), _, _, rfl, rfl, _, rfl, ?_⟩
   rw [List.length_map, cn]
   by_cases hge : (32 : Int) <= ((cl.length : Nat) : Int)
   ·show if decide ((32 : Int) <= ((cl.length : Nat) : Int)) = true then _ else _
    rw [decide_eq_true hge]
    rw [if_pos (.inl (by show 32 <= cl.length; omega))] at k
    exact ⟨(by show 1 <= sizeLine; decide), fun p hp => k.new hD s2 hp rfl⟩
   show if decide ((32 : Int) <= ((cl.length : Nat) : Int)) = true then _ else _
   rw [decide_eq_false hge]
   refine ⟨_, rfl, _, _, rfl, rfl, _, rfl, ?_⟩
   by_cases hgt : (64 : Int) < ((MC.sizes cl : Nat) : Int) + ((l.length : Nat) : Int)
   ·show if decide ((64 : Int) < ((MC.sizes cl : Nat) : Int) + ((l.length : Nat) : Int)) = true then _ else _
    rw [decide_eq_true hgt]
    rw [if_pos (.inr (by show 64 < MC.sizes cl + l.length; omega))] at k
    exact ⟨(by show 1 <= sizeLine; decide), fun p hp => k.new hD s2 hp rfl⟩
   show if decide ((64 : Int) < ((MC.sizes cl : Nat) : Int) + ((l.length : Nat) : Int)) = true then _ else _
   rw [decide_eq_false hgt]
   rw [if_neg (by show ¬ (32 <= cl.length ∨ 64 < MC.sizes cl + l.length); omega)] at k
   have hkA : KindsAt K H2 kk s.types := KindsAt.same ⟨ks, h2, h4⟩ s2
   refine ⟨_, rfl, d, C, dx, _, _, rfl, hd2, S.cl, S.nK, deskF_kinds _ _ _, _, rfl, d, C, dx, _, _, rfl, hd2, S.cl, S.nM, deskF_matched _ _ _, _, rfl, kk, a, t, l, s.types, rfl, hkA, ok.ty, z1, s2.tup ha, by omega, fun H3 s3 => ⟨_, rfl, ?_⟩⟩
   have s23 := s2.trans s3
   rw [MC.eat_read (MC.few_of ok.ty)]
   cases hq : Pc.readPat s.types t l with
   | none =>
    rw [hq] at k
    exact ⟨(by show 1 <= sizeLine; decide), fun p hp => k.new hD s23 hp rfl⟩
   | some q =>
    rw [hq] at k
    obtain ⟨okq, rfl⟩ := MC.readPat_some hq
    have hd3 := s23 _ _ h1
    have hc3 := s23 _ _ h3
    refine ⟨_, rfl, d, C, dx, _, _, rfl, hd3, S.cl, S.nC, deskF_clauses _ _ _, .inl ⟨rfl, _, SqL.of hc3⟩, _, rfl, cc, _, _, rfl, rfl, hc3, ?_, ?_⟩
    ·have : (10000000 : Nat) <= sizeLine := by decide
     rw [List.length_map]; omega
    have em : cs.map V.ref ++ [V.ref a] = (cs ++ [a]).map V.ref := by simp
    rw [em]
    have dsk := DeskAt.clauses (K := K) (cl := cl) (cs' := cs ++ [a]) (cl' := cl ++ [q]) nd hd3 (s23 _ _ h2) hc3 (L2.Paired.imp' (fun c x h => h.same s23) h4) (by rw [List.map_append]; exact paired_snoc (L2.Paired.imp' (fun c x h => h.same s23) h5) (ha.same s23))
    have hd4 : upd H3 cc (.lst ((cs ++ [a]).map V.ref)) d = some (.ins C dx (deskF (.ref kk) (nI t) (.ref cc))) := by rw [upd_ne (ne_of hd3 hc3 (by intro z; cases z))]; exact hd3
    refine ⟨_, rfl, d, C, dx, _, _, rfl, hd4, S.cl, S.nC, deskF_clauses _ _ _, cc, _, rfl, .inl (SqL.of upd_same), _, _, rfl, rfl, (by show 1 <= sizeLine; decide), fun p hp => ?_⟩
    have s5 := same_new (o := .lst [V.int ((((cs ++ [a]).map V.ref).length : Nat) - 1)]) hp
    refine k _ _ p (dsk.same s5) (fun b o hb hn => s5 _ _ (by rw [upd_ne (fun q => hn (by rw [q]; simp))]; exact s23 _ _ hb)) (fun b hb => .inl hb) ?_ ?_
    ·rw [upd_ne (fun q => by rw [q, upd_same] at hp; cases hp)] at hp
     exact s23.free hp
    ·have : ((((cs ++ [a]).map V.ref).length : Nat) : Int) - 1 = (cl.length : Int) := by
      rw [List.length_map, List.length_append, cn]; simp
     rw [upd_same]
     show some (HO.lst [V.int (((((cs ++ [a]).map V.ref).length : Nat) : Int) - 1)]) = _
     rw [this]; rfl
end
end D
set_option Elab.async false
set_option linter.all false
set_option maxRecDepth 100000
set_option maxHeartbeats 2000000
namespace D
open PySem PySem.Spec PyProof.Rows L2
open Pc (Types consOf Pat)
section
variable {P : Program} {w : World} {K : W.Frag} {mg : Str -> Option Value} {base : Heap}
def arC (K : W.Frag) : Hp -> List V -> Pcheck.Call -> Prop := fun H rest c => ∃ (t : Nat) (a : Addr) (l : List Nat), rest = [nI t, .ref a] /\ TN K H a l /\ c = .con t l
theorem scCon : FnScope ["self", "kind", "fields", "known", "constructors", "field"] ["self", "kind", "fields"] (defScope (dm 2)) := ⟨rfl, rfl, rfl, by decide +kernel, rfl, by decide +kernel, by decide +kernel⟩
theorem ok_con {f C : Addr} {fd : FuncData} (F : Fun K "add_constructor" "Desk.add_constructor" (dm 2) f fd) (T : Bl mg) (S : DeskTxt K mg C) (N : Cn mg) : FnOk P w K mg base CX0 1 f fd ["self", "kind", "fields"] (spM K C (arC K)) := by
 obtain ⟨t1, nt⟩ := N.nt
 obtain ⟨t2, nn⟩ := N.nn
 obtain ⟨t3, nr⟩ := N.nr
 obtain ⟨t4, mf⟩ := N.mf
 obtain ⟨t5, mc⟩ := N.mc
 refine F.ok scCon (fun vs H Q E h => ?_) (fun cdv A outer s0 H vs Q E hr h => ?_)
 ·obtain ⟨d, rest, s, fp, c, rfl, ⟨t, a, l, rfl, _⟩, _⟩ := h
  rfl
 ·obtain ⟨d, rest, s, fp, c, rfl, ⟨t, a, l, rfl, ha, rfl⟩, hD, ok, hz, k⟩ := h
  refine ⟨_, pss_cons (ps_if (pt_cmpR op_notN (pe_fld (pv 0) rfl) pe_non (nomark _)) (pss_one (ps_ret (pe_lst (pa_cons (pe_glob (v := V.int (-4)) (by rfl) nn ⟨_, rfl⟩) pa_nil)))) pss_nil)
   (pss_cons (ps_set (i := 3) scCon.nd rfl (Or.inl rfl) (pe_callB (cr_all rfl) (by rfl) T.all_ PyProof.Rows.boot_all (pa_cons (pe_lc rfl scCon.nd (pi_tup (pe_op op_catS (pe_tup (pa_cons (pv 1) pa_nil)) (pv 2))) (blkOk_by (own := [("field", 5)]) (by show blkC ["self", "kind", "fields", "known", "constructors", "field"] (defScope (dm 2)) _ _ = true; decide +kernel))
     (fun _ _ _ _ _ => pg_name (i := 5) scCon.nd rfl (Or.inl rfl)) (fun _ _ _ _ _ => pts_nil) (fun _ _ _ _ _ => pe_cmpR op_lt (pv 5) (pe_callB (r := rLen K) call_len_seq (by rfl) T.len_ PySem.boot_len (pa_cons (pe_fldB K rfl (pv 0) rfl) pa_nil)) (nomark _))) pa_nil)))
   (pss_cons (ps_if (PW.pt (pw_or (pt_not (pt_val (pv 3))) (pw_or1 (pt_cmpR op_gt (pe_callB call_len_seq (by rfl) T.len_ PySem.boot_len (pa_cons (pv 2) pa_nil)) (pe_glob (v := V.int 4) (by rfl) mf ⟨_, rfl⟩) (nomark _))))) (pss_one (ps_ret (pe_lst (pa_cons (pe_glob (v := V.int (-2)) (by rfl) nt ⟨_, rfl⟩) pa_nil)))) pss_nil)
   (pss_cons (ps_set (i := 4) scCon.nd rfl (Or.inl rfl) (pe_ix ix_list (pe_fld (pv 0) rfl) (pv 1) (fun _ _ => rfl)))
   (pss_cons (ps_if (pt_cmpR op_ge (pe_callB call_len_seq (by rfl) T.len_ PySem.boot_len (pa_cons (pv 4) pa_nil)) (pe_glob (v := V.int 16) (by rfl) mc ⟨_, rfl⟩) (nomark _)) (pss_one (ps_ret (pe_lst (pa_cons (pe_glob (v := V.int (-3)) (by rfl) nr ⟨_, rfl⟩) pa_nil)))) pss_nil)
   (pss_cons (ps_expr (pe_bm PySem.F.plainAttrs_list PySem.F.slot_list_append PySem.F.type_list_append mt_append (pv 4) (pa_cons (pv 2) pa_nil)))
   (pss_one (ps_ret (pe_lst (pa_cons (pe_op op_sub (pe_callB call_len_seq (by rfl) T.len_ PySem.boot_len (pa_cons (pv 4) pa_nil)) pe_int) pa_nil))))))))), ?_⟩
  obtain ⟨dx, kk, cc, ks, cs, mv, rfl, nd, h1, h2, h3, h4, h5⟩ := id hD
  have kl : ks.length = s.types.length := Paired.length h4
  have lz : l.length <= 2048 := hz
  have big : (10000000 : Nat) <= sizeLine := by decide
  unfold Pcheck.step at k
  simp only at k
  refine ⟨_, rfl, d, C, dx, _, _, rfl, h1, S.cl, S.nM, deskF_matched _ _ _, rfl, _, rfl, ?_⟩
  cases ho : s.opened with
  | some x =>
   rw [ho] at h5 k
   obtain ⟨rfl, _⟩ := h5
   rw [if_pos (show (some x).isSome = true from rfl)] at k
   exact ⟨(by show 1 <= sizeLine; decide), fun p hp => k.new hD (Same.refl H) hp rfl⟩
  | none =>
   rw [ho] at h5 k
   have h5 : mv = .non := h5
   subst h5
   rw [if_neg (show ¬ (none : Option (Nat × List Pat)).isSome = true from Bool.false_ne_true)] at k
   -- known
   refine ⟨_, rfl, (by show 1 <= sizeLine; decide), fun pk hpk => ?_⟩
   have s1 : Same H (upd H pk (.tup [nI t])) := same_new hpk
   refine ⟨_, rfl, pk, a, _, _, rfl, rfl, SqT.of upd_same, s1.tup ha, ?_, fun pc H1 s1' hpc => ?_⟩
   ·rw [List.length_map]; simp; omega
   have s01 := s1.trans s1'
   have hpc' : SqT K H1 pc ((t :: l).map nI) := hpc
   refine ⟨pc, rfl, ⟨_, hpc'⟩, fun D hDn => ?_⟩
   refine lc_tup (xs := (t :: l).map nI) (PvC H1 D ((t :: l).map fun x => some (V.bl (decide (x < s.types.length))))) (PvC.start hDn) (fun i H' _ p => p.1.tup hpc') (fun i x H2 hx p => ?_) (fun H2 p => ?_)
   ·obtain ⟨g, hg, rfl⟩ := map_get hx
    refine ⟨rfl, _, rfl, _, rfl, d, C, dx, _, _, rfl, p.1 _ _ (s01 _ _ h1), S.cl, S.nK, deskF_kinds _ _ _, kk, _, rfl, .inl (SqL.of (p.1 _ _ (s01 _ _ h2))), _, _, rfl, rfl, ?_⟩
    rw [List.length_map, kl]
    have e : decide ((g : Int) < ((s.types.length : Nat) : Int)) = decide (g < s.types.length) := by
     rw [decide_eq_decide]; omega
    show ∃ acc, _ /\ _ /\ PvC H1 D _ (i + 1) (upd H2 D (.lst (acc ++ [V.bl (decide ((g : Int) < ((s.types.length : Nat) : Int)))])))
    rw [e]
    refine p.add hDn (Same.refl _) ?_ ?_
    ·rw [List.getElem?_map, hg]; rfl
    ·rw [List.length_map]; simp; omega
   obtain ⟨s2, e2⟩ := p.done (by rw [List.length_map, List.length_map])
   rw [filterMap_some] at e2
   have s02 := s01.trans s2
   refine ⟨D, (t :: l).map fun x => decide (x < s.types.length), rfl, SqL.of (by rw [e2, List.map_map]; rfl), ?_⟩
   have ea : ((t :: l).map fun x => decide (x < s.types.length)).all id = (t :: l).all fun x => decide (x < s.types.length) := by rw [List.all_map]; rfl
   rw [ea]
   refine ⟨_, rfl, _, rfl, ?_⟩
   cases hall : (t :: l).all fun x => decide (x < s.types.length) with
   | false =>
    have hbad : s.types.length <= t ∨ Pcheck.FIELDS < l.length ∨ (l.any fun (f : Nat) => decide (s.types.length <= f)) = true := by
     rw [List.all_cons, Bool.and_eq_false_iff] at hall
     rcases hall with q | q
     ·exact .inl (by simpa using q)
     ·refine .inr (.inr ?_)
      rw [List.all_eq_false] at q
      obtain ⟨y, hy, hq⟩ := q
      rw [List.any_eq_true]
      exact ⟨y, hy, by simpa using hq⟩
    rw [if_pos hbad] at k
    exact ⟨(by show 1 <= sizeLine; decide), fun p hp => k.new hD s02 hp rfl⟩
   | true =>
    refine ⟨_, rfl, a, _, rfl, .inr (s02.tup ha), _, _, rfl, rfl, _, rfl, ?_⟩
    rw [List.length_map]
    by_cases hgt : (4 : Int) < ((l.length : Nat) : Int)
    ·show if decide ((4 : Int) < ((l.length : Nat) : Int)) = true then _ else _
     rw [decide_eq_true hgt]
     rw [if_pos (.inr (.inl (by show 4 < l.length; omega)))] at k
     exact ⟨(by show 1 <= sizeLine; decide), fun p hp => k.new hD s02 hp rfl⟩
    show if decide ((4 : Int) < ((l.length : Nat) : Int)) = true then _ else _
    rw [decide_eq_false hgt]
    rw [List.all_eq_true] at hall
    have hall' : ∀ x ∈ t :: l, x < s.types.length := fun x hx => by simpa using hall x hx
    have ht : t < s.types.length := hall' t List.mem_cons_self
    have hf : ∀ x ∈ l, x < s.types.length := fun x hx => hall' x (List.mem_cons_of_mem _ hx)
    rw [if_neg (by
     intro q
     rcases q with q | q | q
     ·omega
     ·have : 4 < l.length := q
      omega
     ·rw [List.any_eq_true] at q
      obtain ⟨y, hy, hq⟩ := q
      have := hf y hy
      have : s.types.length <= y := by simpa using hq
      omega)] at k
    have hkA : KindsAt K H kk s.types := ⟨ks, h2, h4⟩
    obtain ⟨ks', kc, hka, hkc, hcc⟩ := kind_at hkA ht
    have ek : ks' = ks := by
     rw [h2] at hka
     have := HO.lst.inj (Option.some.inj hka)
     exact (List.map_inj_right (fun x y q => V.ref.inj q)).mp this.symm
    subst ek
    obtain ⟨ts, hts, htp⟩ := id hcc
    have tl : ts.length = (consOf s.types t).length := Paired.length htp
    have hts2 := s02 _ _ hts
    refine ⟨_, rfl, d, C, dx, _, _, rfl, s02 _ _ h1, S.cl, S.nK, deskF_kinds _ _ _, _, rfl, kk, _, _, V.ref kc, rfl, rfl, SqL.of (s02 _ _ h2), atI_nat (j := t) (by rw [List.getElem?_map, hkc]; rfl), ?_⟩
    refine ⟨_, rfl, kc, _, rfl, .inl (SqL.of hts2), _, _, rfl, rfl, _, rfl, ?_⟩
    rw [List.length_map, tl]
    by_cases hge : (16 : Int) <= (((consOf s.types t).length : Nat) : Int)
    ·show if decide ((16 : Int) <= (((consOf s.types t).length : Nat) : Int)) = true then _ else _
     rw [decide_eq_true hge]
     rw [if_pos (by show 16 <= (consOf s.types t).length; omega)] at k
     exact ⟨(by show 1 <= sizeLine; decide), fun p hp => k.new hD s02 hp rfl⟩
    show if decide ((16 : Int) <= (((consOf s.types t).length : Nat) : Int)) = true then _ else _
    rw [decide_eq_false hge]
    rw [if_neg (by show ¬ 16 <= (consOf s.types t).length; omega)] at k
    refine ⟨_, rfl, .inl ⟨rfl, _, SqL.of hts2⟩, _, rfl, kc, _, _, rfl, rfl, hts2, by rw [List.length_map]; omega, ?_⟩
    have em : ts.map V.ref ++ [V.ref a] = (ts ++ [a]).map V.ref := by simp
    rw [em]
    have tu : Tups H2 (upd H2 kc (.lst ((ts ++ [a]).map V.ref))) := tups_upd hts2 (fun xs z => nomatch z) (fun p xs z => nomatch z)
    have nd2 := List.nodup_cons.mp nd
    have nd3 := List.nodup_cons.mp nd2.2
    have kcm : kc ∈ ks' := List.mem_of_getElem? hkc
    have kkc : kk ≠ kc := fun q => nd2.1 (by rw [q]; exact List.mem_cons_of_mem _ kcm)
    have ckc : cc ≠ kc := fun q => nd3.1 (q ▸ kcm)
    have dkc : d ≠ kc := ne_of h1 hts (by intro z; cases z)
    have hmem : kc ∈ d :: kk :: cc :: ks' := List.mem_cons_of_mem _ (List.mem_cons_of_mem _ (List.mem_cons_of_mem _ kcm))
    have dsk : DeskAt K C (upd H2 kc (.lst ((ts ++ [a]).map V.ref))) d (d :: kk :: cc :: ks') ⟨s.types.set t (consOf s.types t ++ [l]), none⟩ := by
     refine ⟨dx, kk, cc, ks', cs, .non, rfl, nd, by rw [upd_ne dkc]; exact s02 _ _ h1, by rw [upd_ne kkc]; exact s02 _ _ h2, by rw [upd_ne ckc]; exact s02 _ _ h3, ?_, ?_⟩
     ·refine paired_set (F := fun c x => ConsAt K H2 c x) (L2.Paired.imp' (fun c x h => h.same s02) h4) nd3.2 hkc (fun x b hx hne h => h.tups tu fun o hoo => by rw [upd_ne hne]; exact hoo) ⟨ts ++ [a], upd_same, ?_⟩
      exact paired_snoc (L2.Paired.imp' (fun c x h => tu.tup (s02.tup h)) htp) (tu.tup (s02.tup ha))
     ·exact rfl
    refine ⟨_, rfl, kc, _, rfl, .inl (SqL.of upd_same), _, _, rfl, rfl, (by show 1 <= sizeLine; decide), fun p hp => ?_⟩
    have s5 := same_new (o := .lst [V.int ((((ts ++ [a]).map V.ref).length : Nat) - 1)]) hp
    refine k _ _ p (dsk.same s5) (fun b o hb hn => s5 _ _ (by rw [upd_ne (fun q => hn (by rw [q]; exact hmem))]; exact s02 _ _ hb)) (fun b hb => .inl hb) ?_ ?_
    ·rw [upd_ne (fun q => by rw [q, upd_same] at hp; cases hp)] at hp
     exact s02.free hp
    ·have : ((((ts ++ [a]).map V.ref).length : Nat) : Int) - 1 = ((consOf s.types t).length : Int) := by
      rw [List.length_map, List.length_append, tl]; simp
     rw [upd_same]
     show some (HO.lst [V.int (((((ts ++ [a]).map V.ref).length : Nat) : Int) - 1)]) = _
     rw [this]; rfl
end
end D
set_option Elab.async false
set_option linter.all false
set_option maxRecDepth 100000
set_option maxHeartbeats 2000000
namespace D
open PySem PySem.Spec PyProof.Rows L2
open Pc (Types consOf Pat)
section
variable {P : Program} {w : World} {K : W.Frag} {mg : Str -> Option Value} {base : Heap}
def FoundAs (K : W.Frag) (H : Hp) (Q : VK) : Option (List Nat) -> Prop
 | none => Q .non H
 | some l => ∀ a, TN K H a l -> Q (.ref a) H
theorem flv_small {T : Types} (ok : TOk T) {t : Nat} {cl : List Pat} {p : Pat} (h : ∀ x ∈ cl, MC.OkP T t x) (hp : MC.OkP T t p) (hs : MC.sizes cl + (MC.txt p).length <= 128) {l : List Nat} (e : MC.flv T (MC.flat (MC.prob t cl p)) = some l) : l.length <= 1000000 := by
 have hh := MC.hgt_start (t := t) hs
 have b : MC.fl T Pc.DEEP (MC.flat (MC.prob t cl p)) = MC.flv T (MC.flat (MC.prob t cl p)) := MC.fl_flv (MC.nar_of ok) (by unfold Pc.DEEP; omega)
 rw [e] at b
 have := MC.fl_len Pc.DEEP _ _ b
 unfold Pc.DEEP at this
 omega
theorem scMi : FnScope ["self"] ["self"] (defScope (dm 6)) := ⟨rfl, rfl, rfl, by decide +kernel, rfl, by decide +kernel, by decide +kernel⟩
theorem ok_mi {f C fs ft : Addr} {fd fds fdt : FuncData} (F : Fun K "missing" "Desk.missing" (dm 6) f fd) (T : Bl mg) (S : DeskTxt K mg C) (N : Cn mg)
  (GS : FnOk P w K mg base CX0 5 fs fds ["kinds", "kind", "rows", "asked"] (spSP K)) (mS : mg "shown_pattern" = some (.ref fs)) (kS : PySem.W.keepIn K (.ref fs) = true) (bs : Binds K fds ["kinds", "kind", "rows", "asked"] [])
  (GT : FnOk P w K mg base CX0 2 ft fdt ["found"] (spPT K)) (mT : mg "pattern_told" = some (.ref ft)) (kT : PySem.W.keepIn K (.ref ft) = true) (bt : Binds K fdt ["found"] []) :
  FnOk P w K mg base CX0 6 f fd ["self"] (spM K C (ar0 .missing)) := by
 obtain ⟨t2, nn⟩ := N.nn
 obtain ⟨t3, mA⟩ := N.any_
 refine F.ok scMi (fun vs H Q E h => ?_) (fun cdv A outer s0 H vs Q E hr h => ?_)
 ·obtain ⟨d, rest, s, fp, c, rfl, ⟨rfl, _⟩, _⟩ := h
  rfl
 ·obtain ⟨d, rest, s, fp, c, rfl, ⟨rfl, rfl⟩, hD, ok, hz, k⟩ := h
  have hr5 : Room 5 _ := hr.mono (by decide)
  have hr2 : Room 2 _ := hr.mono (by decide)
  refine ⟨_, pss_cons (ps_if (pt_cmpR op_isN (pe_fld (pv 0) rfl) pe_non (nomark _)) (pss_one (ps_ret (pe_lst (pa_cons (pe_glob (v := V.int (-4)) (by rfl) nn ⟨_, rfl⟩) pa_nil)))) pss_nil)
   (pss_one (ps_ret (pe_call GT hr2 (by rfl) mT kT bt .nil pass0 (pa_cons (pe_call GS hr5 (by rfl) mS kS bs .nil pass0 (pa_cons (pe_fld (pv 0) rfl) (pa_cons (pe_fld (pv 0) rfl) (pa_cons (pe_fld (pv 0) rfl) (pa_cons (pe_tup (pa_cons (pe_glob (v := V.int 255) (by rfl) mA ⟨_, rfl⟩) pa_nil)) pa_nil))))) pa_nil)))), ?_⟩
  obtain ⟨dx, kk, cc, ks, cs, mv, rfl, nd, h1, h2, h3, h4, h5⟩ := id hD
  unfold Pcheck.step Pcheck.ofMatch at k
  simp only at k
  refine ⟨_, rfl, d, C, dx, _, _, rfl, h1, S.cl, S.nM, deskF_matched _ _ _, rfl, _, rfl, ?_⟩
  cases ho : s.opened with
  | none =>
   rw [ho] at h5 k
   have h5 : mv = .non := h5
   subst h5
   exact ⟨(by show 1 <= sizeLine; decide), fun p hp => k.new hD (Same.refl H) hp rfl⟩
  | some x =>
   obtain ⟨t, cl⟩ := x
   rw [ho] at h5 k
   obtain ⟨rfl, h5⟩ := h5
   simp only at k h5
   obtain ⟨z1, z2, z3, z4⟩ := ok.op t cl ho
   have et : PcheckNeutral.told (Pcheck.shown (Pc.missing s.types t cl)) = MC.tellP (MC.flv s.types (MC.flat (MC.prob t cl .any))) := MC.tell_missing ok.ty z2 z3
   show if decide (nI t = V.non) = true then _ else _
   rw [show decide (nI t = V.non) = false from rfl]
   refine ⟨_, rfl, d, C, dx, _, _, rfl, h1, S.cl, S.nK, deskF_kinds _ _ _, _, rfl, d, C, dx, _, _, rfl, h1, S.cl, S.nM, deskF_matched _ _ _, _, rfl, d, C, dx, _, _, rfl, h1, S.cl, S.nC, deskF_clauses _ _ _, (by show 1 <= sizeLine; decide), fun q hq => ?_⟩
   have s1 : Same H (upd H q (.tup [V.int 255])) := same_new hq
   refine ⟨kk, cc, q, t, s.types, cl, .any, cs, rfl, KindsAt.same ⟨ks, h2, h4⟩ s1, ok.ty, z1, SqL.of (s1 _ _ h3), L2.Paired.imp' (fun b r x => x.same s1) h5, SqT.of upd_same, z2, by simp [MC.OkP], by simp [MC.csz]; exact z3, z4, fun H1 s2 => ?_⟩
   have s12 := s1.trans s2
   have okp : MC.OkP s.types t .any := by simp [MC.OkP]
   cases e : MC.flv s.types (MC.flat (MC.prob t cl .any)) with
   | none =>
    rw [e] at et
    exact ⟨.non, none, rfl, rfl, fun H3 p s3 hp e3 => k.old hD (s12.trans s3) (s12.free hp) e3 (by rw [et])⟩
   | some l =>
    rw [e] at et
    intro b hb
    exact ⟨.ref b, some l, rfl, ⟨b, rfl, hb, flv_small ok.ty z2 okp (by simp [MC.txt]; omega) e⟩, fun H3 p s3 hp e3 => k.old hD (s12.trans s3) (s12.free hp) e3 (by rw [et])⟩
def spWC (K : W.Frag) (C : Addr) : Sp := fun vs H Q _ => ∃ (d : Addr) (n t : Nat) (s : Pcheck.State) (fp : List Addr) (cl : List Pat) (p : Pat), vs = [.ref d, nI n] /\ DeskAt K C H d fp s /\ MC.StOk s /\ s.opened = some (t, cl) /\ cl[n]? = some p /\
 ∀ H' : Hp, Same H H' -> FoundAs K H' Q (MC.flv s.types (MC.flat (MC.prob t (cl.take n) p)))
theorem scWC : FnScope ["self", "number"] ["self", "number"] (defScope (dm 7)) := ⟨rfl, rfl, rfl, by decide +kernel, rfl, by decide +kernel, by decide +kernel⟩
theorem paired_take {α β : Type} {F : α -> β -> Prop} : ∀ {l : List α} {m : List β}, Paired F l m -> ∀ i : Nat, Paired F (l.take i) (m.take i)
 | _, _, .nil, i => by simp; exact .nil
 | _, _, .cons r t, 0 => .nil
 | _, _, .cons r t, i + 1 => .cons r (paired_take t i)
theorem cut_take (xs : List V) (n : Nat) (h : n <= xs.length) : cutV xs none (some (n : Int)) = xs.take n := by
 unfold cutV
 rw [HT.sIx_none, HT.sIx_nat]
 have : min n xs.length = n := by omega
 rw [this]
 simp
theorem ok_wc {f C fs : Addr} {fd fds : FuncData} (F : Fun K "what_comes_to" "Desk.what_comes_to" (dm 7) f fd) (T : Bl mg) (S : DeskTxt K mg C)
  (GS : FnOk P w K mg base CX0 5 fs fds ["kinds", "kind", "rows", "asked"] (spSP K)) (mS : mg "shown_pattern" = some (.ref fs)) (kS : PySem.W.keepIn K (.ref fs) = true) (bs : Binds K fds ["kinds", "kind", "rows", "asked"] []) :
  FnOk P w K mg base CX0 6 f fd ["self", "number"] (spWC K C) := by
 refine F.ok scWC (fun vs H Q E h => ?_) (fun cdv A outer s0 H vs Q E hr h => ?_)
 ·obtain ⟨d, n, t, s, fp, cl, p, rfl, _⟩ := h
  rfl
 ·obtain ⟨d, n, t, s, fp, cl, p, rfl, hD, ok, ho, hp, k⟩ := h
  have hr5 : Room 5 _ := hr.mono (by decide)
  refine ⟨_, pss_one (ps_ret (pe_call GS hr5 (by rfl) mS kS bs .nil pass0 (pa_cons (pe_fld (pv 0) rfl) (pa_cons (pe_fld (pv 0) rfl) (pa_cons (pe_slice sl_list (pe_fld (pv 0) rfl) po_none (po_some (pv 1))) (pa_cons (pe_ix ix_list (pe_fld (pv 0) rfl) (pv 1) (fun _ _ => rfl)) pa_nil)))))), ?_⟩
  obtain ⟨dx, kk, cc, ks, cs, mv, rfl, nd, h1, h2, h3, h4, h5⟩ := id hD
  rw [ho] at h5
  obtain ⟨rfl, h5⟩ := h5
  simp only at h5
  obtain ⟨z1, z2, z3, z4⟩ := ok.op t cl ho
  have cn : cs.length = cl.length := by rw [prd_len h5, List.length_map]
  have hn : n < cl.length := (List.getElem?_eq_some_iff.mp hp).1
  obtain ⟨b, hb, hbt⟩ := prd_get2 h5 (i := n) (y := MC.txt p) (by rw [List.getElem?_map, hp]; rfl)
  refine ⟨_, rfl, d, C, dx, _, _, rfl, h1, S.cl, S.nK, deskF_kinds _ _ _, _, rfl, d, C, dx, _, _, rfl, h1, S.cl, S.nM, deskF_matched _ _ _, _, rfl, d, C, dx, _, _, rfl, h1, S.cl, S.nC, deskF_clauses _ _ _, _, rfl, _, rfl, cc, _, rfl, SqL.of h3, fun q hq => ?_⟩
  rw [cut_take _ _ (by rw [List.length_map]; omega), <- List.map_take] at *
  have s1 : Same H (upd H q (.lst ((cs.take n).map V.ref))) := same_new hq
  refine ⟨_, rfl, d, C, dx, _, _, rfl, s1 _ _ h1, S.cl, S.nC, deskF_clauses _ _ _, _, rfl, cc, _, _, V.ref b, rfl, rfl, SqL.of (s1 _ _ h3), atI_nat (j := n) (by rw [List.getElem?_map, hb]; rfl), ?_⟩
  have szt := MC.sizes_take_at hp
  have csz := MC.csz_le p
  refine ⟨kk, q, b, t, s.types, cl.take n, p, cs.take n, rfl, KindsAt.same ⟨ks, h2, h4⟩ s1, ok.ty, z1, SqL.of upd_same, ?_, hbt.same s1, fun x hx => z2 x (List.mem_of_mem_take hx), z2 p (List.mem_of_getElem? hp), by omega, by rw [List.length_take]; omega, fun H1 s2 => ?_⟩
  ·have et : (cl.take n).map MC.txt = (cl.map MC.txt).take n := List.map_take
   rw [et]
   exact L2.Paired.imp' (fun b r (x : TN K H b r) => x.same s1) (paired_take h5 n)
  ·have := k H1 (s1.trans s2)
   cases e : MC.flv s.types (MC.flat (MC.prob t (cl.take n) p)) with
   | none => rw [e] at this; exact this
   | some l => rw [e] at this; exact this
theorem scRe : FnScope ["self", "number"] ["self", "number"] (defScope (dm 8)) := ⟨rfl, rfl, rfl, by decide +kernel, rfl, by decide +kernel, by decide +kernel⟩
theorem ok_re {f C fw ft : Addr} {fd fdw fdt : FuncData} (F : Fun K "reach" "Desk.reach" (dm 8) f fd) (T : Bl mg) (S : DeskTxt K mg C) (N : Cn mg)
  (GW : FnOk P w K mg base CX0 6 fw fdw ["self", "number"] (spWC K C)) (mW : Meth K C "what_comes_to" fw) (bw : Binds K fdw ["self", "number"] [])
  (GT : FnOk P w K mg base CX0 2 ft fdt ["found"] (spPT K)) (mT : mg "pattern_told" = some (.ref ft)) (kT : PySem.W.keepIn K (.ref ft) = true) (bt : Binds K fdt ["found"] []) :
  FnOk P w K mg base CX0 7 f fd ["self", "number"] (spM K C (arN .reach)) := by
 obtain ⟨t2, nn⟩ := N.nn
 obtain ⟨t3, nt⟩ := N.nt
 refine F.ok scRe (fun vs H Q E h => ?_) (fun cdv A outer s0 H vs Q E hr h => ?_)
 ·obtain ⟨d, rest, s, fp, c, rfl, ⟨n, rfl, _⟩, _⟩ := h
  rfl
 ·obtain ⟨d, rest, s, fp, c, rfl, ⟨n, rfl, rfl⟩, hD, ok, hz, k⟩ := h
  have hr6 : Room 6 _ := hr.mono (by decide)
  have hr2 : Room 2 _ := hr.mono (by decide)
  refine ⟨_, pss_cons (ps_if (pt_cmpR op_isN (pe_fld (pv 0) rfl) pe_non (nomark _)) (pss_one (ps_ret (pe_lst (pa_cons (pe_glob (v := V.int (-4)) (by rfl) nn ⟨_, rfl⟩) pa_nil)))) pss_nil)
   (pss_cons (ps_if (pt_cmpR op_ge (pv 1) (pe_callB call_len_seq (by rfl) T.len_ PySem.boot_len (pa_cons (pe_fld (pv 0) rfl) pa_nil)) (nomark _)) (pss_one (ps_ret (pe_lst (pa_cons (pe_glob (v := V.int (-2)) (by rfl) nt ⟨_, rfl⟩) pa_nil)))) pss_nil)
   (pss_one (ps_ret (pe_call GT hr2 (by rfl) mT kT bt .nil pass0 (pa_cons (pe_meth (pv 0) S.cl mW GW hr6 bw .nil pass0 (pa_cons (pv 1) pa_nil)) pa_nil))))), ?_⟩
  obtain ⟨dx, kk, cc, ks, cs, mv, rfl, nd, h1, h2, h3, h4, h5⟩ := id hD
  unfold Pcheck.step Pcheck.ofMatch at k
  simp only at k
  refine ⟨_, rfl, d, C, dx, _, _, rfl, h1, S.cl, S.nM, deskF_matched _ _ _, rfl, _, rfl, ?_⟩
  cases ho : s.opened with
  | none =>
   rw [ho] at h5 k
   have h5 : mv = .non := h5
   subst h5
   exact ⟨(by show 1 <= sizeLine; decide), fun p hp => k.new hD (Same.refl H) hp rfl⟩
  | some x =>
   obtain ⟨t, cl⟩ := x
   rw [ho] at h5 k
   obtain ⟨rfl, h5⟩ := h5
   simp only at k h5
   have cn : cs.length = cl.length := by rw [prd_len h5, List.length_map]
   obtain ⟨z1, z2, z3, z4⟩ := ok.op t cl ho
   show if decide (nI t = V.non) = true then _ else _
   rw [show decide (nI t = V.non) = false from rfl]
   refine ⟨_, rfl, _, rfl, d, C, dx, _, _, rfl, h1, S.cl, S.nC, deskF_clauses _ _ _, cc, _, rfl, .inl (SqL.of h3), _, _, rfl, rfl, _, rfl, ?_⟩
   rw [List.length_map, cn]
   by_cases hge : ((cl.length : Nat) : Int) <= (n : Int)
   ·show if decide (((cl.length : Nat) : Int) <= (n : Int)) = true then _ else _
    rw [decide_eq_true hge]
    rw [if_pos (by omega)] at k
    exact ⟨(by show 1 <= sizeLine; decide), fun p hp => k.new hD (Same.refl H) hp rfl⟩
   show if decide (((cl.length : Nat) : Int) <= (n : Int)) = true then _ else _
   rw [decide_eq_false hge]
   rw [if_neg (by omega)] at k
   have hlt : n < cl.length := by omega
   have hp : cl[n]? = some cl[n] := List.getElem?_eq_getElem hlt
   have et := MC.tell_reach ok.ty z2 z3 hp
   have szt := MC.sizes_take_at hp
   refine ⟨_, rfl, d, dx, _, rfl, h1, deskF_no _ _ _ (by decide +kernel) (by decide +kernel) (by decide +kernel), _, rfl, d, n, t, s, _, cl, cl[n], rfl, hD, ok, ho, hp, fun H1 s1 => ?_⟩
   cases e : MC.flv s.types (MC.flat (MC.prob t (cl.take n) cl[n])) with
   | none =>
    rw [e] at et
    exact ⟨.non, none, rfl, rfl, fun H3 p s3 hp e3 => k.old hD (s1.trans s3) (s1.free hp) e3 (by rw [et])⟩
   | some l =>
    rw [e] at et
    intro b hb
    exact ⟨.ref b, some l, rfl, ⟨b, rfl, hb, flv_small ok.ty (fun x hx => z2 x (List.mem_of_mem_take hx)) (z2 _ (List.getElem_mem hlt)) (by omega) e⟩, fun H3 p s3 hp e3 => k.old hD (s1.trans s3) (s1.free hp) e3 (by rw [et])⟩
theorem scUs : FnScope ["self", "number"] ["self"] (defScope (dm 11)) := ⟨rfl, rfl, rfl, by decide +kernel, rfl, by decide +kernel, by decide +kernel⟩
theorem filter_map {α : Type} (f : α -> Bool) (g : α -> V) : ∀ l : List α, (l.map fun x => if f x = true then some (g x) else none).filterMap id = (l.filter f).map g
 | [] => rfl
 | x :: l => by
  have ih := filter_map f g l
  by_cases h : f x = true
  ·simp [h, ih]
  ·simp [h, ih]
theorem ok_us {f C fw fc : Addr} {fd fdw fdc : FuncData} (F : Fun K "useless" "Desk.useless" (dm 11) f fd) (T : Bl mg) (S : DeskTxt K mg C) (N : Cn mg)
  (GW : FnOk P w K mg base CX0 6 fw fdw ["self", "number"] (spWC K C)) (mW : Meth K C "what_comes_to" fw) (bw : Binds K fdw ["self", "number"] [])
  (GC : FnOk P w K mg base CX0 1 fc fdc ["numbers"] (spCo K)) (mC : mg "counted" = some (.ref fc)) (kC : PySem.W.keepIn K (.ref fc) = true) (bc : Binds K fdc ["numbers"] []) :
  FnOk P w K mg base CX0 7 f fd ["self"] (spM K C (ar0 .useless)) := by
 obtain ⟨t2, nn⟩ := N.nn
 refine F.ok scUs (fun vs H Q E h => ?_) (fun cdv A outer s0 H vs Q E hr h => ?_)
 ·obtain ⟨d, rest, s, fp, c, rfl, ⟨rfl, _⟩, _⟩ := h
  rfl
 ·obtain ⟨d, rest, s, fp, c, rfl, ⟨rfl, rfl⟩, hD, ok, hz, k⟩ := h
  have hr6 : Room 6 _ := hr.mono (by decide)
  have hr1 : Room 1 _ := hr.mono (by decide)
  refine ⟨_, pss_cons (ps_if (pt_cmpR op_isN (pe_fld (pv 0) rfl) pe_non (nomark _)) (pss_one (ps_ret (pe_lst (pa_cons (pe_glob (v := V.int (-4)) (by rfl) nn ⟨_, rfl⟩) pa_nil)))) pss_nil)
   (pss_one (ps_ret (pe_call GC hr1 (by rfl) mC kC bc .nil pass0 (pa_cons (pe_lc rfl scUs.nd (pi_range1 (by rfl) N.range_ (pa_cons (pe_callB call_len_seq (by rfl) T.len_ PySem.boot_len (pa_cons (pe_fld (pv 0) rfl) pa_nil)) pa_nil)) (blkOk_by (own := [("number", 1)]) (by show blkC ["self", "number"] (defScope (dm 11)) _ _ = true; decide +kernel))
    (fun _ _ _ _ _ => pg_name (i := 1) scUs.nd rfl (Or.inl rfl))
    (fun _ _ _ _ _ => pts_one (pt_cmpR op_isN (pe_meth (pv 0) S.cl mW GW hr6 bw .nil pass0 (pa_cons (pv 1) pa_nil)) pe_non (nomark _)))
    (fun _ _ _ _ _ => pv 1)) pa_nil)))), ?_⟩
  obtain ⟨dx, kk, cc, ks, cs, mv, rfl, nd, h1, h2, h3, h4, h5⟩ := id hD
  unfold Pcheck.step Pcheck.ofMatch at k
  simp only at k
  refine ⟨_, rfl, d, C, dx, _, _, rfl, h1, S.cl, S.nM, deskF_matched _ _ _, rfl, _, rfl, ?_⟩
  cases ho : s.opened with
  | none =>
   rw [ho] at h5 k
   have h5 : mv = .non := h5
   subst h5
   exact ⟨(by show 1 <= sizeLine; decide), fun p hp => k.new hD (Same.refl H) hp rfl⟩
  | some x =>
   obtain ⟨t, cl⟩ := x
   rw [ho] at h5 k
   obtain ⟨rfl, h5⟩ := h5
   simp only at k h5
   have cn : cs.length = cl.length := by rw [prd_len h5, List.length_map]
   obtain ⟨z1, z2, z3, z4⟩ := ok.op t cl ho
   show if decide (nI t = V.non) = true then _ else _
   rw [show decide (nI t = V.non) = false from rfl]
   refine ⟨_, rfl, d, C, dx, _, _, rfl, h1, S.cl, S.nC, deskF_clauses _ _ _, cc, _, rfl, .inl (SqL.of h3), _, rfl, ?_, ?_, fun D hDn => ?_⟩
   ·rw [List.length_map]; omega
   ·rw [List.length_map]; omega
   rw [List.length_map, cn, Int.toNat_natCast]
   refine lc_range (n := cl.length) (PvC H D ((List.range cl.length).map fun i => if (Pc.reach s.types t cl i).isNone = true then some (nI i) else none)) (PvC.start hDn) (fun i H2 hi p => ?_) (fun H2 p => ?_)
   ·have hp : cl[i]? = some cl[i] := List.getElem?_eq_getElem hi
    have ei : (0 : Int) + (i : Int) = (i : Int) := by omega
    have hd2 := p.1 _ _ h1
    have rn := MC.reach_none ok.ty z2 z3 hp
    rw [ei]
    refine ⟨rfl, _, rfl, d, dx, _, rfl, hd2, deskF_no _ _ _ (by decide +kernel) (by decide +kernel) (by decide +kernel), _, rfl, d, i, t, s, _, cl, cl[i], rfl, hD.same p.1, ok, ho, hp, fun H3 s3 => ?_⟩
    cases e : MC.flv s.types (MC.flat (MC.prob t (cl.take i) cl[i])) with
    | none =>
     rw [e] at rn
     refine ⟨rfl, _, rfl, _, rfl, p.add hDn s3 ?_ ?_⟩
     ·rw [List.getElem?_map, List.getElem?_range hi]
      show some (if (Pc.reach s.types t cl i).isNone = true then some (nI i) else none) = _
      rw [rn]; rfl
     ·rw [List.length_map, List.length_range]; omega
    | some l =>
     rw [e] at rn
     intro b hb
     refine ⟨rfl, _, rfl, p.skip s3 ?_⟩
     rw [List.getElem?_map, List.getElem?_range hi]
     show some (if (Pc.reach s.types t cl i).isNone = true then some (nI i) else none) = _
     rw [rn]; rfl
   ·obtain ⟨s2, e2⟩ := p.done (by rw [List.length_map, List.length_range])
    rw [filter_map] at e2
    refine ⟨D, _, rfl, .inl (SqL.of e2), ?_, fun H3 p s3 hp e3 => k.old hD (s2.trans s3) (s2.free hp) e3 ?_⟩
    ·exact Nat.le_trans (List.length_filter_le _ _) (by rw [List.length_range]; omega)
    ·unfold Pcheck.tells PcheckNeutral.told
     rw [List.map_cons, List.map_map]; rfl
end
end D
set_option Elab.async false
set_option linter.all false
set_option maxRecDepth 100000
set_option maxHeartbeats 2000000
namespace D
open PySem PySem.Spec PyProof.Rows L2
open Pc (Types consOf Pat Asked answerAt)
section
variable {P : Program} {w : World} {K : W.Frag} {mg : Str -> Option Value} {base : Heap}
theorem scWh : FnScope ["self", "value", "number", "clause"] ["self", "value"] (defScope (dm 9)) := ⟨rfl, rfl, rfl, by decide +kernel, rfl, by decide +kernel, by decide +kernel⟩
theorem ok_wh {f C fv ff : Addr} {fd fdv fdf : FuncData} (F : Fun K "which" "Desk.which" (dm 9) f fd) (T : Bl mg) (S : DeskTxt K mg C) (N : Cn mg)
  (GV : FnOk P w K mg base CX0 2 fv fdv ["kinds", "kind", "numbers"] (spIsVal K)) (mV : mg "is_value" = some (.ref fv)) (kV : PySem.W.keepIn K (.ref fv) = true) (bv : Binds K fdv ["kinds", "kind", "numbers"] [])
  (GF : FnOk P w K mg base CX0 2 ff fdf ["kinds", "kind", "value", "pattern"] (spFits K)) (mF : mg "fits" = some (.ref ff)) (kF : PySem.W.keepIn K (.ref ff) = true) (bf : Binds K fdf ["kinds", "kind", "value", "pattern"] []) :
  FnOk P w K mg base CX0 3 f fd ["self", "value"] (spM K C (arR K .which)) := by
 obtain ⟨t1, nt⟩ := N.nt
 obtain ⟨t2, nn⟩ := N.nn
 obtain ⟨t3, nr⟩ := N.nr
 obtain ⟨t4, mv'⟩ := N.mv
 obtain ⟨t5, fn⟩ := N.fn
 refine F.ok scWh (fun vs H Q E h => ?_) (fun cdv A outer s0 H vs Q E hr h => ?_)
 ·obtain ⟨d, rest, s, fp, c, rfl, ⟨a, l, rfl, _⟩, _⟩ := h
  rfl
 ·obtain ⟨d, rest, s, fp, c, rfl, ⟨a, l, rfl, ha, rfl⟩, hD, ok, hz, k⟩ := h
  have hr2 : Room 2 _ := hr.mono (by decide)
  refine ⟨_, pss_cons (ps_if (pt_cmpR op_isN (pe_fld (pv 0) rfl) pe_non (nomark _)) (pss_one (ps_ret (pe_lst (pa_cons (pe_glob (v := V.int (-4)) (by rfl) nn ⟨_, rfl⟩) pa_nil)))) pss_nil)
   (pss_cons (ps_if (pt_cmpR op_gt (pe_callB call_len_seq (by rfl) T.len_ PySem.boot_len (pa_cons (pv 1) pa_nil)) (pe_glob (v := V.int 1024) (by rfl) mv' ⟨_, rfl⟩) (nomark _)) (pss_one (ps_ret (pe_lst (pa_cons (pe_glob (v := V.int (-3)) (by rfl) nr ⟨_, rfl⟩) pa_nil)))) pss_nil)
   (pss_cons (ps_if (pt_not (pt_val (pe_call GV hr2 (by rfl) mV kV bv .nil pass0 (pa_cons (pe_fld (pv 0) rfl) (pa_cons (pe_fld (pv 0) rfl) (pa_cons (pv 1) pa_nil)))))) (pss_one (ps_ret (pe_lst (pa_cons (pe_glob (v := V.int (-2)) (by rfl) nt ⟨_, rfl⟩) pa_nil)))) pss_nil)
   (pss_cons (ps_for PassesOwn.never rfl (pi_enum (by rfl) T.enum_ (pa_cons (pe_fld (pv 0) rfl) pa_nil)) (pg_tup (n := 2) rfl (pgs_cons (pg_name (i := 2) scWh.nd rfl (Or.inl rfl)) (pgs_cons (pg_name (i := 3) scWh.nd rfl (Or.inl rfl)) pgs_nil)))
    (pss_one (ps_if (pt_val (pe_call GF hr2 (by rfl) mF kF bf .nil pass0 (pa_cons (pe_fld (pv 0) rfl) (pa_cons (pe_fld (pv 0) rfl) (pa_cons (pv 1) (pa_cons (pv 3) pa_nil)))))) (pss_one (ps_ret (pe_lst (pa_cons (pv 2) pa_nil)))) pss_nil)))
   (pss_one (ps_ret (pe_lst (pa_cons (pe_glob (v := V.int (-1)) (by rfl) fn ⟨_, rfl⟩) pa_nil))))))), ?_⟩
  obtain ⟨dx, kk, cc, ks, cs, mv, rfl, nd, h1, h2, h3, h4, h5⟩ := id hD
  have lz : l.length <= 2048 := hz
  unfold Pcheck.step Pcheck.ofMatch at k
  simp only at k
  refine ⟨_, rfl, d, C, dx, _, _, rfl, h1, S.cl, S.nM, deskF_matched _ _ _, rfl, _, rfl, ?_⟩
  cases ho : s.opened with
  | none =>
   rw [ho] at h5 k
   have h5 : mv = .non := h5
   subst h5
   exact ⟨(by show 1 <= sizeLine; decide), fun p hp => k.new hD (Same.refl H) hp rfl⟩
  | some x =>
   obtain ⟨t, cl⟩ := x
   rw [ho] at h5 k
   obtain ⟨rfl, h5⟩ := h5
   simp only at k h5
   have cn : cs.length = cl.length := by rw [prd_len h5, List.length_map]
   obtain ⟨z1, z2, z3, z4⟩ := ok.op t cl ho
   have hkA : KindsAt K H kk s.types := ⟨ks, h2, h4⟩
   show if decide (nI t = V.non) = true then _ else _
   rw [show decide (nI t = V.non) = false from rfl]
   refine ⟨_, rfl, a, _, rfl, .inr ha, _, _, rfl, rfl, _, rfl, ?_⟩
   rw [List.length_map]
   by_cases hgt : (1024 : Int) < ((l.length : Nat) : Int)
   ·show if decide ((1024 : Int) < ((l.length : Nat) : Int)) = true then _ else _
    rw [decide_eq_true hgt]
    rw [if_pos (by show 1024 < l.length; omega)] at k
    exact ⟨(by show 1 <= sizeLine; decide), fun p hp => k.new hD (Same.refl H) hp rfl⟩
   show if decide ((1024 : Int) < ((l.length : Nat) : Int)) = true then _ else _
   rw [decide_eq_false hgt]
   rw [if_neg (by show ¬ 1024 < l.length; omega)] at k
   refine ⟨_, rfl, d, C, dx, _, _, rfl, h1, S.cl, S.nK, deskF_kinds _ _ _, _, rfl, d, C, dx, _, _, rfl, h1, S.cl, S.nM, deskF_matched _ _ _, _, rfl, kk, a, t, l, s.types, rfl, hkA, ok.ty, z1, ha, by omega, fun H1 s1 => ⟨_, rfl, ?_⟩⟩
   rw [MC.eat_read (MC.few_of ok.ty)]
   have ev : Pc.isValue l = !l.contains 255 := rfl
   cases hc : l.contains 255 with
   | true =>
    rw [ev, hc] at k
    exact ⟨(by show 1 <= sizeLine; decide), fun p hp => k.new hD s1 hp rfl⟩
   | false =>
    rw [ev, hc, if_neg (by decide)] at k
    cases hq : Pc.readPat s.types t l with
    | none =>
     rw [hq] at k
     exact ⟨(by show 1 <= sizeLine; decide), fun p hp => k.new hD s1 hp rfl⟩
    | some v =>
     rw [hq] at k
     simp only at k
     obtain ⟨okv, rfl⟩ := MC.readPat_some hq
     have nav : MC.noAny v = true := by
      have := MC.noAny_txt (MC.few_of ok.ty) v t okv
      rw [hc] at this
      simpa using this.symm
     have hsm : ∀ p ∈ cl, (MC.txt p).length <= 4096 := fun p hp => by have := MC.sizes_mem hp; omega
     rw [MC.which_eq hsm] at k
     refine ⟨_, rfl, d, C, dx, _, _, rfl, s1 _ _ h1, S.cl, S.nC, deskF_clauses _ _ _, cc, _, rfl, SqL.of (s1 _ _ h3), for_enum (xs := cs.map V.ref) (fun i σ H' => ∃ x2 x3 : Option V, σ = [some (.ref d), some (.ref a), x2, x3] /\ Same H H' /\ ∀ (j : Nat) (p : Pat), j < i -> cl[j]? = some p -> MC.fitp p v = false)
      ⟨_, _, rfl, s1, fun j p hj => absurd hj (Nat.not_lt_zero _)⟩ (fun i σ H' _ ⟨_, _, _, s, _⟩ => SqL.of (s _ _ h3)) ?_ ?_⟩
     ·rintro i x σ H2 Tt hx ⟨x2, x3, rfl, s2, hn⟩ hT
      obtain ⟨b, hb, rfl⟩ := map_get hx
      obtain ⟨r, hr', hbr⟩ := prd_get h5 hb
      obtain ⟨p, hp, rfl⟩ := map_get hr'
      have s3 : Same H2 (upd H2 Tt (.tup [.int (i : Nat), V.ref b])) := same_new hT
      have s23 := s2.trans s3
      have hpm := List.mem_of_getElem? hp
      refine ⟨Tt, _, rfl, SqT.of upd_same, rfl, _, _, rfl, _, _, rfl, rfl, ?_⟩
      refine ⟨_, rfl, d, C, dx, _, _, rfl, s23 _ _ h1, S.cl, S.nK, deskF_kinds _ _ _, _, rfl, d, C, dx, _, _, rfl, s23 _ _ h1, S.cl, S.nM, deskF_matched _ _ _, _, rfl, _, rfl, kk, a, b, t, v, p, s.types, rfl, hkA.same s23, ok.ty, z1, s23.tup ha, s23.tup hbr, by omega, by have := hsm p hpm; omega, okv, z2 p hpm, nav, fun H4 s4 => ⟨_, rfl, ?_⟩⟩
      have s24 := s23.trans s4
      cases hf : MC.fitp p v with
      | true =>
       have : (cl.findIdx? fun p => MC.fitp p v) = some i := MC.idx_some hp hf hn
       rw [this] at k
       exact ⟨_, rfl, (by show 1 <= sizeLine; decide), fun p hp => k.new hD s24 hp rfl⟩
      | false =>
       refine ⟨_, _, rfl, s24, fun j p' hj hs => ?_⟩
       by_cases q : j = i
       ·subst q
        rw [hp] at hs
        cases hs
        exact hf
       ·exact hn j p' (by omega) hs
     ·rintro σ H2 ⟨x2, x3, rfl, s2, hn⟩
      have : (cl.findIdx? fun p => MC.fitp p v) = none := MC.idx_none fun i p e => hn i p (by rw [List.length_map, cn]; exact (List.getElem?_eq_some_iff.mp e).1) e
      rw [this] at k
      exact ⟨(by show 1 <= sizeLine; decide), fun p hp => k.new hD s2 hp rfl⟩
theorem scCh : FnScope ["self", "constructors", "clauses", "answered", "number", "spot", "clause"] ["self", "constructors"] (defScope (dm 10)) := ⟨rfl, rfl, rfl, by decide +kernel, rfl, by decide +kernel, by decide +kernel⟩
theorem ok_ch {f C B fs fa fl fu : Addr} {fd fds fda fdl fdu : FuncData} (F : Fun K "choose" "Desk.choose" (dm 10) f fd) (T : Bl mg) (S : DeskTxt K mg C) (N : Cn mg) (R : SpotTxt K mg B)
  (GS : FnOk P w K mg base CX0 4 fs fds ["kinds", "kind", "pattern"] (spSO K B)) (mS : mg "spots_of" = some (.ref fs)) (kS : PySem.W.keepIn K (.ref fs) = true) (bs : Binds K fds ["kinds", "kind", "pattern"] [])
  (GA : FnOk P w K mg base CX0 4 fa fda ["kinds", "clauses", "constructors"] (spAB K B)) (mA : mg "answered_by" = some (.ref fa)) (kA : PySem.W.keepIn K (.ref fa) = true) (ba : Binds K fda ["kinds", "clauses", "constructors"] [])
  (GL : FnOk P w K mg base CX0 2 fl fdl ["clauses", "answered"] (spFL B)) (mL : mg "first_left" = some (.ref fl)) (kL : PySem.W.keepIn K (.ref fl) = true) (bl : Binds K fdl ["clauses", "answered"] [])
  (GU : FnOk P w K mg base CX0 1 fu fdu ["spots", "answered"] (spFU B)) (mU : mg "first_unasked" = some (.ref fu)) (kU : PySem.W.keepIn K (.ref fu) = true) (bu : Binds K fdu ["spots", "answered"] []) :
  FnOk P w K mg base CX0 5 f fd ["self", "constructors"] (spM K C (arR K .choose)) := by
 obtain ⟨t1, nt⟩ := N.nt
 obtain ⟨t2, nn⟩ := N.nn
 obtain ⟨t3, nf⟩ := N.nf
 obtain ⟨t4, ch⟩ := N.ch
 obtain ⟨t5, an⟩ := N.an
 refine F.ok scCh (fun vs H Q E h => ?_) (fun cdv A outer s0 H vs Q E hr h => ?_)
 ·obtain ⟨d, rest, s, fp, c, rfl, ⟨a, l, rfl, _⟩, _⟩ := h
  rfl
 ·obtain ⟨d, rest, s, fp, c, rfl, ⟨a, l, rfl, ha, rfl⟩, hD, ok, hz, k⟩ := h
  have hr1 : Room 1 _ := hr.mono (by decide)
  have hr2 : Room 2 _ := hr.mono (by decide)
  have hr3 : Room 3 _ := hr.mono (by decide)
  have hr4 : Room 4 _ := hr.mono (by decide)
  have big : (10000000 : Nat) <= sizeLine := by decide
  refine ⟨_, pss_cons (ps_if (pt_cmpR op_isN (pe_fld (pv 0) rfl) pe_non (nomark _)) (pss_one (ps_ret (pe_lst (pa_cons (pe_glob (v := V.int (-4)) (by rfl) nn ⟨_, rfl⟩) pa_nil)))) pss_nil)
   (pss_cons (ps_setLc (i := 2) rfl scCh.nd rfl rfl (sw_true rfl rfl rfl (by decide +kernel)) (pi_list (pe_fld (pv 0) rfl)) (blkOk_by (own := [("clause", 6)]) (by show blkC ["self", "constructors", "clauses", "answered", "number", "spot", "clause"] (defScope (dm 10)) _ _ = true; decide +kernel))
    (fun _ _ _ _ _ => pg_name (i := 6) scCh.nd rfl (Or.inl rfl)) (fun _ _ _ _ _ => pts_nil)
    (fun _ _ _ _ _ => pe_call GS hr4 (by rfl) mS kS bs .nil pass0 (pa_cons (pe_fldB K rfl (pv 0) rfl) (pa_cons (pe_fldB K rfl (pv 0) rfl) (pa_cons (pv 6) pa_nil)))))
   (pss_cons (ps_set (i := 3) scCh.nd rfl (Or.inl rfl) (pe_call GA hr4 (by rfl) mA kA ba .nil pass0 (pa_cons (pe_fld (pv 0) rfl) (pa_cons (pv 2) (pa_cons (pv 1) pa_nil)))))
   (pss_cons (ps_if (pt_cmpR op_isN (pv 3) pe_non (nomark _)) (pss_one (ps_ret (pe_lst (pa_cons (pe_glob (v := V.int (-2)) (by rfl) nt ⟨_, rfl⟩) pa_nil)))) pss_nil)
   (pss_cons (ps_set (i := 4) scCh.nd rfl (Or.inl rfl) (pe_call GL hr2 (by rfl) mL kL bl .nil pass0 (pa_cons (pv 2) (pa_cons (pv 3) pa_nil))))
   (pss_cons (ps_if (pt_cmpR op_isN (pv 4) pe_non (nomark _)) (pss_one (ps_ret (pe_lst (pa_cons (pe_glob (v := V.int 3) (by rfl) nf ⟨_, rfl⟩) pa_nil)))) pss_nil)
   (pss_cons (ps_set (i := 5) scCh.nd rfl (Or.inl rfl) (pe_call GU hr1 (by rfl) mU kU bu .nil pass0 (pa_cons (pe_ix ix_list (pv 2) (pv 4) (fun _ _ => rfl)) (pa_cons (pv 3) pa_nil))))
   (pss_one (ps_ret (pe_ifExp (pt_cmpR op_isN (pv 5) pe_non (nomark _)) (pe_lst (pa_cons (pe_glob (v := V.int 2) (by rfl) ch ⟨_, rfl⟩) (pa_cons (pv 4) pa_nil)))
    (pe_op op_cat (pe_lst (pa_cons (pe_glob (v := V.int 1) (by rfl) an ⟨_, rfl⟩) pa_nil)) (pe_callTy call_list_of (by rfl) T.list_ boot_list5 (pa_cons (pe_fld (pv 5) rfl) pa_nil)))))))))))), ?_⟩
  obtain ⟨dx, kk, cc, ks, cs, mv, rfl, nd, h1, h2, h3, h4, h5⟩ := id hD
  have lz : l.length <= 2048 := hz
  unfold Pcheck.step Pcheck.ofMatch at k
  simp only at k
  refine ⟨_, rfl, d, C, dx, _, _, rfl, h1, S.cl, S.nM, deskF_matched _ _ _, rfl, _, rfl, ?_⟩
  cases ho : s.opened with
  | none =>
   rw [ho] at h5 k
   have h5 : mv = .non := h5
   subst h5
   exact ⟨(by show 1 <= sizeLine; decide), fun p hp => k.new hD (Same.refl H) hp rfl⟩
  | some x =>
   obtain ⟨t, cl⟩ := x
   rw [ho] at h5 k
   obtain ⟨rfl, h5⟩ := h5
   simp only at k h5
   have cn : cs.length = cl.length := by rw [prd_len h5, List.length_map]
   obtain ⟨z1, z2, z3, z4⟩ := ok.op t cl ho
   have hkA : KindsAt K H kk s.types := ⟨ks, h2, h4⟩
   have hsm : ∀ p ∈ cl, (MC.txt p).length <= 64 := fun p hp => by have := MC.sizes_mem hp; omega
   rw [MC.asking_eq z2 (fun p hp => by have := hsm p hp; omega)] at k
   show if decide (nI t = V.non) = true then _ else _
   rw [show decide (nI t = V.non) = false from rfl]
   -- clauses = [spots_of(..) ..]
   refine ⟨_, rfl, d, C, dx, _, _, rfl, h1, S.cl, S.nC, deskF_clauses _ _ _, cc, rfl, ⟨_, SqL.of h3⟩, fun D hDn => ?_⟩
   refine lc_list (xs := cs.map V.ref) (fun i H' => ∃ bs : List Addr, Same H H' /\ H' D = some (.lst (bs.map V.ref)) /\ Paired (fun b sp => SpotsAt B H' b sp /\ b ≠ D) bs ((cl.take i).map fun p => MC.spk s.types [] t p))
    ⟨[], same_new hDn, upd_same, .nil⟩ (fun i H' _ ⟨_, s, _⟩ => SqL.of (s _ _ h3)) (fun i x H2 hx ⟨bs, s2, e2, p2⟩ => ?_) (fun H2 ⟨bs, s2, e2, p2⟩ => ?_)
   ·obtain ⟨b0, hb0, rfl⟩ := map_get hx
    obtain ⟨r, hr', hbr⟩ := prd_get h5 hb0
    obtain ⟨p, hp, rfl⟩ := map_get hr'
    have hpm := List.mem_of_getElem? hp
    refine ⟨rfl, _, rfl, d, C, dx, _, _, rfl, s2 _ _ h1, S.cl, S.nK, deskF_kinds _ _ _, _, rfl, d, C, dx, _, _, rfl, s2 _ _ h1, S.cl, S.nM, deskF_matched _ _ _, _, rfl, kk, b0, t, p, s.types, rfl, hkA.same s2, ok.ty, z1, s2.tup hbr, by have := hsm p hpm; omega, z2 p hpm, fun H3 q s3 hq hsp => ?_⟩
    have eD := s3 _ _ e2
    have qD : q ≠ D := Ne.symm (ne_of_none e2 hq)
    refine ⟨_, eD, ?_, bs ++ [q], fun b o hb => ?_, by rw [upd_same, List.map_append]; rfl, ?_⟩
    ·have := prd_len p2
     rw [List.length_map, List.length_take] at this
     rw [List.length_map]
     omega
    ·rw [upd_ne (ne_of_none hb hDn)]; exact s3 _ _ (s2 _ _ hb)
    ·rw [take_one hp, List.map_append]
     exact paired_snoc (L2.Paired.imp' (fun b r x => ⟨(x.1.same s3).lst eD x.2, x.2⟩) p2) ⟨hsp.lst eD qD, qD⟩
   ·rw [List.length_map, cn, List.take_length] at p2
    have hS : SpsAt B H2 D (MC.spsOf s.types t cl) := ⟨bs, e2, L2.Paired.imp' (fun b r x => x.1) p2⟩
    have hlen : ∀ sp ∈ MC.spsOf s.types t cl, sp.length <= 10000 := fun sp hsp => by
     obtain ⟨p, hp, rfl⟩ := List.mem_map.mp hsp
     have := MC.spk_len p [] t (T := s.types)
     have := hsm p hp
     omega
    have hway : ∀ sp ∈ MC.spsOf s.types t cl, ∀ x ∈ sp, x.2.1 < s.types.length /\ x.1.length <= 64 := fun sp hsp x hx => by
     obtain ⟨p, hp, rfl⟩ := List.mem_map.mp hsp
     have hty := MC.spk_typ ok.ty.wf p [] t z1 (z2 p hp) x hx
     have hs1 := hsm p hp
     refine ⟨hty.1, ?_⟩
     have h2 := hty.2.2
     simp only [List.length_nil] at h2
     omega
    refine ⟨_, rfl, d, C, dx, _, _, rfl, s2 _ _ h1, S.cl, S.nK, deskF_kinds _ _ _, _, rfl, _, rfl, kk, D, a, s.types, MC.spsOf s.types t cl, l, rfl, hkA.same s2, ok.ty, hS, s2.tup ha, by omega, hlen, fun sp hsp x hx => (hway sp hsp x hx).1, fun H3 s3 => ?_⟩
    have s23 := s2.trans s3
    cases eg : MC.goF s.types (MC.spsOf s.types t cl) [] l with
    | none =>
     rw [eg] at k
     exact ⟨_, rfl, rfl, _, rfl, (by show 1 <= sizeLine; decide), fun p hp => k.new hD s23 hp rfl⟩
    | some b =>
     rw [eg] at k
     intro dd hA
     refine ⟨_, rfl, rfl, _, rfl, ?_⟩
     show if decide (V.ref dd = V.non) = true then _ else _
     rw [show decide (V.ref dd = V.non) = false from rfl]
     refine ⟨_, rfl, _, rfl, D, dd, MC.spsOf s.types t cl, b, rfl, hS.same s3, hA, hlen, fun H4 s4 => ?_⟩
     have s24 := s23.trans s4
     refine ⟨_, rfl, rfl, _, rfl, ?_⟩
     simp only [Option.map_some, MC.nxF] at k
     cases el : MC.leftF b (MC.spsOf s.types t cl) with
     | none =>
      rw [el] at k
      exact ⟨(by show 1 <= sizeLine; decide), fun p hp => k.new hD s24 hp rfl⟩
     | some i =>
      rw [el] at k
      simp only at k
      show if decide (nI i = V.non) = true then _ else _
      rw [show decide (nI i = V.non) = false from rfl]
      obtain ⟨hi, _⟩ := List.findIdx?_eq_some_iff_getElem.mp el
      obtain ⟨as, e4, p4⟩ := hS.same (s3.trans s4)
      obtain ⟨bi, hbi, hat⟩ := prd_get2 p4 (List.getElem?_eq_getElem hi)
      have g : (MC.spsOf s.types t cl).getD i [] = (MC.spsOf s.types t cl)[i] := by rw [List.getD_eq_getElem?_getD, List.getElem?_eq_getElem hi]; rfl
      rw [g] at k
      refine ⟨_, rfl, _, rfl, D, _, _, V.ref bi, rfl, rfl, SqL.of e4, atI_nat (j := i) (by rw [List.getElem?_map, hbi]; rfl), _, rfl, bi, dd, (MC.spsOf s.types t cl)[i], b, rfl, hat, s4 _ _ hA, ?_⟩
      cases eu : MC.unF b (MC.spsOf s.types t cl)[i] with
      | none =>
       rw [eu] at k
       exact ⟨_, rfl, rfl, _, rfl, _, rfl, (by show 2 <= sizeLine; decide), fun p hp => k.new hD s24 hp rfl⟩
      | some x =>
       rw [eu] at k
       intro sb hsb
       obtain ⟨dz, wp, hb1, hb2⟩ := hsb
       have hxl := (hway _ (List.getElem_mem hi) x (List.mem_of_find?_eq_some eu)).2
       refine ⟨_, rfl, rfl, _, rfl, ?_⟩
       show if decide (V.ref sb = V.non) = true then _ else _
       rw [show decide (V.ref sb = V.non) = false from rfl]
       refine ⟨(by show 1 <= sizeLine; decide), fun p1 hp1 => ?_⟩
       have s5 := same_new (o := .lst [V.int 1]) hp1
       refine ⟨_, rfl, sb, B, dz, _, _, rfl, s5 _ _ hb1, R.cl, R.nW, spotF_way _ _ _, wp, _, rfl, .inr (SqT.of (s5 _ _ hb2)), fun p2 hp2 => ?_⟩
       have s6 := same_new (o := .lst (x.1.map nI)) hp2
       refine ⟨p1, p2, _, _, rfl, rfl, s6 _ _ upd_same, upd_same, ?_, fun p hp => k.new hD ((s24.trans s5).trans s6) hp ?_⟩
       ·rw [List.length_map]; simp; omega
       ·show [V.int 1] ++ x.1.map nI = _
        unfold MC.toNext Pcheck.tells PcheckNeutral.told
        rw [List.map_cons, List.map_map]; rfl
end
end D
set_option Elab.async false
set_option linter.all false
set_option maxRecDepth 100000
set_option maxHeartbeats 2000000
namespace D
open PySem PySem.Spec PyProof.Rows L2
abbrev rm (i : Nat) : Stmt := inClass (top 42) i
def readF (n p : V) : List (Str × V) := putF "place" p (putF "numbers" n [])
theorem readF_eq (n p : V) : readF n p = [(("numbers" : Str), n), (("place" : Str), p)] := by
 unfold readF
 rw [putF_nil, putF_miss (by decide +kernel), putF_nil]
theorem readF_numbers (n p : V) : (readF n p).lookup ("numbers" : Str) = some n := by
 unfold readF; rw [lookup_putF, if_neg (by decide +kernel), lookup_putF, if_pos rfl]
theorem readF_place (n p : V) : (readF n p).lookup ("place" : Str) = some p := by
 unfold readF; rw [lookup_putF, if_pos rfl]
theorem readF_no (n p : V) {x : Str} (h1 : ¬ x = "numbers") (h2 : ¬ x = "place") : (readF n p).lookup x = none := by
 unfold readF; rw [lookup_putF, if_neg h2, lookup_putF, if_neg h1]; rfl
theorem readF_put (n p v : V) : putF "place" v (readF n p) = readF n v := by
 rw [readF_eq, readF_eq, putF_miss (by decide +kernel), putF_hit]
theorem readF_len (n p : V) : (readF n p).length < 1000 := by rw [readF_eq]; show 2 < 1000; decide
structure ReadTxt (K : W.Frag) (mg : Str -> Option Value) (C : Addr) : Prop where
 cl : Cls K C
 nN : NoAttr K C "numbers"
 nP : NoAttr K C "place"
 mg : mg "Reader" = some (.ref C)
def ReadAt (C : Addr) (H : Hp) (r ca : Addr) (i : Nat) : Prop := ∃ dx, H r = some (.ins C dx (readF (.ref ca) (nI i)))
def spRI (C : Addr) : Sp := fun vs H Q _ => ∃ (p dx ca : Addr), vs = [.ref p, .ref ca] /\ H p = some (.ins C dx []) /\ ∀ H' : Hp, ReadAt C H' p ca 0 -> (∀ b o, H b = some o -> b ≠ p -> H' b = some o) -> Q .non H'
section
variable {P : Program} {w : World} {K : W.Frag} {mg : Str -> Option Value} {base : Heap}
theorem scRI : FnScope ["self", "numbers"] ["self", "numbers"] (defScope (rm 0)) := ⟨rfl, rfl, rfl, by decide +kernel, rfl, by decide +kernel, by decide +kernel⟩
theorem ok_ri {f C : Addr} {fd : FuncData} (F : Fun K "__init__" "Reader.__init__" (rm 0) f fd) (T : ReadTxt K mg C) : FnOk P w K mg base CX0 1 f fd ["self", "numbers"] (spRI C) := by
 refine F.ok scRI (fun vs H Q E h => ?_) (fun cdv A outer s H vs Q E hr h => ?_)
 ·obtain ⟨p, dx, ca, rfl, _⟩ := h
  rfl
 ·obtain ⟨p, dx, ca, rfl, hp, q⟩ := h
  refine ⟨_, pss_cons (ps_fld (pv 0) (pv 1) rfl) (pss_one (ps_fld (pv 0) pe_int rfl)), ?_⟩
  refine ⟨_, rfl, _, rfl, p, C, dx, [], rfl, hp, T.cl, T.nN, (by show 0 < 1000; decide), ?_⟩
  refine ⟨_, rfl, p, C, dx, _, rfl, upd_same, T.cl, T.nP, (by show 1 < 1000; decide), ?_⟩
  refine q _ ⟨dx, upd_same⟩ fun b o e hb => ?_
  rw [upd_ne hb, upd_ne hb]
  exact e
def spAE (K : W.Frag) (C : Addr) : Sp := fun vs H Q _ => ∃ (r ca : Addr) (i : Nat) (ns : List Nat), vs = [.ref r] /\ ReadAt C H r ca i /\ SqL K H ca (ns.map nI) /\ Q (.bl (decide (ns.length <= i))) H
theorem scAE : FnScope ["self"] ["self"] (defScope (rm 1)) := ⟨rfl, rfl, rfl, by decide +kernel, rfl, by decide +kernel, by decide +kernel⟩
theorem ok_ae {f C : Addr} {fd : FuncData} (F : Fun K "at_end" "Reader.at_end" (rm 1) f fd) (T : Bl mg) (S : ReadTxt K mg C) : FnOk P w K mg base CX0 1 f fd ["self"] (spAE K C) := by
 refine F.ok scAE (fun vs H Q E h => ?_) (fun cdv A outer s H vs Q E hr h => ?_)
 ·obtain ⟨r, ca, i, ns, rfl, _⟩ := h
  rfl
 ·obtain ⟨r, ca, i, ns, rfl, ⟨dx, h1⟩, hc, q⟩ := h
  refine ⟨_, pss_one (ps_ret (pe_cmpR op_ge (pe_fld (pv 0) rfl) (pe_callB call_len_seq (by rfl) T.len_ PySem.boot_len (pa_cons (pe_fld (pv 0) rfl) pa_nil)) (nomark _))), ?_⟩
  refine ⟨_, rfl, r, C, dx, _, _, rfl, h1, S.cl, S.nP, readF_place _ _, _, rfl, r, C, dx, _, _, rfl, h1, S.cl, S.nN, readF_numbers _ _, ca, _, rfl, .inl hc, _, _, rfl, rfl, ?_⟩
  have e : decide ((((ns.map nI).length : Nat) : Int) <= (i : Int)) = decide (ns.length <= i) := by
   rw [decide_eq_decide, List.length_map]; omega
  show Q (V.bl (decide ((((ns.map nI).length : Nat) : Int) <= (i : Int)))) H
  rw [e]
  exact q
def spTN (K : W.Frag) (C : Addr) : Sp := fun vs H Q _ => ∃ (r ca : Addr) (i n : Nat) (ns : List Nat), vs = [.ref r] /\ ReadAt C H r ca i /\ SqL K H ca (ns.map nI) /\ ns[i]? = some n /\
 ∀ H' : Hp, ReadAt C H' r ca (i + 1) -> (∀ b o, H b = some o -> b ≠ r -> H' b = some o) -> (∀ b, H b = none -> H' b = none) -> Q (nI n) H'
theorem scTN : FnScope ["self", "number"] ["self"] (defScope (rm 2)) := ⟨rfl, rfl, rfl, by decide +kernel, rfl, by decide +kernel, by decide +kernel⟩
theorem ok_tn {f C : Addr} {fd : FuncData} (F : Fun K "take_number" "Reader.take_number" (rm 2) f fd) (T : Bl mg) (S : ReadTxt K mg C) : FnOk P w K mg base CX0 1 f fd ["self"] (spTN K C) := by
 refine F.ok scTN (fun vs H Q E h => ?_) (fun cdv A outer s H vs Q E hr h => ?_)
 ·obtain ⟨r, ca, i, n, ns, rfl, _⟩ := h
  rfl
 ·obtain ⟨r, ca, i, n, ns, rfl, ⟨dx, h1⟩, hc, hn, q⟩ := h
  refine ⟨_, pss_cons (ps_set (i := 1) scTN.nd rfl (Or.inl rfl) (pe_ix ix_list (pe_fld (pv 0) rfl) (pe_fld (pv 0) rfl) (fun _ _ => rfl))) (pss_cons (ps_fldaug (pv 0) pe_int in_add) (pss_one (ps_ret (pv 1)))), ?_⟩
  refine ⟨_, rfl, r, C, dx, _, _, rfl, h1, S.cl, S.nN, readF_numbers _ _, _, rfl, r, C, dx, _, _, rfl, h1, S.cl, S.nP, readF_place _ _, ca, _, _, nI n, rfl, rfl, hc, atI_nat (j := i) (by rw [List.getElem?_map, hn]; rfl), ?_⟩
  refine ⟨_, rfl, r, C, dx, _, _, rfl, h1, S.cl, S.nP, readF_place _ _, _, _, rfl, rfl, dx, _, h1, readF_len _ _, ?_⟩
  rw [readF_put]
  refine ⟨_, rfl, q _ ⟨dx, ?_⟩ (fun b o hb hn => by rw [upd_ne hn]; exact hb) (fun b hb => by rw [upd_ne (Ne.symm (ne_of_none h1 hb))]; exact hb)⟩
  rw [upd_same]
  rfl
def spTR (K : W.Frag) (C : Addr) : Sp := fun vs H Q _ => ∃ (r ca : Addr) (i : Nat) (ns l rest : List Nat), vs = [.ref r] /\ ReadAt C H r ca i /\ SqL K H ca (ns.map nI) /\ ns.drop i = l.length :: (l ++ rest) /\
 ∀ (H' : Hp) (p : Addr), ReadAt C H' r ca (i + 1 + l.length) -> (∀ b o, H b = some o -> b ≠ r -> H' b = some o) -> TN K H' p l -> Q (.ref p) H'
theorem scTR : FnScope ["self", "start"] ["self"] (defScope (rm 3)) := ⟨rfl, rfl, rfl, by decide +kernel, rfl, by decide +kernel, by decide +kernel⟩
theorem cut_mid (xs : List V) (a b : Nat) (h : a + b <= xs.length) : cutV xs (some (a : Int)) (some ((a + b : Nat) : Int)) = (xs.drop a).take b := by
 unfold cutV
 rw [HT.sIx_nat, HT.sIx_nat]
 have e1 : min a xs.length = a := by omega
 have e2 : min (a + b) xs.length = a + b := by omega
 rw [e1, e2]
 have : a + b - a = b := by omega
 rw [this]
theorem ok_tr {f C : Addr} {fd : FuncData} (F : Fun K "take_row" "Reader.take_row" (rm 3) f fd) (T : Bl mg) (S : ReadTxt K mg C) : FnOk P w K mg base CX0 1 f fd ["self"] (spTR K C) := by
 refine F.ok scTR (fun vs H Q E h => ?_) (fun cdv A outer s H vs Q E hr h => ?_)
 ·obtain ⟨r, ca, i, ns, l, rest, rfl, _⟩ := h
  rfl
 ·obtain ⟨r, ca, i, ns, l, rest, rfl, ⟨dx, h1⟩, hc, hd, q⟩ := h
  obtain ⟨g1, g2, g3⟩ := drop_head hd
  have hlen : i + 1 + l.length <= ns.length := by
   have := congrArg List.length g2
   rw [List.length_drop, List.length_append] at this
   omega
  refine ⟨_, pss_cons (ps_set (i := 1) scTR.nd rfl (Or.inl rfl) (pe_op op_add (pe_fld (pv 0) rfl) pe_int))
   (pss_cons (ps_fld (pv 0) (pe_op op_add (pv 1) (pe_ix ix_list (pe_fld (pv 0) rfl) (pe_fld (pv 0) rfl) (fun _ _ => rfl))) rfl)
   (pss_one (ps_ret (pe_callTy call_tuple_of (by rfl) T.tuple_ boot_tuple7 (pa_cons (pe_slice sl_list (pe_fld (pv 0) rfl) (po_some (pv 1)) (po_some (pe_fld (pv 0) rfl))) pa_nil))))), ?_⟩
  refine ⟨_, rfl, r, C, dx, _, _, rfl, h1, S.cl, S.nP, readF_place _ _, _, _, rfl, rfl, ?_⟩
  refine ⟨_, rfl, _, rfl, r, C, dx, _, _, rfl, h1, S.cl, S.nN, readF_numbers _ _, _, rfl, r, C, dx, _, _, rfl, h1, S.cl, S.nP, readF_place _ _, ca, _, _, nI l.length, rfl, rfl, hc, atI_nat (j := i) (by rw [List.getElem?_map, g1]; rfl), _, _, rfl, rfl, _, rfl, r, C, dx, _, rfl, h1, S.cl, S.nP, readF_len _ _, ?_⟩
  rw [readF_put]
  have ee : V.int ((i : Int) + 1 + (l.length : Int)) = nI (i + 1 + l.length) := by
   show V.int _ = V.int _
   congr 1
  have ncr : SqL K (upd H r (.ins C dx (readF (.ref ca) (nI (i + 1 + l.length))))) ca (ns.map nI) := by
   rcases hc with (hc | ⟨o, hc⟩) | hc
   ·exact .inl (.inl (by rw [upd_ne (ne_of hc h1 (by intro z; cases z))]; exact hc))
   ·exact .inl (.inr ⟨o, by rw [upd_ne (ne_of hc h1 (by intro z; cases z))]; exact hc⟩)
   ·exact .inr hc
  refine ⟨_, rfl, r, C, dx, _, _, rfl, upd_same, S.cl, S.nN, readF_numbers _ _, _, rfl, (i : Int) + 1, rfl, _, rfl, r, C, dx, _, _, rfl, upd_same, S.cl, S.nP, readF_place _ _, ((i + 1 + l.length : Nat) : Int), rfl, ca, _, rfl, ncr, fun p hp => ?_⟩
  have ec : cutV (ns.map nI) (some ((i : Int) + 1)) (some ((i + 1 + l.length : Nat) : Int)) = l.map nI := by
   have := cut_mid (ns.map nI) (i + 1) l.length (by rw [List.length_map]; exact hlen)
   rw [show ((i : Int) + 1) = ((i + 1 : Nat) : Int) by omega, this, <- List.map_drop, g2, List.map_append, List.take_left' (by rw [List.length_map])]
  rw [ec] at *
  have s1 := same_new (o := .lst (l.map nI)) hp
  refine ⟨p, _, rfl, .inl ⟨SqL.of upd_same, fun p2 hp2 => ?_⟩⟩
  have s2 := same_new (o := .tup (l.map nI)) hp2
  refine q _ p2 ⟨dx, (s1.trans s2) _ _ upd_same⟩ (fun b o hb hn => (s1.trans s2) _ _ (by rw [upd_ne hn]; exact hb)) (SqT.of upd_same)
end
end D
set_option Elab.async false
set_option linter.all false
set_option maxRecDepth 100000
set_option maxHeartbeats 4000000
namespace D
open PySem PySem.Spec PyProof.Rows L2
def Md (P : Program) (w : World) (K : W.Frag) (mg : Str -> Option Value) (base : Heap) (C : Addr) (m : Str) (ps : List Str) (sp : Sp) (k : Nat) : Prop := ∃ (f : Addr) (fd : FuncData), FnOk P w K mg base CX0 k f fd ps sp /\ Meth K C m f /\ Binds K fd ps []
structure Ms (P : Program) (w : World) (K : W.Frag) (mg : Str -> Option Value) (base : Heap) (C R : Addr) : Prop where
 ak : Md P w K mg base C "add_kind" ["self"] (spM K C arT) 1
 con : Md P w K mg base C "add_constructor" ["self", "kind", "fields"] (spM K C (arC K)) 1
 hv : Md P w K mg base C "has_value" ["self", "kind"] (spM K C (arN .hasValue)) 3
 be : Md P w K mg base C "begin" ["self", "kind"] (spM K C (arN .begin_)) 1
 ac : Md P w K mg base C "add_clause" ["self", "pattern"] (spM K C (arR K .clause)) 2
 mi : Md P w K mg base C "missing" ["self"] (spM K C (ar0 .missing)) 6
 re : Md P w K mg base C "reach" ["self", "number"] (spM K C (arN .reach)) 7
 wh : Md P w K mg base C "which" ["self", "value"] (spM K C (arR K .which)) 3
 ch : Md P w K mg base C "choose" ["self", "constructors"] (spM K C (arR K .choose)) 5
 us : Md P w K mg base C "useless" ["self"] (spM K C (ar0 .useless)) 7
 dr : Md P w K mg base C "drop" ["self", "number"] (spM K C (arN .drop)) 1
 en : Md P w K mg base C "end" ["self"] (spM K C (ar0 .end_)) 1
 ae : Md P w K mg base R "at_end" ["self"] (spAE K R) 1
 tn : Md P w K mg base R "take_number" ["self"] (spTN K R) 1
 tr : Md P w K mg base R "take_row" ["self"] (spTR K R) 1
abbrev sAO : Stmt := top 43
def One (K : W.Frag) (C R d r ca : Addr) (i : Nat) (s : Pcheck.State) (c : Pcheck.Call) (H : Hp) (fp : List Addr) (Q : VK) : Prop :=
 ∀ (H' : Hp) (fp' : List Addr) (p : Addr), DeskAt K C H' d fp' (Pcheck.step s c).1 -> ReadAt R H' r ca (i + (MC.numsOf c).length) -> (∀ b o, H b = some o -> b ∉ fp -> b ≠ r -> H' b = some o) -> (∀ b ∈ fp', b ∈ fp ∨ H b = none) -> H p = none ->
  H' p = some (.lst ((PcheckNeutral.told (Pcheck.step s c).2).map V.int)) -> Q (.ref p) H'
def spAO (K : W.Frag) (C R : Addr) : Sp := fun vs H Q _ => ∃ (d r ca : Addr) (i : Nat) (s : Pcheck.State) (fp : List Addr) (c : Pcheck.Call) (ns rest : List Nat), vs = [.ref d, .ref r] /\ DeskAt K C H d fp s /\ MC.StOk s /\ ReadAt R H r ca i /\ SqL K H ca (ns.map nI) /\
 ns.drop i = MC.numsOf c ++ rest /\ (MC.rowOf c).length <= 2048 /\ r ∉ fp /\ One K C R d r ca i s c H fp Q
theorem desk_read {K : W.Frag} {C R : Addr} {H H1 : Hp} {d r ca : Addr} {i : Nat} {fp : List Addr} {s : Pcheck.State} (D : DeskAt K C H d fp s) (hn : r ∉ fp) (hr : ReadAt R H r ca i) (k : ∀ b o, H b = some o -> b ≠ r -> H1 b = some o) : DeskAt K C H1 d fp s := by
 obtain ⟨dx, h1⟩ := hr
 exact D.frame (fun b xs => ⟨fun h => k _ _ h (ne_of h h1 (by intro z; cases z)), fun o h => k _ _ h (ne_of h h1 (by intro z; cases z))⟩) fun b o hb h => k _ _ h fun q => hn (q ▸ hb)
theorem seq_read {K : W.Frag} {R : Addr} {H H1 : Hp} {r ca : Addr} {i : Nat} {c : Addr} {xs : List V} (h : SqL K H c xs) (hr : ReadAt R H r ca i) (k : ∀ b o, H b = some o -> b ≠ r -> H1 b = some o) : SqL K H1 c xs := by
 obtain ⟨dx, h1⟩ := hr
 rcases h with (h | ⟨o, h⟩) | h
 ·exact .inl (.inl (k _ _ h (ne_of h h1 (by intro z; cases z))))
 ·exact .inl (.inr ⟨o, k _ _ h (ne_of h h1 (by intro z; cases z))⟩)
 ·exact .inr h
theorem told_read {K : W.Frag} {C R d r ca : Addr} {i : Nat} {s : Pcheck.State} {c : Pcheck.Call} {H H1 : Hp} {fp : List Addr} {Q : VK} (o : One K C R d r ca i s c H fp Q) (hr : ReadAt R H r ca i) (hn : r ∉ fp) (k : ∀ b o, H b = some o -> b ≠ r -> H1 b = some o) (hr1 : ReadAt R H1 r ca (i + (MC.numsOf c).length)) :
  Told K C d (Pcheck.step s c) H1 fp Q := by
 intro H' fp' p D fr nf hp e
 obtain ⟨dx, h1⟩ := hr
 obtain ⟨dx1, h2⟩ := hr1
 have back : ∀ b, H1 b = none -> H b = none := fun b hb => by
  cases q : H b with
  | none => rfl
  | some u =>
   by_cases e : b = r
   ·subst e
    rw [h2] at hb
    cases hb
   ·rw [k _ _ q e] at hb
    cases hb
 exact o H' fp' p D ⟨dx1, fr _ _ h2 hn⟩ (fun b u hb hnf hbr => fr b u (k b u hb hbr) hnf) (fun b hb => (nf b hb).imp id (back b)) (back p hp) e
section
variable {P : Program} {w : World} {K : W.Frag} {mg : Str -> Option Value} {base : Heap}
theorem scAO : FnScope ["desk", "reader", "call", "kind"] ["desk", "reader"] (defScope sAO) := ⟨rfl, rfl, rfl, by decide +kernel, rfl, by decide +kernel, by decide +kernel⟩
theorem ok_ao {f C R : Addr} {fd : FuncData} (F : Fun K "answer_one" "answer_one" sAO f fd) (S : DeskTxt K mg C) (T : ReadTxt K mg R) (M : Ms P w K mg base C R) : FnOk P w K mg base CX0 8 f fd ["desk", "reader"] (spAO K C R) := by
 obtain ⟨f_ak, fd_ak, G_ak, m_ak, b_ak⟩ := M.ak
 obtain ⟨f_con, fd_con, G_con, m_con, b_con⟩ := M.con
 obtain ⟨f_hv, fd_hv, G_hv, m_hv, b_hv⟩ := M.hv
 obtain ⟨f_be, fd_be, G_be, m_be, b_be⟩ := M.be
 obtain ⟨f_ac, fd_ac, G_ac, m_ac, b_ac⟩ := M.ac
 obtain ⟨f_mi, fd_mi, G_mi, m_mi, b_mi⟩ := M.mi
 obtain ⟨f_re, fd_re, G_re, m_re, b_re⟩ := M.re
 obtain ⟨f_wh, fd_wh, G_wh, m_wh, b_wh⟩ := M.wh
 obtain ⟨f_ch, fd_ch, G_ch, m_ch, b_ch⟩ := M.ch
 obtain ⟨f_us, fd_us, G_us, m_us, b_us⟩ := M.us
 obtain ⟨f_dr, fd_dr, G_dr, m_dr, b_dr⟩ := M.dr
 obtain ⟨f_en, fd_en, G_en, m_en, b_en⟩ := M.en
 obtain ⟨f_tn, fd_tn, G_tn, m_tn, b_tn⟩ := M.tn
 obtain ⟨f_tr, fd_tr, G_tr, m_tr, b_tr⟩ := M.tr
 refine F.ok scAO (fun vs H Q E h => ?_) (fun cdv A outer s0 H vs Q E hr h => ?_)
 ·obtain ⟨d, r, ca, i, s, fp, c, ns, rest, rfl, _⟩ := h
  rfl
 ·obtain ⟨d, r, ca, i, s, fp, c, ns, rest, rfl, hD, ok, hR, hc, hd, hz, hn, k⟩ := h
  have hr1 : Room 1 _ := hr.mono (by decide)
  have hr2 : Room 2 _ := hr.mono (by decide)
  have hr3 : Room 3 _ := hr.mono (by decide)
  have hr5 : Room 5 _ := hr.mono (by decide)
  have hr6 : Room 6 _ := hr.mono (by decide)
  have hr7 : Room 7 _ := hr.mono (by decide)
  refine ⟨_, pss_cons (ps_set (i := 2) scAO.nd rfl (Or.inl rfl) (pe_meth0 (pv 1) T.cl m_tn G_tn hr1 b_tn .nil pass0))
   (pss_cons (ps_if (pt_cmpR op_eq (pv 2) pe_int (nomark _)) (pss_one (ps_ret (pe_meth0 (pv 0) S.cl m_ak G_ak hr1 b_ak .nil pass0))) pss_nil)
   (pss_cons (ps_if (pt_cmpR op_eq (pv 2) pe_int (nomark _)) (pss_cons (ps_set (i := 3) scAO.nd rfl (Or.inl rfl) (pe_meth0 (pv 1) T.cl m_tn G_tn hr1 b_tn .nil pass0)) (pss_one (ps_ret (pe_meth (pv 0) S.cl m_con G_con hr1 b_con .nil pass0 (pa_cons (pv 3) (pa_cons (pe_meth0 (pv 1) T.cl m_tr G_tr hr1 b_tr .nil pass0) pa_nil)))))) pss_nil)
   (pss_cons (ps_if (pt_cmpR op_eq (pv 2) pe_int (nomark _)) (pss_one (ps_ret (pe_meth (pv 0) S.cl m_hv G_hv hr3 b_hv .nil pass0 (pa_cons (pe_meth0 (pv 1) T.cl m_tn G_tn hr1 b_tn .nil pass0) pa_nil)))) pss_nil)
   (pss_cons (ps_if (pt_cmpR op_eq (pv 2) pe_int (nomark _)) (pss_one (ps_ret (pe_meth (pv 0) S.cl m_be G_be hr1 b_be .nil pass0 (pa_cons (pe_meth0 (pv 1) T.cl m_tn G_tn hr1 b_tn .nil pass0) pa_nil)))) pss_nil)
   (pss_cons (ps_if (pt_cmpR op_eq (pv 2) pe_int (nomark _)) (pss_one (ps_ret (pe_meth (pv 0) S.cl m_ac G_ac hr2 b_ac .nil pass0 (pa_cons (pe_meth0 (pv 1) T.cl m_tr G_tr hr1 b_tr .nil pass0) pa_nil)))) pss_nil)
   (pss_cons (ps_if (pt_cmpR op_eq (pv 2) pe_int (nomark _)) (pss_one (ps_ret (pe_meth0 (pv 0) S.cl m_mi G_mi hr6 b_mi .nil pass0))) pss_nil)
   (pss_cons (ps_if (pt_cmpR op_eq (pv 2) pe_int (nomark _)) (pss_one (ps_ret (pe_meth (pv 0) S.cl m_re G_re hr7 b_re .nil pass0 (pa_cons (pe_meth0 (pv 1) T.cl m_tn G_tn hr1 b_tn .nil pass0) pa_nil)))) pss_nil)
   (pss_cons (ps_if (pt_cmpR op_eq (pv 2) pe_int (nomark _)) (pss_one (ps_ret (pe_meth (pv 0) S.cl m_wh G_wh hr3 b_wh .nil pass0 (pa_cons (pe_meth0 (pv 1) T.cl m_tr G_tr hr1 b_tr .nil pass0) pa_nil)))) pss_nil)
   (pss_cons (ps_if (pt_cmpR op_eq (pv 2) pe_int (nomark _)) (pss_one (ps_ret (pe_meth (pv 0) S.cl m_ch G_ch hr5 b_ch .nil pass0 (pa_cons (pe_meth0 (pv 1) T.cl m_tr G_tr hr1 b_tr .nil pass0) pa_nil)))) pss_nil)
   (pss_cons (ps_if (pt_cmpR op_eq (pv 2) pe_int (nomark _)) (pss_one (ps_ret (pe_meth0 (pv 0) S.cl m_us G_us hr7 b_us .nil pass0))) pss_nil)
   (pss_cons (ps_if (pt_cmpR op_eq (pv 2) pe_int (nomark _)) (pss_one (ps_ret (pe_meth (pv 0) S.cl m_dr G_dr hr1 b_dr .nil pass0 (pa_cons (pe_meth0 (pv 1) T.cl m_tn G_tn hr1 b_tn .nil pass0) pa_nil)))) pss_nil)
   (pss_cons (ps_if (pt_cmpR op_eq (pv 2) pe_int (nomark _)) (pss_one (ps_ret (pe_meth0 (pv 0) S.cl m_en G_en hr1 b_en .nil pass0))) pss_nil)
   (pss_one ps_never))))))))))))), ?_⟩
  obtain ⟨dx, hr0⟩ := id hR
  obtain ⟨dd, kk, cc, ks, cs, mv, efp, _, hd0, _⟩ := id hD
  have ex : ∃ n0 tl, MC.numsOf c = n0 :: tl := by
   cases e : MC.numsOf c with
   | nil => exact absurd e (MC.nums_ne c)
   | cons a b => exact ⟨a, b, rfl⟩
  obtain ⟨n0, tl, en⟩ := ex
  rw [en, List.cons_append] at hd
  obtain ⟨g1, g2, g3⟩ := drop_head hd
  refine ⟨_, rfl, r, dx, _, rfl, hr0, readF_no _ _ (by decide +kernel) (by decide +kernel), r, ca, i, n0, ns, rfl, hR, hc, g1, fun H1 hR1 k1 _ => ?_⟩
  have hD1 := desk_read hD hn hR k1
  have hc1 := seq_read hc hR k1
  obtain ⟨dx1, hr1'⟩ := id hR1
  obtain ⟨dd1, kk1, cc1, ks1, cs1, mv1, efp1, _, hd1, _⟩ := id hD1
  have no : ∀ {x : Str} (k m c : V), ¬ x = "kinds" -> ¬ x = "matched" -> ¬ x = "clauses" -> (deskF k m c).lookup x = none := fun k m c h1 h2 h3 => deskF_no k m c h1 h2 h3
  cases c with
  | type_ =>
   obtain ⟨rfl, rfl⟩ := List.cons.inj en
   refine ⟨_, rfl, rfl, _, rfl, iteT ?_⟩
   refine ⟨_, rfl, d, dd1, _, rfl, hd1, no _ _ _ (by decide +kernel) (by decide +kernel) (by decide +kernel), d, _, s, fp, _, rfl, ⟨rfl, rfl⟩, hD1, ok, hz, told_read k hR hn k1 hR1⟩
  | con t l =>
   obtain ⟨rfl, rfl⟩ := List.cons.inj en
   refine ⟨_, rfl, rfl, _, rfl, iteF ?_⟩
   refine ⟨_, rfl, rfl, _, rfl, iteT ?_⟩
   have g2' : ns.drop (i + 1) = t :: (l.length :: (l ++ rest)) := g2
   obtain ⟨g4, g5, g6⟩ := drop_head g2'
   refine ⟨_, rfl, r, dx1, _, rfl, hr1', readF_no _ _ (by decide +kernel) (by decide +kernel), r, ca, i + 1, t, ns, rfl, hR1, hc1, g4, fun H2 hR2 k2 _ => ?_⟩
   have hD2 := desk_read hD1 hn hR1 k2
   have hc2 := seq_read hc1 hR1 k2
   obtain ⟨dx2, hr2'⟩ := id hR2
   obtain ⟨dd2, kk2, cc2, ks2, cs2, mv2, efp2, _, hd2, _⟩ := id hD2
   refine ⟨_, rfl, d, dd2, _, rfl, hd2, no _ _ _ (by decide +kernel) (by decide +kernel) (by decide +kernel), _, rfl, _, rfl, r, dx2, _, rfl, hr2', readF_no _ _ (by decide +kernel) (by decide +kernel), r, ca, i + 1 + 1, ns, l, rest, rfl, hR2, hc2, g5, fun H3 q hR3 k3 hq => ?_⟩
   have hD3 := desk_read hD2 hn hR2 k3
   have k03 : ∀ b o, H b = some o -> b ≠ r -> H3 b = some o := fun b o h e => k3 _ _ (k2 _ _ (k1 _ _ h e) e) e
   exact ⟨d, _, s, fp, .con t l, rfl, ⟨t, q, l, rfl, hq, rfl⟩, hD3, ok, hz, told_read k hR hn k03 (by
    have e : i + (MC.numsOf (.con t l)).length = i + 1 + 1 + 1 + l.length := by simp [MC.numsOf]; omega
    rw [e]; exact hR3)⟩
  | hasValue t =>
   obtain ⟨rfl, rfl⟩ := List.cons.inj en
   refine ⟨_, rfl, rfl, _, rfl, iteF ?_⟩
   refine ⟨_, rfl, rfl, _, rfl, iteF ?_⟩
   refine ⟨_, rfl, rfl, _, rfl, iteT ?_⟩
   have g2' : ns.drop (i + 1) = t :: rest := g2
   obtain ⟨g4, g5, g6⟩ := drop_head g2'
   refine ⟨_, rfl, d, dd1, _, rfl, hd1, no _ _ _ (by decide +kernel) (by decide +kernel) (by decide +kernel), _, rfl, r, dx1, _, rfl, hr1', readF_no _ _ (by decide +kernel) (by decide +kernel), r, ca, i + 1, t, ns, rfl, hR1, hc1, g4, fun H2 hR2 k2 _ => ?_⟩
   have hD2 := desk_read hD1 hn hR1 k2
   have k02 : ∀ b o, H b = some o -> b ≠ r -> H2 b = some o := fun b o h e => k2 _ _ (k1 _ _ h e) e
   exact ⟨d, _, s, fp, _, rfl, ⟨t, rfl, rfl⟩, hD2, ok, hz, told_read k hR hn k02 hR2⟩
  | begin_ t =>
   obtain ⟨rfl, rfl⟩ := List.cons.inj en
   refine ⟨_, rfl, rfl, _, rfl, iteF ?_⟩
   refine ⟨_, rfl, rfl, _, rfl, iteF ?_⟩
   refine ⟨_, rfl, rfl, _, rfl, iteF ?_⟩
   refine ⟨_, rfl, rfl, _, rfl, iteT ?_⟩
   have g2' : ns.drop (i + 1) = t :: rest := g2
   obtain ⟨g4, g5, g6⟩ := drop_head g2'
   refine ⟨_, rfl, d, dd1, _, rfl, hd1, no _ _ _ (by decide +kernel) (by decide +kernel) (by decide +kernel), _, rfl, r, dx1, _, rfl, hr1', readF_no _ _ (by decide +kernel) (by decide +kernel), r, ca, i + 1, t, ns, rfl, hR1, hc1, g4, fun H2 hR2 k2 _ => ?_⟩
   have hD2 := desk_read hD1 hn hR1 k2
   have k02 : ∀ b o, H b = some o -> b ≠ r -> H2 b = some o := fun b o h e => k2 _ _ (k1 _ _ h e) e
   exact ⟨d, _, s, fp, _, rfl, ⟨t, rfl, rfl⟩, hD2, ok, hz, told_read k hR hn k02 hR2⟩
  | clause l =>
   obtain ⟨rfl, rfl⟩ := List.cons.inj en
   refine ⟨_, rfl, rfl, _, rfl, iteF ?_⟩
   refine ⟨_, rfl, rfl, _, rfl, iteF ?_⟩
   refine ⟨_, rfl, rfl, _, rfl, iteF ?_⟩
   refine ⟨_, rfl, rfl, _, rfl, iteF ?_⟩
   refine ⟨_, rfl, rfl, _, rfl, iteT ?_⟩
   have g2' : ns.drop (i + 1) = l.length :: (l ++ rest) := g2
   refine ⟨_, rfl, d, dd1, _, rfl, hd1, no _ _ _ (by decide +kernel) (by decide +kernel) (by decide +kernel), _, rfl, r, dx1, _, rfl, hr1', readF_no _ _ (by decide +kernel) (by decide +kernel), r, ca, i + 1, ns, l, rest, rfl, hR1, hc1, g2', fun H2 q hR2 k2 hq => ?_⟩
   have hD2 := desk_read hD1 hn hR1 k2
   have k02 : ∀ b o, H b = some o -> b ≠ r -> H2 b = some o := fun b o h e => k2 _ _ (k1 _ _ h e) e
   exact ⟨d, _, s, fp, _, rfl, ⟨q, l, rfl, hq, rfl⟩, hD2, ok, hz, told_read k hR hn k02 (by
    have e : i + (l.length + 1 + 1) = i + 1 + 1 + l.length := by omega
    show ReadAt R H2 r ca (i + (l.length + 1 + 1))
    rw [e]; exact hR2)⟩
  | missing =>
   obtain ⟨rfl, rfl⟩ := List.cons.inj en
   refine ⟨_, rfl, rfl, _, rfl, iteF ?_⟩
   refine ⟨_, rfl, rfl, _, rfl, iteF ?_⟩
   refine ⟨_, rfl, rfl, _, rfl, iteF ?_⟩
   refine ⟨_, rfl, rfl, _, rfl, iteF ?_⟩
   refine ⟨_, rfl, rfl, _, rfl, iteF ?_⟩
   refine ⟨_, rfl, rfl, _, rfl, iteT ?_⟩
   refine ⟨_, rfl, d, dd1, _, rfl, hd1, no _ _ _ (by decide +kernel) (by decide +kernel) (by decide +kernel), d, _, s, fp, _, rfl, ⟨rfl, rfl⟩, hD1, ok, hz, told_read k hR hn k1 hR1⟩
  | reach t =>
   obtain ⟨rfl, rfl⟩ := List.cons.inj en
   refine ⟨_, rfl, rfl, _, rfl, iteF ?_⟩
   refine ⟨_, rfl, rfl, _, rfl, iteF ?_⟩
   refine ⟨_, rfl, rfl, _, rfl, iteF ?_⟩
   refine ⟨_, rfl, rfl, _, rfl, iteF ?_⟩
   refine ⟨_, rfl, rfl, _, rfl, iteF ?_⟩
   refine ⟨_, rfl, rfl, _, rfl, iteF ?_⟩
   refine ⟨_, rfl, rfl, _, rfl, iteT ?_⟩
   have g2' : ns.drop (i + 1) = t :: rest := g2
   obtain ⟨g4, g5, g6⟩ := drop_head g2'
   refine ⟨_, rfl, d, dd1, _, rfl, hd1, no _ _ _ (by decide +kernel) (by decide +kernel) (by decide +kernel), _, rfl, r, dx1, _, rfl, hr1', readF_no _ _ (by decide +kernel) (by decide +kernel), r, ca, i + 1, t, ns, rfl, hR1, hc1, g4, fun H2 hR2 k2 _ => ?_⟩
   have hD2 := desk_read hD1 hn hR1 k2
   have k02 : ∀ b o, H b = some o -> b ≠ r -> H2 b = some o := fun b o h e => k2 _ _ (k1 _ _ h e) e
   exact ⟨d, _, s, fp, _, rfl, ⟨t, rfl, rfl⟩, hD2, ok, hz, told_read k hR hn k02 hR2⟩
  | which l =>
   obtain ⟨rfl, rfl⟩ := List.cons.inj en
   refine ⟨_, rfl, rfl, _, rfl, iteF ?_⟩
   refine ⟨_, rfl, rfl, _, rfl, iteF ?_⟩
   refine ⟨_, rfl, rfl, _, rfl, iteF ?_⟩
   refine ⟨_, rfl, rfl, _, rfl, iteF ?_⟩
   refine ⟨_, rfl, rfl, _, rfl, iteF ?_⟩
   refine ⟨_, rfl, rfl, _, rfl, iteF ?_⟩
   refine ⟨_, rfl, rfl, _, rfl, iteF ?_⟩
   refine ⟨_, rfl, rfl, _, rfl, iteT ?_⟩
   have g2' : ns.drop (i + 1) = l.length :: (l ++ rest) := g2
   refine ⟨_, rfl, d, dd1, _, rfl, hd1, no _ _ _ (by decide +kernel) (by decide +kernel) (by decide +kernel), _, rfl, r, dx1, _, rfl, hr1', readF_no _ _ (by decide +kernel) (by decide +kernel), r, ca, i + 1, ns, l, rest, rfl, hR1, hc1, g2', fun H2 q hR2 k2 hq => ?_⟩
   have hD2 := desk_read hD1 hn hR1 k2
   have k02 : ∀ b o, H b = some o -> b ≠ r -> H2 b = some o := fun b o h e => k2 _ _ (k1 _ _ h e) e
   exact ⟨d, _, s, fp, _, rfl, ⟨q, l, rfl, hq, rfl⟩, hD2, ok, hz, told_read k hR hn k02 (by
    have e : i + (l.length + 1 + 1) = i + 1 + 1 + l.length := by omega
    show ReadAt R H2 r ca (i + (l.length + 1 + 1))
    rw [e]; exact hR2)⟩
  | choose l =>
   obtain ⟨rfl, rfl⟩ := List.cons.inj en
   refine ⟨_, rfl, rfl, _, rfl, iteF ?_⟩
   refine ⟨_, rfl, rfl, _, rfl, iteF ?_⟩
   refine ⟨_, rfl, rfl, _, rfl, iteF ?_⟩
   refine ⟨_, rfl, rfl, _, rfl, iteF ?_⟩
   refine ⟨_, rfl, rfl, _, rfl, iteF ?_⟩
   refine ⟨_, rfl, rfl, _, rfl, iteF ?_⟩
   refine ⟨_, rfl, rfl, _, rfl, iteF ?_⟩
   refine ⟨_, rfl, rfl, _, rfl, iteF ?_⟩
   refine ⟨_, rfl, rfl, _, rfl, iteT ?_⟩
   have g2' : ns.drop (i + 1) = l.length :: (l ++ rest) := g2
   refine ⟨_, rfl, d, dd1, _, rfl, hd1, no _ _ _ (by decide +kernel) (by decide +kernel) (by decide +kernel), _, rfl, r, dx1, _, rfl, hr1', readF_no _ _ (by decide +kernel) (by decide +kernel), r, ca, i + 1, ns, l, rest, rfl, hR1, hc1, g2', fun H2 q hR2 k2 hq => ?_⟩
   have hD2 := desk_read hD1 hn hR1 k2
   have k02 : ∀ b o, H b = some o -> b ≠ r -> H2 b = some o := fun b o h e => k2 _ _ (k1 _ _ h e) e
   exact ⟨d, _, s, fp, _, rfl, ⟨q, l, rfl, hq, rfl⟩, hD2, ok, hz, told_read k hR hn k02 (by
    have e : i + (l.length + 1 + 1) = i + 1 + 1 + l.length := by omega
    show ReadAt R H2 r ca (i + (l.length + 1 + 1))
    rw [e]; exact hR2)⟩
  | useless =>
   obtain ⟨rfl, rfl⟩ := List.cons.inj en
   refine ⟨_, rfl, rfl, _, rfl, iteF ?_⟩
   refine ⟨_, rfl, rfl, _, rfl, iteF ?_⟩
   refine ⟨_, rfl, rfl, _, rfl, iteF ?_⟩
   refine ⟨_, rfl, rfl, _, rfl, iteF ?_⟩
   refine ⟨_, rfl, rfl, _, rfl, iteF ?_⟩
   refine ⟨_, rfl, rfl, _, rfl, iteF ?_⟩
   refine ⟨_, rfl, rfl, _, rfl, iteF ?_⟩
   refine ⟨_, rfl, rfl, _, rfl, iteF ?_⟩
   refine ⟨_, rfl, rfl, _, rfl, iteF ?_⟩
   refine ⟨_, rfl, rfl, _, rfl, iteT ?_⟩
   refine ⟨_, rfl, d, dd1, _, rfl, hd1, no _ _ _ (by decide +kernel) (by decide +kernel) (by decide +kernel), d, _, s, fp, _, rfl, ⟨rfl, rfl⟩, hD1, ok, hz, told_read k hR hn k1 hR1⟩
  | drop t =>
   obtain ⟨rfl, rfl⟩ := List.cons.inj en
   refine ⟨_, rfl, rfl, _, rfl, iteF ?_⟩
   refine ⟨_, rfl, rfl, _, rfl, iteF ?_⟩
   refine ⟨_, rfl, rfl, _, rfl, iteF ?_⟩
   refine ⟨_, rfl, rfl, _, rfl, iteF ?_⟩
   refine ⟨_, rfl, rfl, _, rfl, iteF ?_⟩
   refine ⟨_, rfl, rfl, _, rfl, iteF ?_⟩
   refine ⟨_, rfl, rfl, _, rfl, iteF ?_⟩
   refine ⟨_, rfl, rfl, _, rfl, iteF ?_⟩
   refine ⟨_, rfl, rfl, _, rfl, iteF ?_⟩
   refine ⟨_, rfl, rfl, _, rfl, iteF ?_⟩
   refine ⟨_, rfl, rfl, _, rfl, iteT ?_⟩
   have g2' : ns.drop (i + 1) = t :: rest := g2
   obtain ⟨g4, g5, g6⟩ := drop_head g2'
   refine ⟨_, rfl, d, dd1, _, rfl, hd1, no _ _ _ (by decide +kernel) (by decide +kernel) (by decide +kernel), _, rfl, r, dx1, _, rfl, hr1', readF_no _ _ (by decide +kernel) (by decide +kernel), r, ca, i + 1, t, ns, rfl, hR1, hc1, g4, fun H2 hR2 k2 _ => ?_⟩
   have hD2 := desk_read hD1 hn hR1 k2
   have k02 : ∀ b o, H b = some o -> b ≠ r -> H2 b = some o := fun b o h e => k2 _ _ (k1 _ _ h e) e
   exact ⟨d, _, s, fp, _, rfl, ⟨t, rfl, rfl⟩, hD2, ok, hz, told_read k hR hn k02 hR2⟩
  | end_ =>
   obtain ⟨rfl, rfl⟩ := List.cons.inj en
   refine ⟨_, rfl, rfl, _, rfl, iteF ?_⟩
   refine ⟨_, rfl, rfl, _, rfl, iteF ?_⟩
   refine ⟨_, rfl, rfl, _, rfl, iteF ?_⟩
   refine ⟨_, rfl, rfl, _, rfl, iteF ?_⟩
   refine ⟨_, rfl, rfl, _, rfl, iteF ?_⟩
   refine ⟨_, rfl, rfl, _, rfl, iteF ?_⟩
   refine ⟨_, rfl, rfl, _, rfl, iteF ?_⟩
   refine ⟨_, rfl, rfl, _, rfl, iteF ?_⟩
   refine ⟨_, rfl, rfl, _, rfl, iteF ?_⟩
   refine ⟨_, rfl, rfl, _, rfl, iteF ?_⟩
   refine ⟨_, rfl, rfl, _, rfl, iteF ?_⟩
   refine ⟨_, rfl, rfl, _, rfl, iteT ?_⟩
   refine ⟨_, rfl, d, dd1, _, rfl, hd1, no _ _ _ (by decide +kernel) (by decide +kernel) (by decide +kernel), d, _, s, fp, _, rfl, ⟨rfl, rfl⟩, hD1, ok, hz, told_read k hR hn k1 hR1⟩
end
end D
set_option Elab.async false
set_option linter.all false
set_option maxRecDepth 100000
set_option maxHeartbeats 4000000
namespace D
open PySem PySem.Spec PyProof.Rows L2
abbrev sAns : Stmt := top 44
def spAns (K : W.Frag) : Sp := fun vs H Q _ => ∃ (a : Addr) (zs : List Int), vs = [.ref a] /\ SqL K H a (zs.map V.int) /\ PyWrpchk.answers_asked zs = true /\ ∀ (H' : Hp) (p : Addr), H' p = some (.lst ((PyWrpchk.answers zs).map V.int)) -> Q (.ref p) H'
section
variable {P : Program} {w : World} {K : W.Frag} {mg : Str -> Option Value} {base : Heap}
theorem scAns : FnScope ["calls", "desk", "reader", "told", "answer"] ["calls"] (defScope sAns) := ⟨rfl, rfl, rfl, by decide +kernel, rfl, by decide +kernel, by decide +kernel⟩
theorem ok_ans {f C R fi fj fo : Addr} {fd fdi fdj fdo : FuncData} (F : Fun K "answers" "answers" sAns f fd) (B : Bl mg) (S : DeskTxt K mg C) (T : ReadTxt K mg R)
  (GD : FnOk P w K mg base CX0 1 fi fdi ["self"] (spDI C)) (MD : Mk K C fi) (bD : Binds K fdi ["self"] [])
  (GR : FnOk P w K mg base CX0 1 fj fdj ["self", "numbers"] (spRI R)) (MR : Mk K R fj) (bR : Binds K fdj ["self", "numbers"] [])
  (AE : Md P w K mg base R "at_end" ["self"] (spAE K R) 1)
  (GO : FnOk P w K mg base CX0 8 fo fdo ["desk", "reader"] (spAO K C R)) (mO : mg "answer_one" = some (.ref fo)) (kO : PySem.W.keepIn K (.ref fo) = true) (bO : Binds K fdo ["desk", "reader"] []) :
  FnOk P w K mg base CX0 9 f fd ["calls"] (spAns K) := by
 obtain ⟨fe, fde, GE, mE, bE⟩ := AE
 refine F.ok scAns (fun vs H Q E h => ?_) (fun cdv A outer s0 H vs Q E hr h => ?_)
 ·obtain ⟨a, zs, rfl, _⟩ := h
  rfl
 ·obtain ⟨a, zs, rfl, ha, hask, k⟩ := h
  have hr8 : Room 8 _ := hr.mono (by decide)
  have hr2 : Room 2 _ := hr.mono (by decide)
  have hr1 : Room 1 _ := hr.mono (by decide)
  have big : (10000000 : Nat) <= sizeLine := by decide
  obtain ⟨all, ez, ea, hl, hz⟩ := MC.parse hask
  have ens : zs.map V.int = (all.flatMap MC.numsOf).map nI := by
   rw [ez]
   unfold MC.cI
   rw [List.map_map]
   rfl
  rw [ens] at ha
  rw [ea] at k
  generalize hns : all.flatMap MC.numsOf = ns at ha
  refine ⟨_, pss_cons (ps_set (i := 1) scAns.nd rfl (Or.inl rfl) (pe_make0 MD GD hr2 (by rfl) S.mg bD .nil pass0))
   (pss_cons (ps_set (i := 2) scAns.nd rfl (Or.inl rfl) (pe_make MR GR hr2 (by rfl) T.mg bR .nil pass0 (pa_cons (pv 0) pa_nil)))
   (pss_cons (ps_set (i := 3) scAns.nd rfl (Or.inl rfl) (pe_lst pa_nil))
   (pss_cons (ps_while PassesOwn.never (pt_not (pt_val (pe_meth0 (pv 2) T.cl mE GE hr1 bE .nil pass0)))
    (pss_cons (ps_set (i := 4) scAns.nd rfl (Or.inl rfl) (pe_call GO hr8 (by rfl) mO kO bO .nil pass0 (pa_cons (pv 1) (pa_cons (pv 2) pa_nil))))
    (pss_cons (ps_expr (pe_bm PySem.F.plainAttrs_list PySem.F.slot_list_append PySem.F.type_list_append mt_append (pv 3) (pa_cons (pe_callB call_len_seq (by rfl) B.len_ PySem.boot_len (pa_cons (pv 4) pa_nil)) pa_nil)))
    (pss_one (ps_expr (pe_bm PySem.F.plainAttrs_list PySem.F.slot_list_extend PySem.F.type_list_extend mt_extend (pv 3) (pa_cons (pv 4) pa_nil)))))))
   (pss_one (ps_ret (pv 3)))))), ?_⟩
  intro d dd n1 n2 n3
  refine ⟨d, dd, rfl, upd_same, fun H1 kk cc e1 e2 e3 nkc nk nc kp => ⟨rfl, ?_⟩⟩
  have s1 : Same H H1 := Same.made n1 n2 kp
  have nk0 : H kk = none := by
   have a1 : kk ≠ d := fun q => by rw [q, upd_same] at nk; cases nk
   rw [upd_ne a1] at nk
   have a2 : kk ≠ dd := fun q => by rw [q, upd_same] at nk; cases nk
   rw [upd_ne a2] at nk
   exact nk
  have nc0 : H cc = none := by
   have a1 : cc ≠ d := fun q => by rw [q, upd_same] at nc; cases nc
   rw [upd_ne a1] at nc
   have a2 : cc ≠ dd := fun q => by rw [q, upd_same] at nc; cases nc
   rw [upd_ne a2] at nc
   exact nc
  have D1 : DeskAt K C H1 d [d, kk, cc] Pcheck.start := ⟨dd, kk, cc, [], [], .non, rfl, by simp [nkc], e1, e2, e3, .nil, rfl⟩
  refine ⟨_, rfl, fun r dr m1 m2 m3 => ⟨r, dr, a, rfl, upd_same, fun H2 hR kp2 => ⟨rfl, ?_⟩⟩⟩
  have s2 : Same H1 H2 := Same.made m1 m2 kp2
  have s12 := s1.trans s2
  refine ⟨(by show 0 <= sizeLine; decide), fun tl htl => ?_⟩
  have s3 : Same H2 (upd H2 tl (.lst [])) := same_new htl
  have s03 := s12.trans s3
  have hr0 : H r = none := s1.free m1
  have ht0 : H tl = none := s12.free htl
  have rtl : r ≠ tl := by
   obtain ⟨dx, q⟩ := hR
   exact ne_of_none q htl
  refine ⟨fun m σ H' => ∃ (xs : List Pcheck.Call) (s : Pcheck.State) (fp : List Addr) (i : Nat) (said : List Int) (x4 : Option V), σ = [some (.ref a), some (.ref d), some (.ref r), some (.ref tl), x4] /\ Same H H' /\ DeskAt K C H' d fp s /\ MC.StOk s /\ ReadAt R H' r a i /\ ns.drop i = xs.flatMap MC.numsOf /\
    H' tl = some (.lst (said.map V.int)) /\ said ++ MC.runC s xs = MC.runC Pcheck.start all /\ r ∉ fp /\ tl ∉ fp /\ (∀ b ∈ fp, H b = none) /\ (∀ x ∈ xs, (MC.rowOf x).length <= 2048) /\ said.length + 5001 * xs.length <= 1000200 /\ m = xs.length,
   ⟨_, all, Pcheck.start, [d, kk, cc], 0, [], _, rfl, s03, D1.same (s2.trans s3), MC.stOk_start, ?_, by rw [hns]; rfl, upd_same, rfl, ?_, ?_, ?_, hz, by simp only [List.length_nil]; omega, rfl⟩, ?_⟩
  ·obtain ⟨dx, q⟩ := hR
   exact ⟨dx, s3 _ _ q⟩
  ·simp only [List.mem_cons, List.not_mem_nil, or_false, not_or]
   exact ⟨Ne.symm (ne_of_none e1 m1), Ne.symm (ne_of_none e2 m1), Ne.symm (ne_of_none e3 m1)⟩
  ·simp only [List.mem_cons, List.not_mem_nil, or_false, not_or]
   exact ⟨Ne.symm (ne_of_none (s2 _ _ e1) htl), Ne.symm (ne_of_none (s2 _ _ e2) htl), Ne.symm (ne_of_none (s2 _ _ e3) htl)⟩
  ·intro b hb
   simp only [List.mem_cons, List.not_mem_nil, or_false] at hb
   rcases hb with rfl | rfl | rfl
   ·exact n1
   ·exact nk0
   ·exact nc0
  rintro m σ H3 ⟨xs, s, fp, i, said, x4, rfl, s4, hD, ok, hR3, ed, et, er, nr, nt, nf, hzz, hlen, rfl⟩
  obtain ⟨dx, hr3⟩ := id hR3
  refine ⟨_, rfl, r, dx, _, rfl, hr3, readF_no _ _ (by decide +kernel) (by decide +kernel), r, a, i, ns, rfl, hR3, s4.seq ha, _, rfl, ?_⟩
  cases xs with
  | nil =>
   have : ns.length <= i := by
    rw [List.flatMap_nil, List.drop_eq_nil_iff] at ed
    exact ed
   rw [decide_eq_true this]
   refine ⟨_, rfl, k H3 tl ?_⟩
   rw [et, <- er]
   simp [MC.runC]
  | cons c xs =>
   rw [List.flatMap_cons] at ed
   have : ¬ ns.length <= i := fun q => by
    rw [List.drop_eq_nil_of_le q] at ed
    have := List.append_eq_nil_iff.mp ed.symm
    exact MC.nums_ne c this.1
   rw [decide_eq_false this]
   refine ⟨_, fun σ' H' q => q, ?_⟩
   refine ⟨_, rfl, _, rfl, d, r, a, i, s, fp, c, ns, xs.flatMap MC.numsOf, rfl, hD, ok, hR3, s4.seq ha, ed, hzz c List.mem_cons_self, nr, fun H5 fp' p hD5 hR5 fr nf' hp e5 => ?_⟩
   have et5 : H5 tl = some (.lst (said.map V.int)) := fr _ _ et nt (Ne.symm rtl)
   have ptl : tl ≠ p := ne_of_none et hp
   have al := MC.ans_len ok c
   simp only [List.length_cons] at hlen
   refine ⟨_, rfl, .inl ⟨rfl, _, SqL.of et5⟩, _, rfl, p, _, rfl, .inl (SqL.of e5), tl, _, _, rfl, rfl, et5, by rw [List.length_map]; omega, ?_⟩
   rw [List.length_map]
   refine ⟨_, rfl, .inl ⟨rfl, _, SqL.of upd_same⟩, _, rfl, tl, p, _, _, rfl, rfl, upd_same, by rw [upd_ne (Ne.symm ptl)]; exact e5, ?_, ?_⟩
   ·rw [List.length_append, List.length_map, List.length_map]
    simp
    omega
   rw [upd_upd]
   have em : said.map V.int ++ [V.int ((PcheckNeutral.told (Pcheck.step s c).2).length : Nat)] ++ (PcheckNeutral.told (Pcheck.step s c).2).map V.int = (said ++ (((PcheckNeutral.told (Pcheck.step s c).2).length : Int) :: PcheckNeutral.told (Pcheck.step s c).2)).map V.int := by simp
   rw [em]
   have tlf : tl ∉ fp' := fun q => by
    rcases nf' tl q with q | q
    ·exact nt q
    ·rw [et] at q; cases q
   have rf : r ∉ fp' := fun q => by
    rcases nf' r q with q | q
    ·exact nr q
    ·rw [hr3] at q; cases q
   refine ⟨_, ?_, xs, (Pcheck.step s c).1, fp', i + (MC.numsOf c).length, _, _, rfl, fun b o hb => ?_, ?_, MC.stOk_step ok c, ?_, ?_, upd_same, ?_, rf, tlf, fun b hb => ?_, fun x hx => hzz x (List.mem_cons_of_mem _ hx), ?_, rfl⟩
   ·simp
   ·rw [upd_ne (ne_of_none hb ht0)]
    exact fr _ _ (s4 _ _ hb) (fun q => by rw [nf b q] at hb; cases hb) (fun q => by rw [q, hr0] at hb; cases hb)
   ·exact hD5.frame (tups_upd et5 (fun xs z => nomatch z) (fun p xs z => nomatch z)) fun b o hb h => by rw [upd_ne (show b ≠ tl from fun q => tlf (q ▸ hb))]; exact h
   ·obtain ⟨dx5, q⟩ := hR5
    exact ⟨dx5, by rw [upd_ne rtl]; exact q⟩
   ·rw [<- List.drop_drop, ed, List.drop_left]
   ·rw [<- er]
    simp [MC.runC]
   ·rcases nf' b hb with q | q
    ·exact nf b q
    ·exact s4.free q
   ·rw [List.length_append, List.length_cons]
    omega
end
end D
set_option Elab.async false
set_option linter.all false
set_option maxRecDepth 100000
set_option maxHeartbeats 4000000
namespace D
open PySem PySem.Spec PyProof.Rows L2
abbrev fo (x q : Str) (st : Stmt) := PySem.W.fnOf x q (defArgs st) (defBody st) (defScope st) .none
theorem all_mk {P : Program} {w : World} {K : W.Frag} {h : Heap} {mg : Str -> Option Value} {fa f0 f1 f2 f3 f4 f5 f6 f7 f8 f9 f10 f11 f12 f13 f14 f15 f16 f17 f18 f19 f20 f21 f22 f23 f24 f25 f26 f27 f28 f29 f30 f31 f32 f33 f34 f35 f36 f37 f38 f39 f40 f41 C_P C_E C_D C_R : Addr} {d0 u0 d1 u1 d2 u2 d3 u3 d4 u4 d5 u5 d6 u6 d7 u7 d8 u8 d9 u9 d10 u10 d11 u11 d12 u12 d13 u13 d14 u14 d15 u15 d16 u16 d17 u17 d18 u18 d19 u19 d20 u20 d21 u21 d22 u22 d23 u23 d24 u24 d25 u25 d26 u26 d27 u27 d28 u28 d29 u29 d30 u30 d31 u31 d32 u32 d33 u33 d34 u34 d35 u35 d36 u36 d37 u37 d38 u38 d39 u39 d40 u40 d41 u41 : Option Addr} {s0 s1 s2 s3 s4 s5 s6 s7 s8 s9 s10 s11 s12 s13 s14 s15 s16 s17 s18 s19 s20 s21 s22 s23 s24 s25 s26 s27 s28 s29 s30 s31 s32 s33 s34 s35 s36 s37 s38 s39 s40 s41 : Array (Option Value)} {o0 v0 e0 p0 q0 t0 o1 v1 e1 p1 q1 t1 o2 v2 e2 p2 q2 t2 o3 v3 e3 p3 q3 t3 o4 v4 e4 p4 q4 t4 o5 v5 e5 p5 q5 t5 o6 v6 e6 p6 q6 t6 o7 v7 e7 p7 q7 t7 o8 v8 e8 p8 q8 t8 o9 v9 e9 p9 q9 t9 o10 v10 e10 p10 q10 t10 o11 v11 e11 p11 q11 t11 o12 v12 e12 p12 q12 t12 o13 v13 e13 p13 q13 t13 o14 v14 e14 p14 q14 t14 o15 v15 e15 p15 q15 t15 o16 v16 e16 p16 q16 t16 o17 v17 e17 p17 q17 t17 o18 v18 e18 p18 q18 t18 o19 v19 e19 p19 q19 t19 o20 v20 e20 p20 q20 t20 o21 v21 e21 p21 q21 t21 o22 v22 e22 p22 q22 t22 o23 v23 e23 p23 q23 t23 o24 v24 e24 p24 q24 t24 o25 v25 e25 p25 q25 t25 o26 v26 e26 p26 q26 t26 o27 v27 e27 p27 q27 t27 o28 v28 e28 p28 q28 t28 o29 v29 e29 p29 q29 t29 o30 v30 e30 p30 q30 t30 o31 v31 e31 p31 q31 t31 o32 v32 e32 p32 q32 t32 o33 v33 e33 p33 q33 t33 o34 v34 e34 p34 q34 t34 o35 v35 e35 p35 q35 t35 o36 v36 e36 p36 q36 t36 o37 v37 e37 p37 q37 t37 o38 v38 e38 p38 q38 t38 o39 v39 e39 p39 q39 t39 o40 v40 e40 p40 q40 t40 o41 v41 e41 p41 q41 t41 : Value} {jany jfn jnt jnr jnn jan jch jnf jmk jmc jmf jml jmn jmv : Tok} (X : K.In h) (G : h.Ns mainGlobals mg) (hfa : mg "answers" = some (.ref fa))
  (h0 : W.nsIn K mainGlobals "Spot" = some (some (.ref C_P)))
  (h1 : W.plainGet K C_P Str.empty = true)
  (h2 : W.hasDictIn K C_P = true)
  (h3 : W.plainOver K C_P = true)
  (h4 : W.findIn K (.ref C_P) "__setattr__" = some (some (.builtin "object.__setattr__")))
  (h5 : W.makesIn K C_P = true)
  (h6 : W.keepIn K (.ref C_P) = true)
  (h7 : W.findIn K (.ref C_P) "way" = some none)
  (h8 : W.findIn K (.ref C_P) "kind" = some none)
  (h9 : W.findIn K (.ref C_P) "number" = some none)
  (h10 : W.nsIn K mainGlobals "Step" = some (some (.ref C_E)))
  (h11 : W.plainGet K C_E Str.empty = true)
  (h12 : W.hasDictIn K C_E = true)
  (h13 : W.plainOver K C_E = true)
  (h14 : W.findIn K (.ref C_E) "__setattr__" = some (some (.builtin "object.__setattr__")))
  (h15 : W.makesIn K C_E = true)
  (h16 : W.keepIn K (.ref C_E) = true)
  (h17 : W.findIn K (.ref C_E) "told" = some none)
  (h18 : W.findIn K (.ref C_E) "waiting" = some none)
  (h19 : W.findIn K (.ref C_E) "rows" = some none)
  (h20 : W.findIn K (.ref C_E) "asked" = some none)
  (h21 : W.nsIn K mainGlobals "Desk" = some (some (.ref C_D)))
  (h22 : W.plainGet K C_D Str.empty = true)
  (h23 : W.hasDictIn K C_D = true)
  (h24 : W.plainOver K C_D = true)
  (h25 : W.findIn K (.ref C_D) "__setattr__" = some (some (.builtin "object.__setattr__")))
  (h26 : W.makesIn K C_D = true)
  (h27 : W.keepIn K (.ref C_D) = true)
  (h28 : W.findIn K (.ref C_D) "kinds" = some none)
  (h29 : W.findIn K (.ref C_D) "matched" = some none)
  (h30 : W.findIn K (.ref C_D) "clauses" = some none)
  (h31 : W.nsIn K mainGlobals "Reader" = some (some (.ref C_R)))
  (h32 : W.plainGet K C_R Str.empty = true)
  (h33 : W.hasDictIn K C_R = true)
  (h34 : W.plainOver K C_R = true)
  (h35 : W.findIn K (.ref C_R) "__setattr__" = some (some (.builtin "object.__setattr__")))
  (h36 : W.makesIn K C_R = true)
  (h37 : W.keepIn K (.ref C_R) = true)
  (h38 : W.findIn K (.ref C_R) "numbers" = some none)
  (h39 : W.findIn K (.ref C_R) "place" = some none)
  (a0 : W.nsIn K mainGlobals "makes_value" = some (some (.ref f0)))
  (l0 : K.lookup f0 = some ⟨o0, d0, .func (fo "makes_value" "makes_value" sMakes v0 e0 p0 u0 q0 t0), s0⟩)
  (c0 : W.codeIn K q0 "makes_value" = true)
  (k0 : W.keepIn K (.ref f0) = true)
  (a1 : W.nsIn K mainGlobals "valued_kinds" = some (some (.ref f1)))
  (l1 : K.lookup f1 = some ⟨o1, d1, .func (fo "valued_kinds" "valued_kinds" sValued v1 e1 p1 u1 q1 t1), s1⟩)
  (c1 : W.codeIn K q1 "valued_kinds" = true)
  (k1 : W.keepIn K (.ref f1) = true)
  (a2 : W.nsIn K mainGlobals "is_pattern" = some (some (.ref f2)))
  (l2 : K.lookup f2 = some ⟨o2, d2, .func (fo "is_pattern" "is_pattern" sIsPat v2 e2 p2 u2 q2 t2), s2⟩)
  (c2 : W.codeIn K q2 "is_pattern" = true)
  (k2 : W.keepIn K (.ref f2) = true)
  (a3 : W.nsIn K mainGlobals "is_value" = some (some (.ref f3)))
  (l3 : K.lookup f3 = some ⟨o3, d3, .func (fo "is_value" "is_value" sIsVal v3 e3 p3 u3 q3 t3), s3⟩)
  (c3 : W.codeIn K q3 "is_value" = true)
  (k3 : W.keepIn K (.ref f3) = true)
  (a4 : W.nsIn K mainGlobals "place_behind" = some (some (.ref f4)))
  (l4 : K.lookup f4 = some ⟨o4, d4, .func (fo "place_behind" "place_behind" sPB v4 e4 p4 u4 q4 t4), s4⟩)
  (c4 : W.codeIn K q4 "place_behind" = true)
  (k4 : W.keepIn K (.ref f4) = true)
  (a5 : W.nsIn K mainGlobals "fits" = some (some (.ref f5)))
  (l5 : K.lookup f5 = some ⟨o5, d5, .func (fo "fits" "fits" sFits v5 e5 p5 u5 q5 t5), s5⟩)
  (c5 : W.codeIn K q5 "fits" = true)
  (k5 : W.keepIn K (.ref f5) = true)
  (a6 : W.nsIn K mainGlobals "spots_below" = some (some (.ref f6)))
  (l6 : K.lookup f6 = some ⟨o6, d6, .func (fo "spots_below" "spots_below" sSBl v6 e6 p6 u6 q6 t6), s6⟩)
  (c6 : W.codeIn K q6 "spots_below" = true)
  (k6 : W.keepIn K (.ref f6) = true)
  (a7 : W.nsIn K mainGlobals "spots_of" = some (some (.ref f7)))
  (l7 : K.lookup f7 = some ⟨o7, d7, .func (fo "spots_of" "spots_of" sSO v7 e7 p7 u7 q7 t7), s7⟩)
  (c7 : W.codeIn K q7 "spots_of" = true)
  (k7 : W.keepIn K (.ref f7) = true)
  (a8 : W.nsIn K mainGlobals "is_ruled_out" = some (some (.ref f8)))
  (l8 : K.lookup f8 = some ⟨o8, d8, .func (fo "is_ruled_out" "is_ruled_out" sRO v8 e8 p8 u8 q8 t8), s8⟩)
  (c8 : W.codeIn K q8 "is_ruled_out" = true)
  (k8 : W.keepIn K (.ref f8) = true)
  (a9 : W.nsIn K mainGlobals "first_left" = some (some (.ref f9)))
  (l9 : K.lookup f9 = some ⟨o9, d9, .func (fo "first_left" "first_left" sFL v9 e9 p9 u9 q9 t9), s9⟩)
  (c9 : W.codeIn K q9 "first_left" = true)
  (k9 : W.keepIn K (.ref f9) = true)
  (a10 : W.nsIn K mainGlobals "first_unasked" = some (some (.ref f10)))
  (l10 : K.lookup f10 = some ⟨o10, d10, .func (fo "first_unasked" "first_unasked" sFU v10 e10 p10 u10 q10 t10), s10⟩)
  (c10 : W.codeIn K q10 "first_unasked" = true)
  (k10 : W.keepIn K (.ref f10) = true)
  (a11 : W.nsIn K mainGlobals "asked_next" = some (some (.ref f11)))
  (l11 : K.lookup f11 = some ⟨o11, d11, .func (fo "asked_next" "asked_next" sAN v11 e11 p11 u11 q11 t11), s11⟩)
  (c11 : W.codeIn K q11 "asked_next" = true)
  (k11 : W.keepIn K (.ref f11) = true)
  (a12 : W.nsIn K mainGlobals "answered_by" = some (some (.ref f12)))
  (l12 : K.lookup f12 = some ⟨o12, d12, .func (fo "answered_by" "answered_by" sAB v12 e12 p12 u12 q12 t12), s12⟩)
  (c12 : W.codeIn K q12 "answered_by" = true)
  (k12 : W.keepIn K (.ref f12) = true)
  (a13 : W.nsIn K mainGlobals "without_first" = some (some (.ref f13)))
  (l13 : K.lookup f13 = some ⟨o13, d13, .func (fo "without_first" "without_first" sWF v13 e13 p13 u13 q13 t13), s13⟩)
  (c13 : W.codeIn K q13 "without_first" = true)
  (k13 : W.keepIn K (.ref f13) = true)
  (a14 : W.nsIn K mainGlobals "step_under" = some (some (.ref f14)))
  (l14 : K.lookup f14 = some ⟨o14, d14, .func (fo "step_under" "step_under" sSU v14 e14 p14 u14 q14 t14), s14⟩)
  (c14 : W.codeIn K q14 "step_under" = true)
  (k14 : W.keepIn K (.ref f14) = true)
  (a15 : W.nsIn K mainGlobals "worth_trying" = some (some (.ref f15)))
  (l15 : K.lookup f15 = some ⟨o15, d15, .func (fo "worth_trying" "worth_trying" sWT v15 e15 p15 u15 q15 t15), s15⟩)
  (c15 : W.codeIn K q15 "worth_trying" = true)
  (k15 : W.keepIn K (.ref f15) = true)
  (a16 : W.nsIn K mainGlobals "steps_behind" = some (some (.ref f16)))
  (l16 : K.lookup f16 = some ⟨o16, d16, .func (fo "steps_behind" "steps_behind" sSB v16 e16 p16 u16 q16 t16), s16⟩)
  (c16 : W.codeIn K q16 "steps_behind" = true)
  (k16 : W.keepIn K (.ref f16) = true)
  (a17 : W.nsIn K mainGlobals "shown_pattern" = some (some (.ref f17)))
  (l17 : K.lookup f17 = some ⟨o17, d17, .func (fo "shown_pattern" "shown_pattern" sSP v17 e17 p17 u17 q17 t17), s17⟩)
  (c17 : W.codeIn K q17 "shown_pattern" = true)
  (k17 : W.keepIn K (.ref f17) = true)
  (a18 : W.nsIn K mainGlobals "counted" = some (some (.ref f18)))
  (l18 : K.lookup f18 = some ⟨o18, d18, .func (fo "counted" "counted" sCo v18 e18 p18 u18 q18 t18), s18⟩)
  (c18 : W.codeIn K q18 "counted" = true)
  (k18 : W.keepIn K (.ref f18) = true)
  (a19 : W.nsIn K mainGlobals "pattern_told" = some (some (.ref f19)))
  (l19 : K.lookup f19 = some ⟨o19, d19, .func (fo "pattern_told" "pattern_told" sPT v19 e19 p19 u19 q19 t19), s19⟩)
  (c19 : W.codeIn K q19 "pattern_told" = true)
  (k19 : W.keepIn K (.ref f19) = true)
  (a20 : W.nsIn K mainGlobals "answer_one" = some (some (.ref f20)))
  (l20 : K.lookup f20 = some ⟨o20, d20, .func (fo "answer_one" "answer_one" sAO v20 e20 p20 u20 q20 t20), s20⟩)
  (c20 : W.codeIn K q20 "answer_one" = true)
  (k20 : W.keepIn K (.ref f20) = true)
  (a21 : W.nsIn K mainGlobals "answers" = some (some (.ref f21)))
  (l21 : K.lookup f21 = some ⟨o21, d21, .func (fo "answers" "answers" sAns v21 e21 p21 u21 q21 t21), s21⟩)
  (c21 : W.codeIn K q21 "answers" = true)
  (k21 : W.keepIn K (.ref f21) = true)
  (a22 : W.findIn K (.ref C_P) "__init__" = some (some (.ref f22)))
  (i22 : W.isFn K (.ref f22) = true)
  (l22 : K.lookup f22 = some ⟨o22, d22, .func (fo "__init__" "Spot.__init__" sSpotI v22 e22 p22 u22 q22 t22), s22⟩)
  (c22 : W.codeIn K q22 "Spot.__init__" = true)
  (k22 : W.keepIn K (.ref f22) = true)
  (a23 : W.findIn K (.ref C_E) "__init__" = some (some (.ref f23)))
  (i23 : W.isFn K (.ref f23) = true)
  (l23 : K.lookup f23 = some ⟨o23, d23, .func (fo "__init__" "Step.__init__" sStepI v23 e23 p23 u23 q23 t23), s23⟩)
  (c23 : W.codeIn K q23 "Step.__init__" = true)
  (k23 : W.keepIn K (.ref f23) = true)
  (a24 : W.findIn K (.ref C_D) "__init__" = some (some (.ref f24)))
  (i24 : W.isFn K (.ref f24) = true)
  (l24 : K.lookup f24 = some ⟨o24, d24, .func (fo "__init__" "Desk.__init__" (dm 0) v24 e24 p24 u24 q24 t24), s24⟩)
  (c24 : W.codeIn K q24 "Desk.__init__" = true)
  (k24 : W.keepIn K (.ref f24) = true)
  (a25 : W.findIn K (.ref C_D) "add_kind" = some (some (.ref f25)))
  (i25 : W.isFn K (.ref f25) = true)
  (l25 : K.lookup f25 = some ⟨o25, d25, .func (fo "add_kind" "Desk.add_kind" (dm 1) v25 e25 p25 u25 q25 t25), s25⟩)
  (c25 : W.codeIn K q25 "Desk.add_kind" = true)
  (k25 : W.keepIn K (.ref f25) = true)
  (a26 : W.findIn K (.ref C_D) "add_constructor" = some (some (.ref f26)))
  (i26 : W.isFn K (.ref f26) = true)
  (l26 : K.lookup f26 = some ⟨o26, d26, .func (fo "add_constructor" "Desk.add_constructor" (dm 2) v26 e26 p26 u26 q26 t26), s26⟩)
  (c26 : W.codeIn K q26 "Desk.add_constructor" = true)
  (k26 : W.keepIn K (.ref f26) = true)
  (a27 : W.findIn K (.ref C_D) "has_value" = some (some (.ref f27)))
  (i27 : W.isFn K (.ref f27) = true)
  (l27 : K.lookup f27 = some ⟨o27, d27, .func (fo "has_value" "Desk.has_value" (dm 3) v27 e27 p27 u27 q27 t27), s27⟩)
  (c27 : W.codeIn K q27 "Desk.has_value" = true)
  (k27 : W.keepIn K (.ref f27) = true)
  (a28 : W.findIn K (.ref C_D) "begin" = some (some (.ref f28)))
  (i28 : W.isFn K (.ref f28) = true)
  (l28 : K.lookup f28 = some ⟨o28, d28, .func (fo "begin" "Desk.begin" (dm 4) v28 e28 p28 u28 q28 t28), s28⟩)
  (c28 : W.codeIn K q28 "Desk.begin" = true)
  (k28 : W.keepIn K (.ref f28) = true)
  (a29 : W.findIn K (.ref C_D) "add_clause" = some (some (.ref f29)))
  (i29 : W.isFn K (.ref f29) = true)
  (l29 : K.lookup f29 = some ⟨o29, d29, .func (fo "add_clause" "Desk.add_clause" (dm 5) v29 e29 p29 u29 q29 t29), s29⟩)
  (c29 : W.codeIn K q29 "Desk.add_clause" = true)
  (k29 : W.keepIn K (.ref f29) = true)
  (a30 : W.findIn K (.ref C_D) "missing" = some (some (.ref f30)))
  (i30 : W.isFn K (.ref f30) = true)
  (l30 : K.lookup f30 = some ⟨o30, d30, .func (fo "missing" "Desk.missing" (dm 6) v30 e30 p30 u30 q30 t30), s30⟩)
  (c30 : W.codeIn K q30 "Desk.missing" = true)
  (k30 : W.keepIn K (.ref f30) = true)
  (a31 : W.findIn K (.ref C_D) "what_comes_to" = some (some (.ref f31)))
  (i31 : W.isFn K (.ref f31) = true)
  (l31 : K.lookup f31 = some ⟨o31, d31, .func (fo "what_comes_to" "Desk.what_comes_to" (dm 7) v31 e31 p31 u31 q31 t31), s31⟩)
  (c31 : W.codeIn K q31 "Desk.what_comes_to" = true)
  (k31 : W.keepIn K (.ref f31) = true)
  (a32 : W.findIn K (.ref C_D) "reach" = some (some (.ref f32)))
  (i32 : W.isFn K (.ref f32) = true)
  (l32 : K.lookup f32 = some ⟨o32, d32, .func (fo "reach" "Desk.reach" (dm 8) v32 e32 p32 u32 q32 t32), s32⟩)
  (c32 : W.codeIn K q32 "Desk.reach" = true)
  (k32 : W.keepIn K (.ref f32) = true)
  (a33 : W.findIn K (.ref C_D) "which" = some (some (.ref f33)))
  (i33 : W.isFn K (.ref f33) = true)
  (l33 : K.lookup f33 = some ⟨o33, d33, .func (fo "which" "Desk.which" (dm 9) v33 e33 p33 u33 q33 t33), s33⟩)
  (c33 : W.codeIn K q33 "Desk.which" = true)
  (k33 : W.keepIn K (.ref f33) = true)
  (a34 : W.findIn K (.ref C_D) "choose" = some (some (.ref f34)))
  (i34 : W.isFn K (.ref f34) = true)
  (l34 : K.lookup f34 = some ⟨o34, d34, .func (fo "choose" "Desk.choose" (dm 10) v34 e34 p34 u34 q34 t34), s34⟩)
  (c34 : W.codeIn K q34 "Desk.choose" = true)
  (k34 : W.keepIn K (.ref f34) = true)
  (a35 : W.findIn K (.ref C_D) "useless" = some (some (.ref f35)))
  (i35 : W.isFn K (.ref f35) = true)
  (l35 : K.lookup f35 = some ⟨o35, d35, .func (fo "useless" "Desk.useless" (dm 11) v35 e35 p35 u35 q35 t35), s35⟩)
  (c35 : W.codeIn K q35 "Desk.useless" = true)
  (k35 : W.keepIn K (.ref f35) = true)
  (a36 : W.findIn K (.ref C_D) "drop" = some (some (.ref f36)))
  (i36 : W.isFn K (.ref f36) = true)
  (l36 : K.lookup f36 = some ⟨o36, d36, .func (fo "drop" "Desk.drop" (dm 12) v36 e36 p36 u36 q36 t36), s36⟩)
  (c36 : W.codeIn K q36 "Desk.drop" = true)
  (k36 : W.keepIn K (.ref f36) = true)
  (a37 : W.findIn K (.ref C_D) "end" = some (some (.ref f37)))
  (i37 : W.isFn K (.ref f37) = true)
  (l37 : K.lookup f37 = some ⟨o37, d37, .func (fo "end" "Desk.end" (dm 13) v37 e37 p37 u37 q37 t37), s37⟩)
  (c37 : W.codeIn K q37 "Desk.end" = true)
  (k37 : W.keepIn K (.ref f37) = true)
  (a38 : W.findIn K (.ref C_R) "__init__" = some (some (.ref f38)))
  (i38 : W.isFn K (.ref f38) = true)
  (l38 : K.lookup f38 = some ⟨o38, d38, .func (fo "__init__" "Reader.__init__" (rm 0) v38 e38 p38 u38 q38 t38), s38⟩)
  (c38 : W.codeIn K q38 "Reader.__init__" = true)
  (k38 : W.keepIn K (.ref f38) = true)
  (a39 : W.findIn K (.ref C_R) "at_end" = some (some (.ref f39)))
  (i39 : W.isFn K (.ref f39) = true)
  (l39 : K.lookup f39 = some ⟨o39, d39, .func (fo "at_end" "Reader.at_end" (rm 1) v39 e39 p39 u39 q39 t39), s39⟩)
  (c39 : W.codeIn K q39 "Reader.at_end" = true)
  (k39 : W.keepIn K (.ref f39) = true)
  (a40 : W.findIn K (.ref C_R) "take_number" = some (some (.ref f40)))
  (i40 : W.isFn K (.ref f40) = true)
  (l40 : K.lookup f40 = some ⟨o40, d40, .func (fo "take_number" "Reader.take_number" (rm 2) v40 e40 p40 u40 q40 t40), s40⟩)
  (c40 : W.codeIn K q40 "Reader.take_number" = true)
  (k40 : W.keepIn K (.ref f40) = true)
  (a41 : W.findIn K (.ref C_R) "take_row" = some (some (.ref f41)))
  (i41 : W.isFn K (.ref f41) = true)
  (l41 : K.lookup f41 = some ⟨o41, d41, .func (fo "take_row" "Reader.take_row" (rm 3) v41 e41 p41 u41 q41 t41), s41⟩)
  (c41 : W.codeIn K q41 "Reader.take_row" = true)
  (k41 : W.keepIn K (.ref f41) = true)
  (h40 : W.nsIn K mainGlobals "ANYTHING" = some (some (.int (255) jany)))
  (h41 : W.nsIn K mainGlobals "FITS_NONE" = some (some (.int (-1) jfn)))
  (h42 : W.nsIn K mainGlobals "NOT_THERE" = some (some (.int (-2) jnt)))
  (h43 : W.nsIn K mainGlobals "NO_ROOM" = some (some (.int (-3) jnr)))
  (h44 : W.nsIn K mainGlobals "NOT_NOW" = some (some (.int (-4) jnn)))
  (h45 : W.nsIn K mainGlobals "ASKED_NEXT" = some (some (.int (1) jan)))
  (h46 : W.nsIn K mainGlobals "CHOSEN" = some (some (.int (2) jch)))
  (h47 : W.nsIn K mainGlobals "NOTHING_FITS" = some (some (.int (3) jnf)))
  (h48 : W.nsIn K mainGlobals "MOST_KINDS" = some (some (.int (16) jmk)))
  (h49 : W.nsIn K mainGlobals "MOST_CONSTRUCTORS" = some (some (.int (16) jmc)))
  (h50 : W.nsIn K mainGlobals "MOST_FIELDS" = some (some (.int (4) jmf)))
  (h51 : W.nsIn K mainGlobals "MOST_CLAUSES" = some (some (.int (32) jml)))
  (h52 : W.nsIn K mainGlobals "MOST_NUMBERS" = some (some (.int (64) jmn)))
  (h53 : W.nsIn K mainGlobals "MOST_VALUE_NUMBERS" = some (some (.int (1024) jmv)))
  (h54 : W.nsIn K mainGlobals "all" = some none)
  (h55 : W.nsIn K mainGlobals "any" = some none)
  (h56 : W.nsIn K mainGlobals "len" = some none)
  (h57 : W.nsIn K mainGlobals "list" = some none)
  (h58 : W.nsIn K mainGlobals "reversed" = some none)
  (h59 : W.nsIn K mainGlobals "enumerate" = some none)
  (h60 : W.nsIn K mainGlobals "tuple" = some none)
  (h61 : W.nsIn K mainGlobals "sum" = some none)
  (h62 : W.nsIn K mainGlobals "range" = some none)
  : ∃ fd : FuncData, (∀ (s : Shared) (us : List Value), us.length = (["calls"] : List Str).length -> BindsTo s fd ⟨us, []⟩ ((["calls"] : List Str).zip us)) /\ ∀ base : Heap, K.In base -> base.Ns mainGlobals mg -> FnOk P w K mg base CX0 9 fa fd ["calls"] (spAns K) := by
 have e := hfa.symm.trans (W.mg_of X G a21)
 cases e
 have T : Bl mg := ⟨W.mg_none_of X G h54, W.mg_none_of X G h55, W.mg_none_of X G h56, W.mg_none_of X G h57, W.mg_none_of X G h58, W.mg_none_of X G h59, W.mg_none_of X G h60, W.mg_none_of X G h61⟩
 have N : Cn mg := ⟨⟨_, W.mg_of X G h41⟩, ⟨_, W.mg_of X G h42⟩, ⟨_, W.mg_of X G h43⟩, ⟨_, W.mg_of X G h44⟩, ⟨_, W.mg_of X G h45⟩, ⟨_, W.mg_of X G h46⟩, ⟨_, W.mg_of X G h47⟩, ⟨_, W.mg_of X G h48⟩, ⟨_, W.mg_of X G h49⟩, ⟨_, W.mg_of X G h50⟩, ⟨_, W.mg_of X G h51⟩, ⟨_, W.mg_of X G h52⟩, ⟨_, W.mg_of X G h53⟩, ⟨_, W.mg_of X G h40⟩, W.mg_none_of X G h62⟩
 have mA := W.mg_of X G h40
 have T_P : SpotTxt K mg C_P := ⟨⟨h1, h2, h3, h4⟩, h7, h8, h9, W.mg_of X G h0⟩
 have T_E : StepTxt K mg C_E := ⟨⟨h11, h12, h13, h14⟩, h17, h18, h19, h20, W.mg_of X G h10⟩
 have T_D : DeskTxt K mg C_D := ⟨⟨h22, h23, h24, h25⟩, h28, h29, h30, W.mg_of X G h21⟩
 have T_R : ReadTxt K mg C_R := ⟨⟨h32, h33, h34, h35⟩, h38, h39, W.mg_of X G h31⟩
 have F0 := fun_mk (st := sMakes) l0 c0 k0
 have B0 := F0.binds (ps := ["fields", "valued"]) fun _ _ _ _ _ _ us hl => match us, hl with | [_, _], _ => rfl
 have m0 := W.mg_of X G a0
 have F1 := fun_mk (st := sValued) l1 c1 k1
 have B1 := F1.binds (ps := ["kinds"]) fun _ _ _ _ _ _ us hl => match us, hl with | [_], _ => rfl
 have m1 := W.mg_of X G a1
 have F2 := fun_mk (st := sIsPat) l2 c2 k2
 have B2 := F2.binds (ps := ["kinds", "kind", "numbers"]) fun _ _ _ _ _ _ us hl => match us, hl with | [_, _, _], _ => rfl
 have m2 := W.mg_of X G a2
 have F3 := fun_mk (st := sIsVal) l3 c3 k3
 have B3 := F3.binds (ps := ["kinds", "kind", "numbers"]) fun _ _ _ _ _ _ us hl => match us, hl with | [_, _, _], _ => rfl
 have m3 := W.mg_of X G a3
 have F4 := fun_mk (st := sPB) l4 c4 k4
 have B4 := F4.binds (ps := ["kinds", "kind", "numbers", "place"]) fun _ _ _ _ _ _ us hl => match us, hl with | [_, _, _, _], _ => rfl
 have m4 := W.mg_of X G a4
 have F5 := fun_mk (st := sFits) l5 c5 k5
 have B5 := F5.binds (ps := ["kinds", "kind", "value", "pattern"]) fun _ _ _ _ _ _ us hl => match us, hl with | [_, _, _, _], _ => rfl
 have m5 := W.mg_of X G a5
 have F6 := fun_mk (st := sSBl) l6 c6 k6
 have B6 := F6.binds (ps := ["spot", "fields"]) fun _ _ _ _ _ _ us hl => match us, hl with | [_, _], _ => rfl
 have m6 := W.mg_of X G a6
 have F7 := fun_mk (st := sSO) l7 c7 k7
 have B7 := F7.binds (ps := ["kinds", "kind", "pattern"]) fun _ _ _ _ _ _ us hl => match us, hl with | [_, _, _], _ => rfl
 have m7 := W.mg_of X G a7
 have F8 := fun_mk (st := sRO) l8 c8 k8
 have B8 := F8.binds (ps := ["spots", "answered"]) fun _ _ _ _ _ _ us hl => match us, hl with | [_, _], _ => rfl
 have m8 := W.mg_of X G a8
 have F9 := fun_mk (st := sFL) l9 c9 k9
 have B9 := F9.binds (ps := ["clauses", "answered"]) fun _ _ _ _ _ _ us hl => match us, hl with | [_, _], _ => rfl
 have m9 := W.mg_of X G a9
 have F10 := fun_mk (st := sFU) l10 c10 k10
 have B10 := F10.binds (ps := ["spots", "answered"]) fun _ _ _ _ _ _ us hl => match us, hl with | [_, _], _ => rfl
 have m10 := W.mg_of X G a10
 have F11 := fun_mk (st := sAN) l11 c11 k11
 have B11 := F11.binds (ps := ["clauses", "answered"]) fun _ _ _ _ _ _ us hl => match us, hl with | [_, _], _ => rfl
 have m11 := W.mg_of X G a11
 have F12 := fun_mk (st := sAB) l12 c12 k12
 have B12 := F12.binds (ps := ["kinds", "clauses", "constructors"]) fun _ _ _ _ _ _ us hl => match us, hl with | [_, _, _], _ => rfl
 have m12 := W.mg_of X G a12
 have F13 := fun_mk (st := sWF) l13 c13 k13
 have B13 := F13.binds (ps := ["row", "number", "fields"]) fun _ _ _ _ _ _ us hl => match us, hl with | [_, _, _], _ => rfl
 have m13 := W.mg_of X G a13
 have F14 := fun_mk (st := sSU) l14 c14 k14
 have B14 := F14.binds (ps := ["step", "number", "fields"]) fun _ _ _ _ _ _ us hl => match us, hl with | [_, _, _], _ => rfl
 have m14 := W.mg_of X G a14
 have F15 := fun_mk (st := sWT) l15 c15 k15
 have B15 := F15.binds (ps := ["constructors", "valued", "heads"]) fun _ _ _ _ _ _ us hl => match us, hl with | [_, _, _], _ => rfl
 have m15 := W.mg_of X G a15
 have F16 := fun_mk (st := sSB) l16 c16 k16
 have B16 := F16.binds (ps := ["step", "kinds", "valued"]) fun _ _ _ _ _ _ us hl => match us, hl with | [_, _, _], _ => rfl
 have m16 := W.mg_of X G a16
 have F17 := fun_mk (st := sSP) l17 c17 k17
 have B17 := F17.binds (ps := ["kinds", "kind", "rows", "asked"]) fun _ _ _ _ _ _ us hl => match us, hl with | [_, _, _, _], _ => rfl
 have m17 := W.mg_of X G a17
 have F18 := fun_mk (st := sCo) l18 c18 k18
 have B18 := F18.binds (ps := ["numbers"]) fun _ _ _ _ _ _ us hl => match us, hl with | [_], _ => rfl
 have m18 := W.mg_of X G a18
 have F19 := fun_mk (st := sPT) l19 c19 k19
 have B19 := F19.binds (ps := ["found"]) fun _ _ _ _ _ _ us hl => match us, hl with | [_], _ => rfl
 have m19 := W.mg_of X G a19
 have F20 := fun_mk (st := sAO) l20 c20 k20
 have B20 := F20.binds (ps := ["desk", "reader"]) fun _ _ _ _ _ _ us hl => match us, hl with | [_, _], _ => rfl
 have m20 := W.mg_of X G a20
 have F21 := fun_mk (st := sAns) l21 c21 k21
 have B21 := F21.binds (ps := ["calls"]) fun _ _ _ _ _ _ us hl => match us, hl with | [_], _ => rfl
 have m21 := W.mg_of X G a21
 have F22 := fun_mk (st := sSpotI) l22 c22 k22
 have B22 := F22.binds (ps := ["self", "way", "kind", "number"]) fun _ _ _ _ _ _ us hl => match us, hl with | [_, _, _, _], _ => rfl
 have F23 := fun_mk (st := sStepI) l23 c23 k23
 have B23 := F23.binds (ps := ["self", "told", "waiting", "rows", "asked"]) fun _ _ _ _ _ _ us hl => match us, hl with | [_, _, _, _, _], _ => rfl
 have F24 := fun_mk (st := (dm 0)) l24 c24 k24
 have B24 := F24.binds (ps := ["self"]) fun _ _ _ _ _ _ us hl => match us, hl with | [_], _ => rfl
 have F25 := fun_mk (st := (dm 1)) l25 c25 k25
 have B25 := F25.binds (ps := ["self"]) fun _ _ _ _ _ _ us hl => match us, hl with | [_], _ => rfl
 have F26 := fun_mk (st := (dm 2)) l26 c26 k26
 have B26 := F26.binds (ps := ["self", "kind", "fields"]) fun _ _ _ _ _ _ us hl => match us, hl with | [_, _, _], _ => rfl
 have F27 := fun_mk (st := (dm 3)) l27 c27 k27
 have B27 := F27.binds (ps := ["self", "kind"]) fun _ _ _ _ _ _ us hl => match us, hl with | [_, _], _ => rfl
 have F28 := fun_mk (st := (dm 4)) l28 c28 k28
 have B28 := F28.binds (ps := ["self", "kind"]) fun _ _ _ _ _ _ us hl => match us, hl with | [_, _], _ => rfl
 have F29 := fun_mk (st := (dm 5)) l29 c29 k29
 have B29 := F29.binds (ps := ["self", "pattern"]) fun _ _ _ _ _ _ us hl => match us, hl with | [_, _], _ => rfl
 have F30 := fun_mk (st := (dm 6)) l30 c30 k30
 have B30 := F30.binds (ps := ["self"]) fun _ _ _ _ _ _ us hl => match us, hl with | [_], _ => rfl
 have F31 := fun_mk (st := (dm 7)) l31 c31 k31
 have B31 := F31.binds (ps := ["self", "number"]) fun _ _ _ _ _ _ us hl => match us, hl with | [_, _], _ => rfl
 have F32 := fun_mk (st := (dm 8)) l32 c32 k32
 have B32 := F32.binds (ps := ["self", "number"]) fun _ _ _ _ _ _ us hl => match us, hl with | [_, _], _ => rfl
 have F33 := fun_mk (st := (dm 9)) l33 c33 k33
 have B33 := F33.binds (ps := ["self", "value"]) fun _ _ _ _ _ _ us hl => match us, hl with | [_, _], _ => rfl
 have F34 := fun_mk (st := (dm 10)) l34 c34 k34
 have B34 := F34.binds (ps := ["self", "constructors"]) fun _ _ _ _ _ _ us hl => match us, hl with | [_, _], _ => rfl
 have F35 := fun_mk (st := (dm 11)) l35 c35 k35
 have B35 := F35.binds (ps := ["self"]) fun _ _ _ _ _ _ us hl => match us, hl with | [_], _ => rfl
 have F36 := fun_mk (st := (dm 12)) l36 c36 k36
 have B36 := F36.binds (ps := ["self", "number"]) fun _ _ _ _ _ _ us hl => match us, hl with | [_, _], _ => rfl
 have F37 := fun_mk (st := (dm 13)) l37 c37 k37
 have B37 := F37.binds (ps := ["self"]) fun _ _ _ _ _ _ us hl => match us, hl with | [_], _ => rfl
 have F38 := fun_mk (st := (rm 0)) l38 c38 k38
 have B38 := F38.binds (ps := ["self", "numbers"]) fun _ _ _ _ _ _ us hl => match us, hl with | [_, _], _ => rfl
 have F39 := fun_mk (st := (rm 1)) l39 c39 k39
 have B39 := F39.binds (ps := ["self"]) fun _ _ _ _ _ _ us hl => match us, hl with | [_], _ => rfl
 have F40 := fun_mk (st := (rm 2)) l40 c40 k40
 have B40 := F40.binds (ps := ["self"]) fun _ _ _ _ _ _ us hl => match us, hl with | [_], _ => rfl
 have F41 := fun_mk (st := (rm 3)) l41 c41 k41
 have B41 := F41.binds (ps := ["self"]) fun _ _ _ _ _ _ us hl => match us, hl with | [_], _ => rfl
 have MP : Mk K C_P f22 := ⟨h5, a22, i22, h6⟩
 have ME : Mk K C_E f23 := ⟨h15, a23, i23, h16⟩
 have MD : Mk K C_D f24 := ⟨h26, a24, i24, h27⟩
 have W25 : Meth K C_D "add_kind" f25 := ⟨a25, i25, k25⟩
 have W26 : Meth K C_D "add_constructor" f26 := ⟨a26, i26, k26⟩
 have W27 : Meth K C_D "has_value" f27 := ⟨a27, i27, k27⟩
 have W28 : Meth K C_D "begin" f28 := ⟨a28, i28, k28⟩
 have W29 : Meth K C_D "add_clause" f29 := ⟨a29, i29, k29⟩
 have W30 : Meth K C_D "missing" f30 := ⟨a30, i30, k30⟩
 have W31 : Meth K C_D "what_comes_to" f31 := ⟨a31, i31, k31⟩
 have W32 : Meth K C_D "reach" f32 := ⟨a32, i32, k32⟩
 have W33 : Meth K C_D "which" f33 := ⟨a33, i33, k33⟩
 have W34 : Meth K C_D "choose" f34 := ⟨a34, i34, k34⟩
 have W35 : Meth K C_D "useless" f35 := ⟨a35, i35, k35⟩
 have W36 : Meth K C_D "drop" f36 := ⟨a36, i36, k36⟩
 have W37 : Meth K C_D "end" f37 := ⟨a37, i37, k37⟩
 have MR : Mk K C_R f38 := ⟨h36, a38, i38, h37⟩
 have W39 : Meth K C_R "at_end" f39 := ⟨a39, i39, k39⟩
 have W40 : Meth K C_R "take_number" f40 := ⟨a40, i40, k40⟩
 have W41 : Meth K C_R "take_row" f41 := ⟨a41, i41, k41⟩
 refine ⟨fo "answers" "answers" sAns v21 e21 p21 u21 q21 t21, fun s us hu => match us, hu with | [_], _ => .of_eq rfl, fun base _ _ => ?_⟩
 have G0 : FnOk P w K mg base CX0 1 f0 _ ["fields", "valued"] (spMakes K) := ok_makes F0 T
 have G1 : FnOk P w K mg base CX0 2 f1 _ ["kinds"] (spValued K) := ok_valued F1 T F0 m0 B0
 have G2 : FnOk P w K mg base CX0 1 f2 _ ["kinds", "kind", "numbers"] (spIsPat K) := ok_isPat F2 T mA
 have G3 : FnOk P w K mg base CX0 2 f3 _ ["kinds", "kind", "numbers"] (spIsVal K) := ok_isVal F3 T mA G2 m2 k2 B2
 have G4 : FnOk P w K mg base CX0 1 f4 _ ["kinds", "kind", "numbers", "place"] (spPB K) := ok_pb F4 T
 have G5 : FnOk P w K mg base CX0 2 f5 _ ["kinds", "kind", "value", "pattern"] (spFits K) := ok_fits F5 T mA G4 m4 k4 B4
 have G6 : FnOk P w K mg base CX0 3 f6 _ ["spot", "fields"] (spSBl K C_P) := ok_sbl F6 T T_P mA F22 B22 MP
 have G7 : FnOk P w K mg base CX0 4 f7 _ ["kinds", "kind", "pattern"] (spSO K C_P) := ok_so F7 T T_P mA G6 m6 k6 B6 F22 B22 MP
 have G8 : FnOk P w K mg base CX0 1 f8 _ ["spots", "answered"] (spRO C_P) := ok_ro F8 T T_P
 have G9 : FnOk P w K mg base CX0 2 f9 _ ["clauses", "answered"] (spFL C_P) := ok_fl F9 T G8 m8 k8 B8
 have G10 : FnOk P w K mg base CX0 1 f10 _ ["spots", "answered"] (spFU C_P) := ok_fu F10 T T_P
 have G11 : FnOk P w K mg base CX0 3 f11 _ ["clauses", "answered"] (spAN C_P) := ok_an F11 T G9 m9 k9 B9 G10 m10 k10 B10
 have G12 : FnOk P w K mg base CX0 4 f12 _ ["kinds", "clauses", "constructors"] (spAB K C_P) := ok_ab F12 T T_P G1 m1 k1 B1 G0 m0 k0 B0 G11 m11 k11 B11
 have G14 : FnOk P w K mg base CX0 3 f14 _ ["step", "number", "fields"] (spSU K C_E) := ok_su F14 T T_E mA F13 m13 B13 F23 B23 ME
 have G15 : FnOk P w K mg base CX0 2 f15 _ ["constructors", "valued", "heads"] (spWT K) := ok_wt F15 T F0 m0 B0
 have G16 : FnOk P w K mg base CX0 4 f16 _ ["step", "kinds", "valued"] (spSB K C_E) := ok_sb F16 T T_E mA F0 m0 B0 G14 m14 k14 B14 G15 m15 k15 B15
 have G17 : FnOk P w K mg base CX0 5 f17 _ ["kinds", "kind", "rows", "asked"] (spSP K) := ok_sp F17 T T_E G1 m1 k1 B1 G16 m16 k16 B16 F23 B23 ME
 have G18 : FnOk P w K mg base CX0 1 f18 _ ["numbers"] (spCo K) := ok_co F18 T
 have G19 : FnOk P w K mg base CX0 2 f19 _ ["found"] (spPT K) := ok_pt F19 T G18 m18 k18 B18
 have G24 : FnOk P w K mg base CX0 1 f24 _ ["self"] (spDI C_D) := ok_di F24 T_D
 have G25 : FnOk P w K mg base CX0 1 f25 _ ["self"] (spM K C_D arT) := ok_ak F25 T T_D N
 have G26 : FnOk P w K mg base CX0 1 f26 _ ["self", "kind", "fields"] (spM K C_D (arC K)) := ok_con F26 T T_D N
 have G27 : FnOk P w K mg base CX0 3 f27 _ ["self", "kind"] (spM K C_D (arN .hasValue)) := ok_hv F27 T T_D N G1 m1 k1 B1
 have G28 : FnOk P w K mg base CX0 1 f28 _ ["self", "kind"] (spM K C_D (arN .begin_)) := ok_be F28 T T_D N
 have G29 : FnOk P w K mg base CX0 2 f29 _ ["self", "pattern"] (spM K C_D (arR K .clause)) := ok_ac F29 T T_D N G2 m2 k2 B2
 have G30 : FnOk P w K mg base CX0 6 f30 _ ["self"] (spM K C_D (ar0 .missing)) := ok_mi F30 T T_D N G17 m17 k17 B17 G19 m19 k19 B19
 have G31 : FnOk P w K mg base CX0 6 f31 _ ["self", "number"] (spWC K C_D) := ok_wc F31 T T_D G17 m17 k17 B17
 have G32 : FnOk P w K mg base CX0 7 f32 _ ["self", "number"] (spM K C_D (arN .reach)) := ok_re F32 T T_D N G31 W31 B31 G19 m19 k19 B19
 have G33 : FnOk P w K mg base CX0 3 f33 _ ["self", "value"] (spM K C_D (arR K .which)) := ok_wh F33 T T_D N G3 m3 k3 B3 G5 m5 k5 B5
 have G34 : FnOk P w K mg base CX0 5 f34 _ ["self", "constructors"] (spM K C_D (arR K .choose)) := ok_ch F34 T T_D N T_P G7 m7 k7 B7 G12 m12 k12 B12 G9 m9 k9 B9 G10 m10 k10 B10
 have G35 : FnOk P w K mg base CX0 7 f35 _ ["self"] (spM K C_D (ar0 .useless)) := ok_us F35 T T_D N G31 W31 B31 G18 m18 k18 B18
 have G36 : FnOk P w K mg base CX0 1 f36 _ ["self", "number"] (spM K C_D (arN .drop)) := ok_dr F36 T T_D N
 have G37 : FnOk P w K mg base CX0 1 f37 _ ["self"] (spM K C_D (ar0 .end_)) := ok_en F37 T T_D N
 have G38 : FnOk P w K mg base CX0 1 f38 _ ["self", "numbers"] (spRI C_R) := ok_ri F38 T_R
 have G39 : FnOk P w K mg base CX0 1 f39 _ ["self"] (spAE K C_R) := ok_ae F39 T T_R
 have G40 : FnOk P w K mg base CX0 1 f40 _ ["self"] (spTN K C_R) := ok_tn F40 T T_R
 have G41 : FnOk P w K mg base CX0 1 f41 _ ["self"] (spTR K C_R) := ok_tr F41 T T_R
 have Mm : Ms P w K mg base C_D C_R := ⟨⟨_, _, G25, W25, B25⟩, ⟨_, _, G26, W26, B26⟩, ⟨_, _, G27, W27, B27⟩, ⟨_, _, G28, W28, B28⟩, ⟨_, _, G29, W29, B29⟩, ⟨_, _, G30, W30, B30⟩, ⟨_, _, G32, W32, B32⟩, ⟨_, _, G33, W33, B33⟩, ⟨_, _, G34, W34, B34⟩, ⟨_, _, G35, W35, B35⟩, ⟨_, _, G36, W36, B36⟩, ⟨_, _, G37, W37, B37⟩, ⟨_, _, G39, W39, B39⟩, ⟨_, _, G40, W40, B40⟩, ⟨_, _, G41, W41, B41⟩⟩
 have G20 : FnOk P w K mg base CX0 8 f20 _ ["desk", "reader"] (spAO K C_D C_R) := ok_ao F20 T_D T_R Mm
 exact ok_ans F21 T T_D T_R G24 MD B24 G38 MR B38 Mm.ae G20 m20 k20 B20
end D
set_option Elab.async false
set_option linter.all false
namespace PySem.W.Fast
def tw2222205992087890820 := 0
def tw5823127836927133597 := 0
def tw15977239028730211993 := 0
def tw15114543563647450420 := 0
def tw14641626059223460652 := 0
def tw17412094418577071743 := 0
def tw13978254954639596217 := 0
def tw11744437110917856469 := 0
def tw14519953643116268184 := 0
def tw8905662962828212469 := 0
def tw1814685464299526243 := 0
def tw3098059461097447302 := 0
def tw10335766307099083833 := 0
def tw3010241691869452429 := 0
def tw13043585248324115536 := 0
def tw4982033533633286647 := 0
def tw11381184709104532308 := 0
def tw12799455689411723448 := 0
def tw1055340699381352555 := 0
def tw18152718827716666247 := 0
end PySem.W.Fast
open PySem PySem.W PyProof.Rows
set_option maxRecDepth 100000 in
set_option maxHeartbeats 0 in
theorem PySem.Challenge.cw_matchclauses_s01_answers_holds : PySem.Challenge.rw_matchclauses_s01_answers.Holds := by
 w_on; k_headS; (case hw => exact ⟨[.list [.int 6]], by decide +kernel, by decide +kernel⟩)
 k_fillS
 refine L2.walk_specK (r := PySem.Challenge.rw_matchclauses_s01_answers) (k := 9) (CX := L2.CX0) (ps := ["calls"]) (sp := D.spAns) (by decide +kernel) rfl rfl ⟨rfl, by decide, by decide⟩ (fun w h Y => PySem.W.kIn_of Y) ?F ?S (fun _ _ _ _ z => z)
 case F =>
  intro w mg fa h Y KX G hmg
  refine' D.all_mk KX G hmg ?h0 ?h1 ?h2 ?h3 ?h4 ?h5 ?h6 ?h7 ?h8 ?h9 ?h10 ?h11 ?h12 ?h13 ?h14 ?h15 ?h16 ?h17 ?h18 ?h19 ?h20 ?h21 ?h22 ?h23 ?h24 ?h25 ?h26 ?h27 ?h28 ?h29 ?h30 ?h31 ?h32 ?h33 ?h34 ?h35 ?h36 ?h37 ?h38 ?h39 ?a0 ?l0 ?c0 ?k0 ?a1 ?l1 ?c1 ?k1 ?a2 ?l2 ?c2 ?k2 ?a3 ?l3 ?c3 ?k3 ?a4 ?l4 ?c4 ?k4 ?a5 ?l5 ?c5 ?k5 ?a6 ?l6 ?c6 ?k6 ?a7 ?l7 ?c7 ?k7 ?a8 ?l8 ?c8 ?k8 ?a9 ?l9 ?c9 ?k9 ?a10 ?l10 ?c10 ?k10 ?a11 ?l11 ?c11 ?k11 ?a12 ?l12 ?c12 ?k12 ?a13 ?l13 ?c13 ?k13 ?a14 ?l14 ?c14 ?k14 ?a15 ?l15 ?c15 ?k15 ?a16 ?l16 ?c16 ?k16 ?a17 ?l17 ?c17 ?k17 ?a18 ?l18 ?c18 ?k18 ?a19 ?l19 ?c19 ?k19 ?a20 ?l20 ?c20 ?k20 ?a21 ?l21 ?c21 ?k21 ?a22 ?i22 ?l22 ?c22 ?k22 ?a23 ?i23 ?l23 ?c23 ?k23 ?a24 ?i24 ?l24 ?c24 ?k24 ?a25 ?i25 ?l25 ?c25 ?k25 ?a26 ?i26 ?l26 ?c26 ?k26 ?a27 ?i27 ?l27 ?c27 ?k27 ?a28 ?i28 ?l28 ?c28 ?k28 ?a29 ?i29 ?l29 ?c29 ?k29 ?a30 ?i30 ?l30 ?c30 ?k30 ?a31 ?i31 ?l31 ?c31 ?k31 ?a32 ?i32 ?l32 ?c32 ?k32 ?a33 ?i33 ?l33 ?c33 ?k33 ?a34 ?i34 ?l34 ?c34 ?k34 ?a35 ?i35 ?l35 ?c35 ?k35 ?a36 ?i36 ?l36 ?c36 ?k36 ?a37 ?i37 ?l37 ?c37 ?k37 ?a38 ?i38 ?l38 ?c38 ?k38 ?a39 ?i39 ?l39 ?c39 ?k39 ?a40 ?i40 ?l40 ?c40 ?k40 ?a41 ?i41 ?l41 ?c41 ?k41 ?h40 ?h41 ?h42 ?h43 ?h44 ?h45 ?h46 ?h47 ?h48 ?h49 ?h50 ?h51 ?h52 ?h53 ?h54 ?h55 ?h56 ?h57 ?h58 ?h59 ?h60 ?h61 ?h62
  case h0 | h1 | h2 | h3 | h4 | h5 | h6 | h7 | h8 | h9 | h10 | h11 | h12 | h13 | h14 | h15 | h16 | h17 | h18 | h19 | h20 | h21 | h22 | h23 | h24 | h25 | h26 | h27 | h28 | h29 | h30 | h31 | h32 | h33 | h34 | h35 | h36 | h37 | h38 | h39 | a0 | l0 | c0 | k0 | a1 | l1 | c1 | k1 | a2 | l2 | c2 | k2 | a3 | l3 | c3 | k3 | a4 | l4 | c4 | k4 | a5 | l5 | c5 | k5 | a6 | l6 | c6 | k6 | a7 | l7 | c7 | k7 | a8 | l8 | c8 | k8 | a9 | l9 | c9 | k9 | a10 | l10 | c10 | k10 | a11 | l11 | c11 | k11 | a12 | l12 | c12 | k12 | a13 | l13 | c13 | k13 | a14 | l14 | c14 | k14 | a15 | l15 | c15 | k15 | a16 | l16 | c16 | k16 | a17 | l17 | c17 | k17 | a18 | l18 | c18 | k18 | a19 | l19 | c19 | k19 | a20 | l20 | c20 | k20 | a21 | l21 | c21 | k21 | a22 | i22 | l22 | c22 | k22 | a23 | i23 | l23 | c23 | k23 | a24 | i24 | l24 | c24 | k24 | a25 | i25 | l25 | c25 | k25 | a26 | i26 | l26 | c26 | k26 | a27 | i27 | l27 | c27 | k27 | a28 | i28 | l28 | c28 | k28 | a29 | i29 | l29 | c29 | k29 | a30 | i30 | l30 | c30 | k30 | a31 | i31 | l31 | c31 | k31 | a32 | i32 | l32 | c32 | k32 | a33 | i33 | l33 | c33 | k33 | a34 | i34 | l34 | c34 | k34 | a35 | i35 | l35 | c35 | k35 | a36 | i36 | l36 | c36 | k36 | a37 | i37 | l37 | c37 | k37 | a38 | i38 | l38 | c38 | k38 | a39 | i39 | l39 | c39 | k39 | a40 | i40 | l40 | c40 | k40 | a41 | i41 | l41 | c41 | k41 | h40 | h41 | h42 | h43 | h44 | h45 | h46 | h47 | h48 | h49 | h50 | h51 | h52 | h53 | h54 | h55 | h56 | h57 | h58 | h59 | h60 | h61 | h62 => k_is
 case S =>
  intro K H xs a hO hwi hask hx
  cases hx with
  | cons h1 h2 =>
   cases h2
   cases h1 with
   | lst hs ha =>
    have e := L2.ints_dw a.1 _ ha
    subst e
    exact ⟨_, a.1, rfl, hs, hask, fun H' p hp => .lst (L2.SqL.of hp) (L2.dw_ints _)⟩
