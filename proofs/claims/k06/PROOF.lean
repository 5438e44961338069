import PyProof.Rows.All
import Wide.All
import OpenK.AllK
import Wide.FinOn
import Lean
import PyProof.EqAt
import PyProof.EqKinds
import PyProof.TupleCall
import PyProof.Rows.StrJoin2
import PySem.Challenge.RW_bearfaults_k06_nets_shown
set_option Elab.async false
set_option linter.all false
set_option maxRecDepth 100000
set_option maxHeartbeats 4000000

section
-- CHANGE: your row's module here, as the last of these rows
set_option maxRecDepth 100000
/-! THE HAND LAYER, for ints, bools, texts, own classes, DICTS (int and text keys), calls, loops. Paste it whole ahead of your own text; what your proof does not reach may be deleted. -/
namespace L2
open PySem PySem.Spec PyProof.Rows

/-- a key: an int or a str -/
abbrev Key := Sum Int Str
def keyIs : Key → Value → Bool
  | .inl k, v => Value.isInt k v
  | .inr x, v => Value.isStrOf x v
def keyH (w : World) : Key → Int
  | .inl k => hashInt k
  | .inr x => hashStr w x
theorem keyIs_shape : ∀ {k : Key} {v : Value}, keyIs k v = true → (∃ i t, k = Sum.inl i ∧ v = Value.int i t) ∨ (∃ x t, k = Sum.inr x ∧ v = Value.str x t)
  | .inl i, v, h => by
    obtain ⟨t, e⟩ := Value.isInt_shape (k := i) (v := v) h
    exact .inl ⟨i, t, rfl, e⟩
  | .inr x, v, h => by
    obtain ⟨t, e⟩ := Value.isStrOf_shape (x := x) (v := v) h
    exact .inr ⟨x, t, rfl, e⟩
theorem keyIs_int (i : Int) (t : Tok) : keyIs (.inl i) (.int i t) = true := by simp [keyIs, Value.isInt]
theorem keyIs_str (x : Str) (t : Tok) : keyIs (.inr x) (.str x t) = true := by simp [keyIs, Value.isStrOf]
theorem key_ll (a b : Int) : decide ((Sum.inl a : Key) = Sum.inl b) = (a == b) := by
  by_cases e : a = b
  · subst e; simp
  · have h : ¬ (Sum.inl a : Key) = Sum.inl b := fun q => e (Sum.inl.inj q)
    rw [decide_eq_false h]
    exact (beq_eq_false_iff_ne.mpr e).symm
theorem key_rr (a b : Str) : decide ((Sum.inr a : Key) = Sum.inr b) = decide (a = b) := by
  by_cases e : a = b
  · subst e; simp
  · have h : ¬ (Sum.inr a : Key) = Sum.inr b := fun q => e (Sum.inr.inj q)
    rw [decide_eq_false h, decide_eq_false e]
theorem key_lr (a : Int) (b : Str) : decide ((Sum.inl a : Key) = Sum.inr b) = false := decide_eq_false (fun q => nomatch q)
theorem key_rl (a : Str) (b : Int) : decide ((Sum.inr a : Key) = Sum.inl b) = false := decide_eq_false (fun q => nomatch q)

def mixKind (prog : Program) (w : World) : PySem.KeyKind prog w Key where
  is := keyIs
  hash := keyH w
  inj := fun v a b ha hb => by
    rcases keyIs_shape ha with ⟨i, t, rfl, rfl⟩ | ⟨x, t, rfl, rfl⟩
    · rcases keyIs_shape hb with ⟨j, u, rfl, e⟩ | ⟨y, u, rfl, e⟩
      · injection e with e1 _; rw [e1]
      · exact nomatch e
    · rcases keyIs_shape hb with ⟨j, u, rfl, e⟩ | ⟨y, u, rfl, e⟩
      · exact nomatch e
      · injection e with e1 _; rw [e1]
  byValue := fun k v h => by
    rcases keyIs_shape h with ⟨i, t, rfl, rfl⟩ | ⟨x, t, rfl, rfl⟩ <;> rfl
  pyHash := fun hv h => by
    rcases keyIs_shape hv with ⟨i, t, rfl, rfl⟩ | ⟨x, t, rfl, rfl⟩
    · exact wpAny_pyHash_int h
    · exact wpAny_pyHash_str h
  eqBool := fun hu hv h => by
    rcases keyIs_shape hu with ⟨i, t, rfl, rfl⟩ | ⟨x, t, rfl, rfl⟩
    · rcases keyIs_shape hv with ⟨j, u, rfl, rfl⟩ | ⟨y, u, rfl, rfl⟩
      · rw [key_ll] at h; exact wpAny_eqBool_int h
      · rw [key_lr] at h; exact SeqAt.EqAt.int_str i t y u _ _ _ _ h
    · rcases keyIs_shape hv with ⟨j, u, rfl, rfl⟩ | ⟨y, u, rfl, rfl⟩
      · rw [key_rl] at h; exact SeqAt.EqAt.str_int x t j u _ _ _ _ h
      · rw [key_rr] at h; exact wpAny_eqBool_str h
  «strs» := fun k x t v h => by
    rcases keyIs_shape h with ⟨i, u, rfl, e⟩ | ⟨y, u, rfl, e⟩
    · exact nomatch e
    · injection e with e1 _
      subst e1
      cases v <;> rfl

theorem mixKind_is (prog : Program) (w : World) (k : Key) (v : Value) : (mixKind prog w).is k v = keyIs k v := rfl
theorem mixKind_int (prog : Program) (w : World) (i : Int) (t : Tok) : (mixKind prog w).is (.inl i) (.int i t) = true := keyIs_int i t
theorem mixKind_str (prog : Program) (w : World) (x : Str) (t : Tok) : (mixKind prog w).is (.inr x) (.str x t) = true := keyIs_str x t
end L2

namespace L2
open PySem PySem.Spec PyProof.Rows

/-- a value, without the heap -/
inductive V where
  | non | bl (b : Bool) | int (i : Int) | str (x : Str) | byt (b : Array UInt8) | flt (b : UInt64) | ref (a : Addr) | ty (n : String)
  deriving DecidableEq

def RelV : V → Value → Prop
  | .non, u => u = Value.none
  | .bl b, u => u = Value.bool b
  | .int i, u => ∃ t, u = Value.int i t
  | .str x, u => ∃ t, u = Value.str x t
  | .byt b, u => ∃ t, u = Value.bytes b t
  | .flt b, u => ∃ t, u = Value.float b t
  | .ref a, u => u = Value.ref a
  | .ty n, u => u = Value.type n

abbrev Vals : List V → List Value → Prop := Paired RelV
theorem Vals.length {xs : List V} {us : List Value} (r : Vals xs us) : xs.length = us.length := Paired.length r
theorem Vals.get : ∀ {xs : List V} {us : List Value} {i : Nat} {x : V}, Vals xs us → xs[i]? = some x → ∃ u, us[i]? = some u ∧ RelV x u
  | _, _, _, _, .nil, e => by simp at e
  | _, _, 0, _, .cons r _, e => by simp at e; subst e; exact ⟨_, rfl, r⟩
  | _, _, i + 1, x, .cons _ t, e => by
    obtain ⟨u, h1, h2⟩ := Vals.get (i := i) (x := x) t (by simpa using e)
    exact ⟨u, by simpa using h1, h2⟩
theorem Vals.set {x : V} {u : Value} (r : RelV x u) : ∀ {xs : List V} {us : List Value} (i : Nat), Vals xs us → Vals (xs.set i x) (us.set i u)
  | _, _, _, .nil => .nil
  | _, _, 0, .cons _ t => .cons r t
  | _, _, i + 1, .cons q t => .cons q (Vals.set r i t)
theorem Vals.append : ∀ {xs ys : List V} {us ws : List Value}, Vals xs us → Vals ys ws → Vals (xs ++ ys) (us ++ ws)
  | _, _, _, _, .nil, s => s
  | _, _, _, _, .cons r t, s => .cons r (Vals.append t s)
theorem Vals.take : ∀ {xs : List V} {us : List Value} (n : Nat), Vals xs us → Vals (xs.take n) (us.take n)
  | _, _, 0, _ => .nil
  | _, _, _ + 1, .nil => .nil
  | _, _, n + 1, .cons r t => .cons r (Vals.take n t)
theorem Vals.drop : ∀ {xs : List V} {us : List Value} (n : Nat), Vals xs us → Vals (xs.drop n) (us.drop n)
  | _, _, 0, r => r
  | _, _, _ + 1, .nil => .nil
  | _, _, n + 1, .cons _ t => Vals.drop n t
theorem Vals.none_of : ∀ {xs : List V} {us : List Value} {i : Nat}, Vals xs us → xs[i]? = none → us[i]? = none := fun {xs us i} r e => by
  have h1 := r.length
  have h2 : xs.length ≤ i := List.getElem?_eq_none_iff.mp e
  exact List.getElem?_eq_none_iff.mpr (by omega)

def RelO : Option V → Option Value → Prop
  | some v, some u => RelV v u
  | none, none => True
  | _, _ => False
def KV {κ : Type} : List (κ × V) → List (κ × Value) → Prop := Paired fun (p : κ × V) (q : κ × Value) => p.1 = q.1 ∧ RelV p.2 q.2

/-- a key of a dict (00_mix): an int or a text -/
def kV : Key → V
  | .inl i => .int i
  | .inr x => .str x

/-- what stands at a tracked address -/
inductive HO where
  /-- a list -/
  | lst (xs : List V)
  /-- a tuple (never changes) -/
  | tup (xs : List V)
  /-- a dict whose keys are ints and texts; one whose keys are tuples of ints and texts (the empty one is both) -/
  | dK (kvs : List (Key × V)) | dT (kvs : List (List Key × V))
  /-- a set of ints: its members, its size -/
  | set (S : Int → Bool) (n : Nat)
  /-- an instance of the class at C, its dict at dx, its attributes -/
  | ins (C dx : Addr) (fs : List (Str × V))
  /-- the dict of the instance at x -/
  | own (x : Addr)
  /-- the dict of an exception -/
  | xd (fs : List (Str × V))
  /-- a bound method, f of x -/
  | met (f x : Addr)
  /-- a range object lo, lo + 1, .. below hi -/
  | rng (lo hi : Int)
  /-- a thing that is known to the object (the script; a dict while a loop walks it): read, never written while it is so -/
  | frz (o : Obj) (u : HO)
  /-- a code object's table -/
  | tbl (ps : Array Value)
  /-- any other thing, by what is true of its one object (a def of one's own: SetO a S n := HO.ext fun h => ..) -/
  | ext (φ : Heap → Prop)

abbrev Hp := Addr → Option HO
def upd (H : Hp) (a : Addr) (o : HO) : Hp := fun b => if b = a then some o else H b
theorem upd_same {H : Hp} {a : Addr} {o : HO} : upd H a o a = some o := by unfold upd; rw [if_pos rfl]
theorem upd_ne {H : Hp} {a b : Addr} {o : HO} (h : b ≠ a) : upd H a o b = H b := by unfold upd; rw [if_neg h]
theorem upd_upd {H : Hp} {a : Addr} {o u : HO} : upd (upd H a o) a u = upd H a u := by
  funext b; unfold upd; split <;> rfl
/-- two objects of different content stand apart -/
theorem ne_of {H : Hp} {a b : Addr} {o u : HO} (h : H a = some o) (h' : H b = some u) (d : o ≠ u) : a ≠ b := by
  intro e; subst e; rw [h] at h'; exact d (Option.some.inj h')
theorem ne_of_none {H : Hp} {a b : Addr} {o : HO} (h : H a = some o) (h' : H b = none) : a ≠ b := by
  intro e; subst e; rw [h] at h'; cases h'

section
variable (P : Program) (w : World)
def ObjOk (H : Hp) (h : Heap) (a : Addr) : HO → Prop
  | .lst xs => xs.length ≤ sizeLine ∧ ∃ (its : List Value) (n : Nat), Vals xs its ∧ h.get? a = some { cls := .type "list", data := .seq its.toArray n }
  | .tup xs => xs.length ≤ sizeLine ∧ ∃ its : List Value, Vals xs its ∧ IsTup h a its.toArray
  | .dK kvs => kvs.length ≤ sizeLine ∧ (a == sysModules) = false ∧ ∃ vs, KV kvs vs ∧ h.DictOf (mixKind P w) a vs
  | .dT kvs => kvs.length ≤ sizeLine ∧ (a == sysModules) = false ∧ ∃ xs : List (List Key × Addr × Value),
      Paired (fun (p : List Key × V) (q : List Key × Addr × Value) => p.1 = q.1 ∧ H q.2.1 = some (.tup (p.1.map kV)) ∧ RelV p.2 q.2.2) kvs xs ∧
      ∃ o es ep, h.get? a = some o ∧ o.ExactDict ∧ o.data = .dict es ep ∧ es.toList = xs.map (entryOfKey (tupleKind (mixKind P w))) ∧ (xs.map (·.1)).Nodup
  | .set S n => h.SetOf (intKind P w) a S n
  | .ins C dx fs => H dx = some (.own a) ∧ fs.length ≤ 1000 ∧ dx ≠ a ∧ h.get? a = some (PySem.W.instObj C dx) ∧
      ∃ mA, h.Ns1 dx mA ∧ (∀ f, RelO (fs.lookup f) (mA f)) ∧ PySem.Within mA (fs.map (·.1))
  | .own _ => ∃ o, h.get? a = some o
  | .xd fs => ∃ mA, h.Ns1 a mA ∧ ∀ f, RelO (fs.lookup f) (mA f)
  | .rng lo hi => ∃ t u v, h.get? a = some { cls := .type "range", data := .fields #[.int lo t, .int hi u, .int 1 v] }
  | .frz o u => h.get? a = some o ∧ ObjOk H h a u
  | .tbl ps => h.get? a = some { cls := .none, data := .fields ps }
  | .met f x => h.get? a = some (PySem.W.methodObj (.ref f) (.ref x))
  | .ext φ => φ h ∧ (∃ o, h.get? a = some o) ∧ ∀ h1 h2 : Heap, φ h1 → (∀ o, h1.get? a = some o → h2.get? a = some o) → φ h2
/-- the abstract heap is held -/
def HOk (H : Hp) (h : Heap) : Prop := ∀ a o, H a = some o → ObjOk P w H h a o
end

section
variable {P : Program} {w : World} {H H' : Hp} {h h' : Heap} {a : Addr} {o : HO}
theorem ObjOk.lt (x : ObjOk P w H h a o) : a < h.objs.size := by
  cases o with
  | lst xs => obtain ⟨_, _, _, _, e⟩ := x; exact Heap.lt_size e
  | tup xs => obtain ⟨_, _, _, p⟩ := x; exact p.lt
  | dK kvs => obtain ⟨_, _, _, _, o, _, _, e, _⟩ := x; exact Heap.lt_size e
  | dT kvs => obtain ⟨_, _, _, _, o, _, _, e, _⟩ := x; exact Heap.lt_size e
  | set S n => obtain ⟨o, _, _, _, e, _⟩ := x; exact Heap.lt_size e
  | ins C dx fs => obtain ⟨_, _, _, e, _⟩ := x; exact Heap.lt_size e
  | own y => obtain ⟨_, e⟩ := x; exact Heap.lt_size e
  | xd fs => obtain ⟨_, ⟨_, _, _, e, _⟩, _⟩ := x; exact Heap.lt_size e
  | rng lo hi => obtain ⟨_, _, _, e⟩ := x; exact Heap.lt_size e
  | frz ob u => obtain ⟨e, _⟩ := x; exact Heap.lt_size e
  | tbl ps => exact Heap.lt_size (show h.get? a = some _ from x)
  | met f y => exact Heap.lt_size (show h.get? a = some _ from x)
  | ext φ => obtain ⟨_, ⟨_, e⟩, _⟩ := x; exact Heap.lt_size e
theorem Paired.mapP {α β : Type} {F G : α → β → Prop} : ∀ {l₁ : List α} {l₂ : List β}, Paired F l₁ l₂ → (∀ a b, F a b → G a b) → Paired G l₁ l₂
  | _, _, .nil, _ => .nil
  | _, _, .cons r t, f => .cons (f _ _ r) (Paired.mapP t f)
theorem Paired.imp' {α β : Type} {F G : α → β → Prop} (f : ∀ a b, F a b → G a b) {l₁ : List α} {l₂ : List β} (r : Paired F l₁ l₂) : Paired G l₁ l₂ := Paired.mapP r f
/-- what an object's description leans on: its own object, its own dict, the tuples -/
theorem ObjOk.stay (x : ObjOk P w H h a o) (k : ∀ b u, (b = a ∨ H b = some (.own a)) → h.get? b = some u → h'.get? b = some u)
    (ho : ∀ b, H b = some (.own a) → H' b = some (.own a)) (ht : ∀ b xs, H b = some (.tup xs) → H' b = some (.tup xs)) : ObjOk P w H' h' a o := by
  induction o with
  | lst xs => obtain ⟨z, its, n, r, e⟩ := x; exact ⟨z, its, n, r, k _ _ (.inl rfl) e⟩
  | tup xs => obtain ⟨z, its, r, ob, e, c⟩ := x; exact ⟨z, its, r, ob, k _ _ (.inl rfl) e, c⟩
  | dK kvs => obtain ⟨z, y, vs, r, ob, es, ep, e, c⟩ := x; exact ⟨z, y, vs, r, ob, es, ep, k _ _ (.inl rfl) e, c⟩
  | dT kvs =>
    obtain ⟨z, y, xs, r, ob, es, ep, e, c⟩ := x
    exact ⟨z, y, xs, Paired.mapP r fun p q z => ⟨z.1, ht _ _ z.2.1, z.2.2⟩, ob, es, ep, k _ _ (.inl rfl) e, c⟩
  | set S n => obtain ⟨ob, es, ep, t, e, c⟩ := x; exact ⟨ob, es, ep, t, k _ _ (.inl rfl) e, c⟩
  | ins C dx fs =>
    obtain ⟨d, z, ne, e, mA, ⟨od, es, ep, e2, c⟩, r⟩ := x
    exact ⟨ho _ d, z, ne, k _ _ (.inl rfl) e, mA, ⟨od, es, ep, k _ _ (.inr d) e2, c⟩, r⟩
  | own y => obtain ⟨ob, e⟩ := x; exact ⟨ob, k _ _ (.inl rfl) e⟩
  | xd fs => obtain ⟨mA, ⟨od, es, ep, e, c⟩, r⟩ := x; exact ⟨mA, ⟨od, es, ep, k _ _ (.inl rfl) e, c⟩, r⟩
  | rng lo hi => obtain ⟨t, u, v, e⟩ := x; exact ⟨t, u, v, k _ _ (.inl rfl) e⟩
  | frz ob u ih => obtain ⟨e, q⟩ := x; exact ⟨k _ _ (.inl rfl) e, ih q⟩
  | tbl ps =>
    have e : h.get? a = some { cls := .none, data := .fields ps } := x
    show h'.get? a = some { cls := .none, data := .fields ps }
    exact k a _ (.inl rfl) e
  | met f y =>
    have e : h.get? a = some (PySem.W.methodObj (.ref f) (.ref y)) := x
    show h'.get? a = some (PySem.W.methodObj (.ref f) (.ref y))
    exact k a _ (.inl rfl) e
  | ext φ => obtain ⟨p, ⟨o, e⟩, st⟩ := x; exact ⟨st _ _ p fun o q => k _ _ (.inl rfl) q, ⟨o, k _ _ (.inl rfl) e⟩, st⟩
theorem HOk.lt (x : HOk P w H h) (e : H a = some o) : a < h.objs.size := (x a o e).lt
theorem HOk.fresh (x : HOk P w H h) (e : h.objs.size ≤ a) : H a = none := by
  cases q : H a with
  | none => rfl
  | some u => exact absurd (Nat.lt_of_lt_of_le (x.lt q) e) (Nat.lt_irrefl _)
/-- every object of the heap is kept -/
theorem HOk.kept (x : HOk P w H h) (k : ∀ b u, h.get? b = some u → h'.get? b = some u) : HOk P w H h' := fun a o e =>
  (x a o e).stay (fun b u _ q => k b u q) (fun _ q => q) fun _ _ q => q
/-- a new object is laid and tracked -/
theorem HOk.laid (x : HOk P w H h) (k : ∀ b u, h.get? b = some u → h'.get? b = some u) (hp : h.objs.size ≤ a) (new : ObjOk P w (upd H a o) h' a o) : HOk P w (upd H a o) h' := fun b u e => by
  have hn := x.fresh hp
  by_cases hb : b = a
  · subst hb; rw [upd_same] at e; cases e; exact new
  · rw [upd_ne hb] at e
    exact (x b u e).stay (fun c v _ q => k c v q) (fun c q => by rw [upd_ne (ne_of_none q hn)]; exact q) fun c xs q => by rw [upd_ne (ne_of_none q hn)]; exact q
end

/-- what may be read as u: it is u, or a known u -/
def Rd (H : Hp) (a : Addr) (u : HO) : Prop := H a = some u ∨ ∃ o, H a = some (.frz o u)
theorem Rd.of {H : Hp} {a : Addr} {u : HO} (h : H a = some u) : Rd H a u := .inl h
theorem Rd.ok {P : Program} {w : World} {H : Hp} {h : Heap} {a : Addr} {u : HO} (r : Rd H a u) (x : HOk P w H h) : ObjOk P w H h a u := by
  rcases r with r | ⟨o, r⟩
  · exact x a u r
  · obtain ⟨_, q⟩ := x a _ r
    exact q
/-- what may be written -/
def Mut : Option HO → Prop
  | some (.lst _) => True
  | some (.dK _) => True
  | some (.dT _) => True
  | some (.set _ _) => True
  | some (.ins _ _ _) => True
  | some (.ext _) => True
  | _ => False
section
variable {P : Program} {w : World} {H : Hp} {h h' : Heap} {x e : Addr} {o' : HO}
/-- the object at e is changed: x itself, or the dict of the instance x -/
theorem HOk.write (ok : HOk P w H h) (mu : Mut (H x)) (he : e = x ∨ H e = some (.own x)) (k : ∀ b u, b ≠ e → h.get? b = some u → h'.get? b = some u) (heo : ∃ u, h'.get? e = some u)
    (new : ObjOk P w (upd H x o') h' x o') : HOk P w (upd H x o') h' := fun b u q => by
  have nown : ∀ c y, H c = some (.own y) → c ≠ x := fun c y r z => by subst z; rw [r] at mu; exact mu
  have ntup : ∀ c xs, H c = some (.tup xs) → c ≠ x := fun c xs r z => by subst z; rw [r] at mu; exact mu
  by_cases hb : b = x
  · subst hb; rw [upd_same] at q; cases q; exact new
  · rw [upd_ne hb] at q
    by_cases hbe : b = e
    · have q' : H b = some (.own x) := by
        rcases he with z | z
        · exact absurd (hbe.trans z) hb
        · rw [hbe]; exact z
      rw [q] at q'; cases q'
      obtain ⟨v, hv⟩ := heo
      exact ⟨v, by rw [hbe]; exact hv⟩
    · refine (ok b u q).stay (fun c v hc r => k c v ?_ r) (fun c r => by rw [upd_ne (nown c b r)]; exact r) fun c xs r => by rw [upd_ne (ntup c xs r)]; exact r
      rcases hc with rfl | hc
      · exact hbe
      · rintro rfl
        rcases he with z | z
        · exact nown c b hc z
        · rw [hc] at z; cases z; exact hb rfl
end

/-! ### kept unless tracked; of the frames at fs (the callers') the slots may change (an exception that passes writes there); of the records at ex (iterators) nothing is said -/
structure Un (fs ex : List Addr) (H H' : Hp) (h h' : Heap) : Prop where
  keep : ∀ b o, h.get? b = some o → H b = none → b ∉ fs → b ∉ ex → h'.get? b = some o
  slot : ∀ b o, h.get? b = some o → H b = none → b ∈ fs → b ∉ ex → ∃ sl, h'.get? b = some { o with slots := sl }
  free : ∀ b o, h.get? b = some o → H b = none → b ∉ ex → H' b = none
  there : ∀ b o, h.get? b = some o → b ∉ ex → ∃ o', h'.get? b = some o'
  tups : ∀ b xs, H b = some (.tup xs) → H' b = some (.tup xs)
  frzs : ∀ b o u, H b = some (.frz o u) → H' b = some (.frz o u)
  tbls : ∀ b ps, H b = some (.tbl ps) → ∃ more, H' b = some (.tbl (ps ++ more))
section
variable {fs fs' ex ex' : List Addr} {H H1 H2 : Hp} {h h1 h2 h' : Heap} {a x e : Addr} {o : HO}
theorem Un.any (u : Un fs ex H H1 h h1) {b : Addr} {ob : Obj} (q : h.get? b = some ob) (n : H b = none) (hx : b ∉ ex) : ∃ sl, h1.get? b = some { ob with slots := sl } := by
  by_cases hb : b ∈ fs
  · exact u.slot b ob q n hb hx
  · exact ⟨ob.slots, u.keep b ob q n hb hx⟩
theorem Un.trans (a : Un fs ex H H1 h h1) (b : Un fs ex H1 H2 h1 h2) : Un fs ex H H2 h h2 where
  keep := fun c ob q n hc hx => b.keep c ob (a.keep c ob q n hc hx) (a.free c ob q n hx) hc hx
  slot := fun c ob q n hc hx => by
    obtain ⟨sl, e1⟩ := a.slot c ob q n hc hx
    obtain ⟨sl', e2⟩ := b.slot c _ e1 (a.free c ob q n hx) hc hx
    exact ⟨sl', e2⟩
  free := fun c ob q n hx => by
    obtain ⟨o', e1⟩ := a.there c ob q hx
    exact b.free c o' e1 (a.free c ob q n hx) hx
  there := fun c ob q hx => by
    obtain ⟨o', e1⟩ := a.there c ob q hx
    exact b.there c o' e1 hx
  tups := fun c xs q => b.tups c xs (a.tups c xs q)
  frzs := fun c ob xs q => b.frzs c ob xs (a.frzs c ob xs q)
  tbls := fun c ps q => by
    obtain ⟨m1, e1⟩ := a.tbls c ps q
    obtain ⟨m2, e2⟩ := b.tbls c _ e1
    exact ⟨m1 ++ m2, by rw [e2, Array.append_assoc]⟩
theorem Un.kept (k : ∀ b u, h.get? b = some u → h'.get? b = some u) : Un fs ex H H h h' :=
  ⟨fun b ob q _ _ _ => k b ob q, fun b ob q _ _ _ => ⟨ob.slots, k b ob q⟩, fun _ _ _ n _ => n, fun b ob q _ => ⟨ob, k b ob q⟩, fun _ _ q => q, fun _ _ _ q => q, fun _ ps q => ⟨#[], by rw [q]; simp⟩⟩
theorem Un.refl : Un fs ex H H h h := Un.kept fun _ _ q => q
theorem Un.laid (k : ∀ b u, h.get? b = some u → h'.get? b = some u) (hp : h.objs.size ≤ a) (hn : H a = none) : Un fs ex H (upd H a o) h h' where
  keep := fun b u q _ _ _ => k b u q
  slot := fun b u q _ _ _ => ⟨u.slots, k b u q⟩
  free := fun b u q n _ => by rw [upd_ne (Nat.ne_of_lt (Nat.lt_of_lt_of_le (Heap.lt_size q) hp))]; exact n
  there := fun b u q _ => ⟨u, k b u q⟩
  tups := fun b xs q => by rw [upd_ne (ne_of_none q hn)]; exact q
  frzs := fun b u xs q => by rw [upd_ne (ne_of_none q hn)]; exact q
  tbls := fun b ps q => ⟨#[], by rw [upd_ne (ne_of_none q hn), q]; simp⟩
theorem Un.write (mu : Mut (H x)) (he : e = x ∨ H e = some (.own x)) (k : ∀ b u, b ≠ e → h.get? b = some u → h'.get? b = some u) (heo : ∃ u, h'.get? e = some u) : Un fs ex H (upd H x o) h h' := by
  have hx : ∀ b, H b = none → b ≠ x := fun b n z => by subst z; rw [n] at mu; exact mu
  have hb : ∀ b, H b = none → b ≠ e := fun b n z => by
    subst z
    rcases he with r | r
    · exact hx b n r
    · rw [n] at r; cases r
  have hm : ∀ b u, H b = some u → ¬ Mut (some u) → b ≠ x := fun b u q nm z => by subst z; rw [q] at mu; exact nm mu
  refine ⟨fun b u q n _ _ => k b u (hb b n) q, fun b u q n _ _ => ⟨u.slots, k b u (hb b n) q⟩, fun b u q n _ => by rw [upd_ne (hx b n)]; exact n, fun b u q _ => ?_,
    fun b xs q => by rw [upd_ne (hm b _ q fun z => z)]; exact q, fun b u xs q => by rw [upd_ne (hm b _ q fun z => z)]; exact q, fun b ps q => ⟨#[], by rw [upd_ne (hm b _ q fun z => z), q]; simp⟩⟩
  by_cases hbe : b = e
  · subst hbe; exact heo
  · exact ⟨u, k b u hbe q⟩
theorem Un.mono (u : Un fs ex H H1 h h1) (hs : ∀ b ∈ fs, b ∈ fs') (hx : ∀ b ∈ ex, b ∈ ex') : Un fs' ex' H H1 h h1 :=
  ⟨fun b ob q n hb he => u.keep b ob q n (fun z => hb (hs b z)) fun z => he (hx b z), fun _ _ q n _ he => u.any q n fun z => he (hx _ z), fun b ob q n he => u.free b ob q n fun z => he (hx b z), fun b ob q he => u.there b ob q fun z => he (hx b z), u.tups, u.frzs, u.tbls⟩
end

/-! ### the heap without what is tracked -/
def trk (h : Heap) (H : Hp) : List Addr := (List.range h.objs.size).filter fun a => (H a).isSome
def hidT (h : Heap) (H : Hp) : Heap := PySem.W.hideAll h (trk h H)
theorem hidT_size (h : Heap) (H : Hp) : (hidT h H).objs.size = h.objs.size := PySem.W.hideAll_size _ _
theorem hidT_get {h : Heap} {H : Hp} {b : Addr} {o : Obj} (e : h.get? b = some o) (n : H b = none) : (hidT h H).get? b = some o :=
  PySem.W.hideAll_get _ e fun hm => by
    have q : (H b).isSome = true := (List.mem_filter.mp hm).2
    rw [n] at q; simp at q
theorem of_hidT {h : Heap} {H : Hp} {b : Addr} {o : Obj} (e : (hidT h H).get? b = some o) : h.get? b = some o ∧ H b = none := by
  have e' : h.get? b = some o := PySem.W.of_hideAll (trk h H) e
  refine ⟨e', ?_⟩
  cases q : H b with
  | none => rfl
  | some x =>
    have hm : b ∈ trk h H := List.mem_filter.mpr ⟨List.mem_range.mpr (Heap.lt_size e'), by simp [q]⟩
    have z : (hidT h H).get? b = none := PySem.W.hideAll_none (trk h H) hm
    rw [z] at e; cases e

/-! ### OpenK's ledger, filled with every new object but one -/
def allNews (g h : Heap) (L : Addr) : List (Addr × Obj) := (List.range h.objs.size).filterMap fun a => if a = L ∨ (g.get? a).isSome = true then none else (h.get? a).map fun o => (a, o)
theorem mem_allNews {g h : Heap} {L a : Addr} {o : Obj} (h1 : a ≠ L) (h2 : g.get? a = none) (h3 : h.get? a = some o) : (a, o) ∈ allNews g h L :=
  List.mem_filterMap.mpr ⟨a, List.mem_range.mpr (Heap.lt_size h3), by simp [h1, h2, h3]⟩
theorem of_mem_allNews {g h : Heap} {L : Addr} {p : Addr × Obj} (hp : p ∈ allNews g h L) : p.1 ≠ L ∧ g.get? p.1 = none ∧ h.get? p.1 = some p.2 := by
  obtain ⟨b, _, e⟩ := List.mem_filterMap.mp hp
  split at e
  · cases e
  · rename_i hn
    cases q : h.get? b with
    | none => rw [q] at e; simp at e
    | some u =>
      rw [q] at e
      simp only [Option.map_some, Option.some.injEq] at e
      subst e
      refine ⟨fun z => hn (.inl z), ?_, q⟩
      show g.get? b = none
      cases r : g.get? b with
      | none => rfl
      | some v => exact (hn (.inr (by simp [r]))).elim
def rest (g h : Heap) (L d : Addr) : List (Addr × Obj) := (allNews g h L).filter fun p => decide (p.1 ≠ d)
theorem rest_ne {g h : Heap} {L d : Addr} : ∀ p ∈ rest g h L d, p.1 ≠ d := fun p hp => of_decide_eq_true (List.mem_filter.mp hp).2
theorem mem_rest {g h : Heap} {L d a : Addr} {o : Obj} (h1 : a ≠ L) (h2 : g.get? a = none) (h3 : h.get? a = some o) (h4 : a ≠ d) : (a, o) ∈ rest g h L d :=
  List.mem_filter.mpr ⟨mem_allNews h1 h2 h3, decide_eq_true h4⟩
theorem news_all {g h : Heap} {L : Addr} : News g L h (allNews g h L) := fun p hp => let ⟨a, b, c⟩ := of_mem_allNews hp; ⟨c, a, b⟩
theorem news_at {g h : Heap} {L d : Addr} {o : Obj} (h1 : d ≠ L) (h2 : g.get? d = none) (h3 : h.get? d = some o) : News g L h ((d, o) :: rest g h L d) := fun p hp => by
  rcases List.mem_cons.mp hp with rfl | hp
  · exact ⟨h3, h1, h2⟩
  · exact news_all p (List.mem_filter.mp hp).1
/-- behind a rule that changed d alone: all else but the frame is kept -/
theorem kept_of_news {g h h' : Heap} {L d : Addr} {m : Str → Option Value} (k : ∀ b o, g.get? b = some o → h.get? b = some o) (F : Fr g L h' m) (N : News g L h' (rest g h L d)) :
    ∀ b o, b ≠ L → b ≠ d → h.get? b = some o → h'.get? b = some o := fun b o h1 h2 e => by
  cases q : g.get? b with
  | some u =>
    have := k b u q
    rw [e] at this; cases this
    exact F.keep b _ q
  | none => exact (N (b, o) (mem_rest h1 q e h2)).1
end L2

namespace L2
open PySem PySem.Spec PyProof.Rows

/-- the module's facts, over the base: the heap at the law's entry without what is tracked there -/
structure Mod (K : PySem.W.Frag) (mg : Str → Option Value) (base : Heap) : Prop where
  kin : K.In base
  glob : base.Ns mainGlobals mg
  blt : ∃ mb, base.Ns builtinsNs mb ∧ ∀ x : Str, x ≠ "__name__" → mb x = bootBuiltins x
  nolimit : base.NoLimit

/-- the context: a def's body (or a comprehension's block) running. base: fixed through the whole law; s₀, H₀: the entry; outer: the frames whose slots others may change (a def's callers); stack: all frames that run;
   ex: iterators that were made ahead of the entry and are walked here (a comprehension's); fn: the names whose cells were made at the entry (a def: all; a comprehension's block: its own); calm: not within an except suite; pn: pins that every state bears; xe: what is wanted of an exception that leaves the code -/
structure Cx where
  prog : Program
  w : World
  K : PySem.W.Frag
  mg : Str → Option Value
  base : Heap
  A : Around
  N : List Str
  s₀ : Shared
  H₀ : Hp
  env : Env
  outer : List Env
  stack : List Env
  ex : List Addr
  fn : Str → Bool
  calm : Bool
  pn : List (Addr × Obj)
  xe : Value → Shared → Prop
/-- the callers' frames -/
def frs (l : List Env) : List Addr := l.filterMap (·.frame)
abbrev Cx.fs (X : Cx) : List Addr := frs X.outer

def Vis (sc : Scope) (x : Str) : Prop := sc.names.lookup x = some .local ∨ sc.names.lookup x = some .cell ∨ sc.names.lookup x = some .free
def Loc (sc : Scope) (x : Str) : Prop := sc.names.lookup x = some .local ∨ sc.names.lookup x = some .cell
def Look (env : Env) (h : Heap) (m : Str → Option Value) (x : Str) (u : Value) : Prop :=
  (env.kindOf x = some .local ∧ m x = some u) ∨ ((env.kindOf x = some .cell ∨ env.kindOf x = some .free) ∧ ∃ c, env.cells.lookup x = some c ∧ h.IsCell c (some u))

structure Cx.Ok (X : Cx) : Prop where
  mod : Mod X.K X.mg X.base
  kind : X.env.scope.kind = .function
  glob : X.env.globals = mainGlobals
  blt : X.env.builtins = builtinsNs
  above : X.s₀.heap.objs.size ≤ X.env.locals
  inj : ∀ x y c, X.env.cells.lookup x = some c → X.env.cells.lookup y = some c → x = y
  has : ∀ x, (X.env.kindOf x = some .cell ∨ X.env.kindOf x = some .free) → ∃ c, X.env.cells.lookup x = some c
  cab : ∀ x c, X.fn x = true → X.env.cells.lookup x = some c → X.s₀.heap.objs.size ≤ c
  hd : X.calm = true → X.A.handled = none
  frames : X.A.frames = some X.stack
  stk : X.stack = X.outer ∨ (X.stack = X.env :: X.outer ∧ X.env.frame = some X.env.locals)
  exf : ∀ b ∈ X.ex, b ≠ X.env.locals ∧ ∀ x c, X.env.cells.lookup x = some c → c ≠ b
  bs : ∀ b o, X.base.get? b = some o → X.s₀.heap.get? b = some o ∧ X.H₀ b = none
  bsz : X.base.objs.size ≤ X.s₀.heap.objs.size
  noex : ∀ b o, X.base.get? b = some o → b ∉ X.ex
  exfs : ∀ b ∈ X.ex, b ∉ X.fs
  funs : X.s₀.heap.FunFrames X.base X.outer
  frf : ∀ b ∈ X.fs, X.H₀ b = none

structure Inv (X : Cx) (pins : List (Addr × Obj)) (σ : List (Option V)) (H : Hp) (s : Shared) : Prop where
  ok : X.Ok
  os : s.os = X.s₀.os
  bare : AllBare s.gens
  base : Un X.fs X.ex X.H₀ H X.s₀.heap s.heap
  loc : ∃ m, s.heap.Ns X.env.locals m ∧ ∀ (i : Nat) (x : Str) (v : V), X.N[i]? = some x → σ[i]? = some (some v) → Vis X.env.scope x → ∃ u, RelV v u ∧ Look X.env s.heap m x u
  cell : ∀ x c, X.env.cells.lookup x = some c → ∃ v, s.heap.IsCell c v
  free : H X.env.locals = none
  freeC : ∀ x c, X.env.cells.lookup x = some c → H c = none
  pin : ∀ p ∈ X.pn ++ pins, s.heap.get? p.1 = some p.2 ∧ H p.1 = none ∧ p.1 ≠ X.env.locals ∧ p.1 ∉ X.fs ∧ ∀ v, p.2.data ≠ .cell v
  hok : HOk X.prog X.w H s.heap
  len : σ.length = X.N.length

section
variable {X : Cx} {pins : List (Addr × Obj)} {σ : List (Option V)} {H H' : Hp} {s : Shared} {h' : Heap}

theorem Cx.Ok.nofr (ok : X.Ok) {b : Addr} {o : Obj} (e : X.base.get? b = some o) : b ∉ X.fs := fun hb => by
  have := (ok.funs.mem hb).1
  rw [e] at this; cases this
theorem Inv.bs (I : Inv X pins σ H s) : ∀ b o, X.base.get? b = some o → s.heap.get? b = some o ∧ H b = none := fun b o e =>
  ⟨I.base.keep b o (I.ok.bs b o e).1 (I.ok.bs b o e).2 (I.ok.nofr e) (I.ok.noex b o e), I.base.free b o (I.ok.bs b o e).1 (I.ok.bs b o e).2 (I.ok.noex b o e)⟩
theorem Inv.bk (I : Inv X pins σ H s) : ∀ b o, X.base.get? b = some o → s.heap.get? b = some o := fun b o e => (I.bs b o e).1
theorem Inv.mod (I : Inv X pins σ H s) : Mod X.K X.mg X.base := I.ok.mod
theorem Inv.kIn (I : Inv X pins σ H s) : X.K.In s.heap := I.ok.mod.kin.keeps I.bk
theorem Inv.nolimit (I : Inv X pins σ H s) : s.heap.NoLimit := I.ok.mod.nolimit.keeps I.bk
/-- the frame over the base: for OpenK's rules (K.In X.base is I.mod.kin) -/
theorem Inv.fr (I : Inv X pins σ H s) : ∃ m, Fr X.base X.env.locals s.heap m :=
  let ⟨m, hn, _⟩ := I.loc
  ⟨m, hn, I.bk, Nat.le_trans I.ok.bsz I.ok.above⟩
theorem Inv.lt (I : Inv X pins σ H s) : X.env.locals < s.heap.objs.size := let ⟨_, hn, _⟩ := I.loc; hn.lt
theorem Inv.sz (I : Inv X pins σ H s) : X.s₀.heap.objs.size ≤ s.heap.objs.size := Nat.le_trans I.ok.above (Nat.le_of_lt I.lt)
theorem Inv.nofs (I : Inv X pins σ H s) {a : Addr} (h : s.heap.objs.size ≤ a) : a ∉ X.fs := fun hb => by
  obtain ⟨_, o, ho, _⟩ := I.ok.funs.mem hb
  exact absurd (Nat.lt_of_lt_of_le (Heap.lt_size ho) (Nat.le_trans I.sz h)) (Nat.lt_irrefl _)
theorem Inv.cne (I : Inv X pins σ H s) : ∀ x c, X.env.cells.lookup x = some c → c ≠ X.env.locals := fun x c e z => by
  obtain ⟨v, o, ho, hd⟩ := I.cell x c e
  obtain ⟨m, ⟨o', es, ep, ho', hd', _⟩, _⟩ := I.loc
  rw [z, ho'] at ho; cases ho; rw [hd'] at hd; cases hd
theorem Inv.funs (I : Inv X pins σ H s) : s.heap.FunFrames X.base X.outer := by
  have all : ∀ (l : List Env), (∀ b ∈ frs l, b ∈ X.fs) → X.s₀.heap.FunFrames X.base l → s.heap.FunFrames X.base l := by
    intro l
    induction l with
    | nil => intro _ _; trivial
    | cons env r ih =>
      intro hs hl
      obtain ⟨hk, ⟨L, o, hf, hn, ho, hd⟩, hr⟩ := hl
      have hL : L ∈ X.fs := hs L (by unfold frs; rw [List.filterMap_cons, hf]; exact List.mem_cons_self)
      obtain ⟨sl, e⟩ := I.base.slot L o ho (I.ok.frf L hL) hL fun z => I.ok.exfs L z hL
      exact ⟨hk, ⟨L, _, hf, hn, e, hd⟩, ih (fun b hb => hs b (by unfold frs; rw [List.filterMap_cons, hf]; exact List.mem_cons_of_mem _ hb)) hr⟩
  exact all X.outer (fun _ hb => hb) I.ok.funs

/-- the frames that run, for a call -/
theorem Inv.stack (I : Inv X pins σ H s) : s.heap.FunFrames X.base X.stack := by
  rcases I.ok.stk with e | ⟨e, hf⟩
  · rw [e]; exact I.funs
  · rw [e]
    obtain ⟨m, hn, _⟩ := I.loc
    refine .cons (by rw [I.ok.kind]; decide) hf hn ?_ I.funs
    exact Heap.get?_none_of_le (Nat.le_trans I.ok.bsz I.ok.above)
theorem Inv.stkSub (I : Inv X pins σ H s) : ∀ b ∈ frs X.stack, b ∈ X.env.locals :: X.fs := fun b hb => by
  rcases I.ok.stk with e | ⟨e, hf⟩
  · rw [e] at hb; exact List.mem_cons_of_mem _ hb
  · rw [e] at hb
    unfold frs at hb
    rw [List.filterMap_cons, hf] at hb
    exact hb
theorem Inv.stkFree (I : Inv X pins σ H s) : ∀ b ∈ frs X.stack, H b = none := fun b hb => by
  rcases List.mem_cons.mp (I.stkSub b hb) with e | hb
  · rw [e]; exact I.free
  · obtain ⟨_, o, ho, _⟩ := I.ok.funs.mem hb
    exact I.base.free b o ho (I.ok.frf b hb) fun z => I.ok.exfs b z hb

/-- THE STEP: the untracked objects but the frame and the records at ch are kept (the callers' frames up to slots), the frame's map is kept, the new abstract heap is held -/
theorem Inv.step {g' : Array GenState} {t' : Nat} {d' : Drawn} {ch : List Addr} (I : Inv X pins σ H s)
    (hch : ∀ b ∈ ch, (b ∈ X.ex ∨ X.s₀.heap.objs.size ≤ b) ∧ b ≠ X.env.locals ∧ (∀ x c, X.env.cells.lookup x = some c → c ≠ b) ∧ ∀ p ∈ X.pn ++ pins, p.1 ≠ b)
    (keep : ∀ b o, b ≠ X.env.locals → b ∉ X.fs → b ∉ ch → s.heap.get? b = some o → H b = none → h'.get? b = some o)
    (slot : ∀ b o, b ≠ X.env.locals → b ∈ X.fs → b ∉ ch → s.heap.get? b = some o → H b = none → ∃ sl, h'.get? b = some { o with slots := sl }) (free : ∀ b o, b ∉ ch → s.heap.get? b = some o → H b = none → H' b = none)
    (there : ∀ b o, b ∉ ch → s.heap.get? b = some o → ∃ o', h'.get? b = some o')
    (tups : ∀ b xs, H b = some (.tup xs) → H' b = some (.tup xs)) (frzs : ∀ b o u, H b = some (.frz o u) → H' b = some (.frz o u)) (tbls : ∀ b ps, H b = some (.tbl ps) → ∃ more, H' b = some (.tbl (ps ++ more)))
    (ns : ∀ m, s.heap.Ns X.env.locals m → h'.Ns X.env.locals m) (hok : HOk X.prog X.w H' h') (hg : AllBare g') :
    Inv X pins σ H' { s with heap := h', gens := g', drawn := d', toks := t' } := by
  have neL : ∀ b o, X.s₀.heap.get? b = some o → b ≠ X.env.locals := fun b o e => Nat.ne_of_lt (Nat.lt_of_lt_of_le (Heap.lt_size e) I.ok.above)
  have neC : ∀ b o, X.s₀.heap.get? b = some o → b ∉ X.ex → b ∉ ch := fun b o e hx hb => by
    rcases (hch b hb).1 with z | z
    · exact hx z
    · exact absurd (Nat.lt_of_lt_of_le (Heap.lt_size e) z) (Nat.lt_irrefl _)
  have cellK : ∀ x c, X.env.cells.lookup x = some c → ∀ v, s.heap.IsCell c v → h'.IsCell c v := fun x c e v ⟨o, ho, hd⟩ => by
    have nch : c ∉ ch := fun z => (hch c z).2.2.1 x c e rfl
    by_cases hc : c ∈ X.fs
    · obtain ⟨sl, q⟩ := slot c o (I.cne x c e) hc nch ho (I.freeC x c e)
      exact ⟨_, q, hd⟩
    · exact ⟨o, keep c o (I.cne x c e) hc nch ho (I.freeC x c e), hd⟩
  refine ⟨I.ok, I.os, hg, ⟨fun b o e n hb hx => ?_, fun b o e n hb hx => ?_, fun b o e n hx => ?_, fun b o e hx => ?_, fun b xs e => tups b xs (I.base.tups b xs e), fun b o xs e => frzs b o xs (I.base.frzs b o xs e), fun b ps e => ?_⟩, ?_, fun x c e => ?_, ?_, fun x c e => ?_, fun p hp => ?_, hok, I.len⟩
  · exact keep b o (neL b o e) hb (neC b o e hx) (I.base.keep b o e n hb hx) (I.base.free b o e n hx)
  · obtain ⟨sl, e1⟩ := I.base.slot b o e n hb hx
    obtain ⟨sl', e2⟩ := slot b _ (neL b o e) hb (neC b o e hx) e1 (I.base.free b o e n hx)
    exact ⟨sl', e2⟩
  · obtain ⟨o', e1⟩ := I.base.there b o e hx
    exact free b o' (neC b o e hx) e1 (I.base.free b o e n hx)
  · obtain ⟨o', e1⟩ := I.base.there b o e hx
    exact there b o' (neC b o e hx) e1
  · obtain ⟨m1, e1⟩ := I.base.tbls b ps e
    obtain ⟨m2, e2⟩ := tbls b _ e1
    exact ⟨m1 ++ m2, by rw [e2, Array.append_assoc]⟩
  · obtain ⟨m, hn, hl⟩ := I.loc
    refine ⟨m, ns m hn, fun i x v e1 e2 e3 => ?_⟩
    obtain ⟨u, r, l⟩ := hl i x v e1 e2 e3
    refine ⟨u, r, ?_⟩
    rcases l with l | ⟨k, c, e, z⟩
    · exact .inl l
    · exact .inr ⟨k, c, e, cellK x c e _ z⟩
  · obtain ⟨v, z⟩ := I.cell x c e
    exact ⟨v, cellK x c e v z⟩
  · obtain ⟨m, ⟨o, _, _, ho, _⟩, _⟩ := I.loc
    exact free _ o (fun z => (hch _ z).2.1 rfl) ho I.free
  · obtain ⟨v, o, ho, hd⟩ := I.cell x c e
    exact free c o (fun z => (hch c z).2.2.1 x c e rfl) ho (I.freeC x c e)
  · obtain ⟨e, n, ne, nf, d⟩ := I.pin p hp
    have nch : p.1 ∉ ch := fun z => (hch p.1 z).2.2.2 p hp rfl
    exact ⟨keep p.1 p.2 ne nf nch e n, free p.1 p.2 nch e n, ne, nf, d⟩
/-- .. where the frame's own object is kept too -/
theorem Inv.un {t' : Nat} (I : Inv X pins σ H s) (u : Un X.fs [] H H' s.heap h') (hok : HOk X.prog X.w H' h') : Inv X pins σ H' { s with heap := h', toks := t' } := by
  obtain ⟨m, ⟨o, es, ep, ho, r⟩, _⟩ := id I.loc
  obtain ⟨sl, hL⟩ := u.any ho I.free (by simp)
  exact I.step (g' := s.gens) (d' := s.drawn) (ch := []) (fun _ z => nomatch z) (fun b o _ hb _ e n => u.keep b o e n hb (by simp)) (fun b o _ hb _ e n => u.slot b o e n hb (by simp)) (fun b o _ e n => u.free b o e n (by simp)) (fun b o _ e => u.there b o e (by simp)) u.tups u.frzs u.tbls (fun m' hm => by
    obtain ⟨o', es', ep', ho', r'⟩ := hm
    rw [ho] at ho'; cases ho'
    exact ⟨_, es', ep', hL, r'⟩) hok I.bare
/-- behind a call (or a comprehension's block): the slots of this frame may have changed too, the records at ch may have turned -/
theorem Inv.call {g' : Array GenState} {t' : Nat} {d' : Drawn} {ch : List Addr} (I : Inv X pins σ H s) (u : Un (frs X.stack) ch H H' s.heap h') (hok : HOk X.prog X.w H' h') (hg : AllBare g')
    (hch : ∀ b ∈ ch, (b ∈ X.ex ∨ X.s₀.heap.objs.size ≤ b) ∧ b ≠ X.env.locals ∧ (∀ x c, X.env.cells.lookup x = some c → c ≠ b) ∧ ∀ p ∈ X.pn ++ pins, p.1 ≠ b) :
    Inv X pins σ H' { s with heap := h', gens := g', drawn := d', toks := t' } := by
  obtain ⟨m, ⟨o, es, ep, ho, r⟩, _⟩ := id I.loc
  obtain ⟨sl, hL⟩ := u.any ho I.free fun z => (hch _ z).2.1 rfl
  exact I.step (ch := ch) hch (fun b o hL hb hc e n => u.keep b o e n (fun z => (List.mem_cons.mp (I.stkSub b z)).elim hL hb) hc) (fun b o _ _ hc e n => u.any e n hc) (fun b o hc e n => u.free b o e n hc) (fun b o hc e => u.there b o e hc) u.tups u.frzs u.tbls (fun m' hm => by
    obtain ⟨o', es', ep', ho', r'⟩ := hm
    rw [ho] at ho'; cases ho'
    exact ⟨_, es', ep', hL, r'⟩) hok hg
/-- an untracked record of ours (an iterator) has turned -/
theorem Inv.turned {t' : Nat} {it : Addr} (I : Inv X pins σ H s) (k : ∀ b o, b ≠ it → s.heap.get? b = some o → h'.get? b = some o) (hn : H it = none) (hL : it ≠ X.env.locals)
    (h1 : it ∈ X.ex ∨ X.s₀.heap.objs.size ≤ it) (h2 : ∀ x c, X.env.cells.lookup x = some c → c ≠ it) (h3 : ∀ p ∈ X.pn ++ pins, p.1 ≠ it) : Inv X pins σ H { s with heap := h', toks := t' } := by
  have nit : ∀ b u, H b = some u → b ≠ it := fun b u e z => by rw [z, hn] at e; cases e
  refine I.step (g' := s.gens) (d' := s.drawn) (ch := [it]) (fun b hb => ?_) (fun b o _ _ hc e _ => k b o (fun z => hc (by simp [z])) e) (fun b o _ _ hc e _ => ⟨o.slots, k b o (fun z => hc (by simp [z])) e⟩) (fun _ _ _ _ n => n)
    (fun b o hc e => ⟨o, k b o (fun z => hc (by simp [z])) e⟩) (fun _ _ e => e) (fun _ _ _ e => e) (fun b ps e => ⟨#[], by rw [e]; simp⟩) (fun m hm => ?_) (fun b u e => ?_) I.bare
  · have e : b = it := by simpa using hb
    subst e
    exact ⟨h1, hL, h2, h3⟩
  · obtain ⟨o, es, ep, ho, r⟩ := hm
    exact ⟨o, es, ep, k _ o (Ne.symm hL) ho, r⟩
  · refine (I.hok b u e).stay (fun c v hc q => k c v ?_ q) (fun _ q => q) fun _ _ q => q
    rcases hc with z | z
    · rw [z]; exact nit b u e
    · exact nit c _ z
theorem Inv.tok (I : Inv X pins σ H s) (t : Nat) : Inv X pins σ H { s with toks := t } := I.un (h' := s.heap) (t' := t) Un.refl I.hok
/-- all objects kept -/
theorem Inv.kept {t' : Nat} (I : Inv X pins σ H s) (k : ∀ b u, s.heap.get? b = some u → h'.get? b = some u) : Inv X pins σ H { s with heap := h', toks := t' } := I.un (Un.kept k) (I.hok.kept k)
/-- a new object laid and tracked -/
theorem Inv.laid {a : Addr} {o : HO} {t' : Nat} (I : Inv X pins σ H s) (k : ∀ b u, s.heap.get? b = some u → h'.get? b = some u) (hp : s.heap.objs.size ≤ a) (new : ObjOk X.prog X.w (upd H a o) h' a o) :
    Inv X pins σ (upd H a o) { s with heap := h', toks := t' } := I.un (Un.laid k hp (I.hok.fresh hp)) (I.hok.laid k hp new)
/-- an object written -/
theorem Inv.write {x e : Addr} {o : HO} {t' : Nat} (I : Inv X pins σ H s) (mu : Mut (H x)) (he : e = x ∨ H e = some (.own x)) (k : ∀ b u, b ≠ e → s.heap.get? b = some u → h'.get? b = some u) (heo : ∃ u, h'.get? e = some u)
    (new : ObjOk X.prog X.w (upd H x o) h' x o) : Inv X pins σ (upd H x o) { s with heap := h', toks := t' } := I.un (Un.write mu he k heo) (I.hok.write mu he k heo new)
/-- forgetting slots, pins -/
theorem Inv.weak {σ' : List (Option V)} (I : Inv X pins σ H s) (hl : σ'.length = σ.length) (w : ∀ (i : Nat) v, σ'[i]? = some (some v) → σ[i]? = some (some v)) : Inv X pins σ' H s :=
  ⟨I.ok, I.os, I.bare, I.base, let ⟨m, hn, hl'⟩ := I.loc; ⟨m, hn, fun i x v e1 e2 e3 => hl' i x v e1 (w i v e2) e3⟩, I.cell, I.free, I.freeC, I.pin, I.hok, hl.trans I.len⟩
theorem Inv.pins_of {pins' : List (Addr × Obj)} (I : Inv X pins σ H s) (h : ∀ p ∈ pins', s.heap.get? p.1 = some p.2 ∧ H p.1 = none ∧ p.1 ≠ X.env.locals ∧ p.1 ∉ X.fs ∧ ∀ v, p.2.data ≠ .cell v) : Inv X pins' σ H s :=
  ⟨I.ok, I.os, I.bare, I.base, I.loc, I.cell, I.free, I.freeC, fun p hp => (List.mem_append.mp hp).elim (fun z => I.pin p (List.mem_append_left _ z)) (h p), I.hok, I.len⟩

theorem nodup_ix {N : List Str} (hN : N.Nodup) {i j : Nat} {x : Str} (a : N[i]? = some x) (b : N[j]? = some x) : i = j := by
  obtain ⟨h1, e1⟩ := List.getElem?_eq_some_iff.mp a
  obtain ⟨h2, e2⟩ := List.getElem?_eq_some_iff.mp b
  exact (List.getElem_inj hN).mp (e1.trans e2.symm)

/-- a name is stored; what changed -/
theorem store_ok2 {M : Model} {A : Around} {E : Value → Shared → Prop} {i : Nat} {x : Str} {v : V} {u : Value} {Q : Unit → Shared → Prop} (I : Inv X pins σ H s) (hN : X.N.Nodup) (hi : X.N[i]? = some x) (hx : Loc X.env.scope x) (r : RelV v u)
    (h : ∀ s', Inv X pins (σ.set i (some v)) H s' → (∃ a, Heap.SameBut a s.heap s'.heap ∧ (a = X.env.locals ∨ X.env.cells.lookup x = some a)) → Q () s') (hf : X.fn x = true ∨ X.env.scope.names.lookup x = some .local := by first | exact .inl rfl | exact .inr rfl | assumption) : wpAny M A (storeName X.env x u) Q E s := by
  obtain ⟨m, hn, hl⟩ := id I.loc
  have hcls : (X.env.scope.kind == .class || (X.env.scope.kind == .module && X.env.locals != X.env.globals)) = false := by rw [I.ok.kind]; rfl
  have hiσ : i < σ.length := by rw [I.len]; exact (List.getElem?_eq_some_iff.mp hi).1
  have cne := I.cne
  have tracked : ∀ {a : Addr} {h' : Heap}, (∃ o, s.heap.get? a = some o ∧ H a = none) → Heap.SameBut a s.heap h' → HOk X.prog X.w H h' := fun {a h'} ha hs b ob e => by
    obtain ⟨_, _, hfree⟩ := ha
    refine (I.hok b ob e).stay (fun c w' hc q => (hs.2 c ?_).trans q) (fun _ q => q) fun _ _ q => q
    rintro rfl
    rcases hc with rfl | hc
    · rw [hfree] at e; cases e
    · rw [hfree] at hc; cases hc
  rcases hx with hk | hk
  · refine wpAny_storeName_local hk hn (fun h' hn' hs => ?_) hcls
    obtain ⟨oL, _, _, hoL, _⟩ := id hn
    refine h _ ⟨I.ok, I.os, I.bare, ⟨fun b o e n hb hx => ?_, fun b o e n hb hx => ?_, I.base.free, fun b o e hx => ?_, I.base.tups, I.base.frzs, I.base.tbls⟩, ⟨_, hn', fun j y v' e1 e2 e3 => ?_⟩, fun y c e => ?_, I.free, I.freeC, fun p hp => ?_, tracked ⟨oL, hoL, I.free⟩ hs, by simpa using I.len⟩ ⟨_, hs, .inl rfl⟩
    · exact (hs.2 b (Nat.ne_of_lt (Nat.lt_of_lt_of_le (Heap.lt_size e) I.ok.above))).trans (I.base.keep b o e n hb hx)
    · obtain ⟨sl, e1⟩ := I.base.slot b o e n hb hx
      exact ⟨sl, (hs.2 b (Nat.ne_of_lt (Nat.lt_of_lt_of_le (Heap.lt_size e) I.ok.above))).trans e1⟩
    · obtain ⟨o', e1⟩ := I.base.there b o e hx
      exact ⟨o', (hs.2 b (Nat.ne_of_lt (Nat.lt_of_lt_of_le (Heap.lt_size e) I.ok.above))).trans e1⟩
    · by_cases hj : j = i
      · subst hj
        rw [hi] at e1; cases e1
        rw [List.getElem?_set_self hiσ] at e2
        cases e2
        exact ⟨u, r, .inl ⟨hk, by simp⟩⟩
      · rw [List.getElem?_set_ne (Ne.symm hj)] at e2
        obtain ⟨u', r', q⟩ := hl j y v' e1 e2 e3
        refine ⟨u', r', ?_⟩
        rcases q with ⟨k, e⟩ | ⟨k, c, e, z⟩
        · refine .inl ⟨k, ?_⟩
          have : y ≠ x := fun e => hj (nodup_ix hN e1 (e ▸ hi))
          simp [this, e]
        · exact .inr ⟨k, c, e, z.sameBut hs (cne y c e)⟩
    · obtain ⟨w', z⟩ := I.cell y c e
      exact ⟨w', z.sameBut hs (cne y c e)⟩
    · obtain ⟨e, n, ne, nf, d⟩ := I.pin p hp
      exact ⟨(hs.2 p.1 ne).trans e, n, ne, nf, d⟩
  · have hfn : X.fn x = true := by
      rcases hf with z | z
      · exact z
      · rw [z] at hk; cases hk
    obtain ⟨c, hc⟩ := I.ok.has x (.inl hk)
    obtain ⟨w', z⟩ := I.cell x c hc
    refine wpAny_storeName_cell I.ok.kind hk hc z (fun h' hc' hs => ?_)
    obtain ⟨oc, hoc, hocd⟩ := id z
    refine h { s with heap := h' } ⟨I.ok, I.os, I.bare, ⟨fun b o e n hb hx => ?_, fun b o e n hb hx => ?_, I.base.free, fun b o e hx => ?_, I.base.tups, I.base.frzs, I.base.tbls⟩, ⟨m, hn.sameBut hs (Ne.symm (cne x c hc)), fun j y v' e1 e2 e3 => ?_⟩, fun y c' e => ?_, I.free, I.freeC, fun p hp => ?_, tracked ⟨oc, hoc, I.freeC x c hc⟩ hs, by simpa using I.len⟩ ⟨c, hs, .inr hc⟩
    · exact (hs.2 b (Nat.ne_of_lt (Nat.lt_of_lt_of_le (Heap.lt_size e) (I.ok.cab x c hfn hc)))).trans (I.base.keep b o e n hb hx)
    · obtain ⟨sl, e1⟩ := I.base.slot b o e n hb hx
      exact ⟨sl, (hs.2 b (Nat.ne_of_lt (Nat.lt_of_lt_of_le (Heap.lt_size e) (I.ok.cab x c hfn hc)))).trans e1⟩
    · obtain ⟨o', e1⟩ := I.base.there b o e hx
      exact ⟨o', (hs.2 b (Nat.ne_of_lt (Nat.lt_of_lt_of_le (Heap.lt_size e) (I.ok.cab x c hfn hc)))).trans e1⟩
    · by_cases hj : j = i
      · subst hj
        rw [hi] at e1; cases e1
        rw [List.getElem?_set_self hiσ] at e2
        cases e2
        exact ⟨u, r, .inr ⟨.inl hk, c, hc, hc'⟩⟩
      · rw [List.getElem?_set_ne (Ne.symm hj)] at e2
        obtain ⟨u', r', q⟩ := hl j y v' e1 e2 e3
        refine ⟨u', r', ?_⟩
        rcases q with q | ⟨k, c', e, z'⟩
        · exact .inl q
        · refine .inr ⟨k, c', e, z'.sameBut hs ?_⟩
          rintro rfl
          exact hj (nodup_ix hN e1 (I.ok.inj _ _ _ e hc ▸ hi))
    · by_cases hcc : c' = c
      · subst hcc; exact ⟨_, hc'⟩
      · obtain ⟨w2, z2⟩ := I.cell y c' e
        exact ⟨w2, z2.sameBut hs hcc⟩
    · obtain ⟨e, n, ne, nf, d⟩ := I.pin p hp
      refine ⟨(hs.2 p.1 ?_).trans e, n, ne, nf, d⟩
      intro q
      rw [q, hoc] at e
      have q' : oc = p.2 := Option.some.inj e
      exact d w' (by rw [← q']; exact hocd)
theorem store_ok {M : Model} {A : Around} {E : Value → Shared → Prop} {i : Nat} {x : Str} {v : V} {u : Value} {Q : Unit → Shared → Prop} (I : Inv X pins σ H s) (hN : X.N.Nodup) (hi : X.N[i]? = some x) (hx : Loc X.env.scope x) (r : RelV v u)
    (h : ∀ s', Inv X pins (σ.set i (some v)) H s' → Q () s') (hf : X.fn x = true ∨ X.env.scope.names.lookup x = some .local := by first | exact .inl rfl | exact .inr rfl | assumption) : wpAny M A (storeName X.env x u) Q E s :=
  store_ok2 I hN hi hx r (fun s' I' _ => h s' I') hf
/-- behind a call or a block, the state as it is -/
theorem Inv.call' {s' : Shared} {ch : List Addr} (I : Inv X pins σ H s) (ho : s'.os = s.os) (u : Un (frs X.stack) ch H H' s.heap s'.heap) (hok : HOk X.prog X.w H' s'.heap) (hg : AllBare s'.gens)
    (hch : ∀ b ∈ ch, (b ∈ X.ex ∨ X.s₀.heap.objs.size ≤ b) ∧ b ≠ X.env.locals ∧ (∀ x c, X.env.cells.lookup x = some c → c ≠ b) ∧ ∀ p ∈ X.pn ++ pins, p.1 ≠ b) : Inv X pins σ H' s' := by
  obtain ⟨h', g', d', t', o'⟩ := s'
  have e : o' = s.os := ho
  subst e
  exact I.call (g' := g') (t' := t') (d' := d') u hok hg hch
end

/-! ### the judgements -/
/-- an exception: its class, its own dict's address (where it has one), the abstract heap behind it -/
abbrev XK := Value → Option Addr → Hp → Prop
abbrev St := List (Option V)
abbrev VK := V → Hp → Prop
/-- an expression's reading; a test's; an argument list's -/
abbrev TE := St → Hp → VK → Prop
abbrev TT := St → Hp → (Bool → Hp → Prop) → Prop
abbrev TA := St → Hp → (List V → Hp → Prop) → Prop
/-- what is wanted behind a statement -/
structure Ends where
  nx : St → Hp → Prop
  rt : VK
  bk : St → Hp → Prop := fun _ _ => False
  ct : St → Hp → Prop := fun _ _ => False
abbrev TS := Ends → St → Hp → Prop

def EP (X : Cx) (pins : List (Addr × Obj)) (σ : St) (Q : VK) (u : Value) (s' : Shared) : Prop := ∃ v H', Inv X pins σ H' s' ∧ RelV v u ∧ Q v H'
def TP (X : Cx) (pins : List (Addr × Obj)) (σ : St) (Q : Bool → Hp → Prop) (b : Bool) (s' : Shared) : Prop := ∃ H', Inv X pins σ H' s' ∧ Q b H'
def AP (X : Cx) (pins : List (Addr × Obj)) (σ : St) (Q : List V → Hp → Prop) (us : List Value) (s' : Shared) : Prop := ∃ vs H', Inv X pins σ H' s' ∧ Vals vs us ∧ Q vs H'
def SP (X : Cx) (pins : List (Addr × Obj)) (D : Ends) (f : Flow) (s' : Shared) : Prop :=
  match f with
  | .next => ∃ σ' H', Inv X pins σ' H' s' ∧ D.nx σ' H'
  | .brk => ∃ σ' H', Inv X pins σ' H' s' ∧ D.bk σ' H'
  | .cont => ∃ σ' H', Inv X pins σ' H' s' ∧ D.ct σ' H'
  | .ret u => ∃ v σ' H', Inv X pins σ' H' s' ∧ RelV v u ∧ D.rt v H'

def PE (X : Cx) (e : Expr) (t : TE) : Prop :=
  ∀ (pins : List (Addr × Obj)) (s : Shared) (σ : St) (H : Hp) (Q : VK), Inv X pins σ H s → t σ H Q → wpAny (model X.prog X.w) X.A (eval e X.env) (EP X pins σ Q) X.xe s
def PT (X : Cx) (e : Expr) (t : TT) : Prop :=
  ∀ (pins : List (Addr × Obj)) (s : Shared) (σ : St) (H : Hp) (Q : Bool → Hp → Prop), Inv X pins σ H s → t σ H Q → wpAny (model X.prog X.w) X.A (isTrue e X.env (eval e X.env)) (TP X pins σ Q) X.xe s
/-- a test whatever its 'whole' is (and, or) -/
def PW (X : Cx) (e : Expr) (t : TT) : Prop :=
  ∀ (whole : Sem Value) (pins : List (Addr × Obj)) (s : Shared) (σ : St) (H : Hp) (Q : Bool → Hp → Prop), Inv X pins σ H s → t σ H Q → wpAny (model X.prog X.w) X.A (isTrue e X.env whole) (TP X pins σ Q) X.xe s
theorem PW.pt {X : Cx} {e : Expr} {t : TT} (h : PW X e t) : PT X e t := h _
/-- an argument list (no star), from the left -/
def PA (X : Cx) (es : List Expr) (t : TA) : Prop :=
  ∀ (pos : Pos) (pins : List (Addr × Obj)) (s : Shared) (σ : St) (H : Hp) (Q : List V → Hp → Prop), Inv X pins σ H s → t σ H Q → wpAny (model X.prog X.w) X.A (spliced (backTo pos (starEach es X.env))) (AP X pins σ Q) X.xe s
def PS (X : Cx) (st : Stmt) (t : TS) : Prop :=
  ∀ (pins : List (Addr × Obj)) (s : Shared) (σ : St) (H : Hp) (D : Ends), Inv X pins σ H s → t D σ H → wpAny (model X.prog X.w) X.A (exec st X.env) (SP X pins D) X.xe s
def PSs (X : Cx) (st : List Stmt) (t : TS) : Prop :=
  ∀ (pins : List (Addr × Obj)) (s : Shared) (σ : St) (H : Hp) (D : Ends), Inv X pins σ H s → t D σ H → wpAny (model X.prog X.w) X.A (execs st X.env) (SP X pins D) X.xe s
/-- weaken the end -/
theorem thn {α : Type} {t : Sem α} {Q Q' : α → Shared → Prop} {M : Model} {A : Around} {E : Value → Shared → Prop} {s : Shared} (h : wpAny M A t Q E s) (hQ : ∀ a s, Q a s → Q' a s) : wpAny M A t Q' E s := wpAny_mono h hQ fun _ _ x => x
end L2

namespace L2
open PySem PySem.Spec PyProof.Rows
section
variable {X : Cx}

/-- two expressions in a row -/
theorem bin {a b : Expr} {ta tb : TE} (ha : PE X a ta) (hb : PE X b tb) {pins : List (Addr × Obj)} {s : Shared} {σ : St} {H : Hp} {R : V → V → Hp → Prop} (I : Inv X pins σ H s) (h : ta σ H fun x H1 => tb σ H1 fun y H2 => R x y H2)
    {α : Type} {Q : α → Shared → Prop} {f : Value → Value → Sem α}
    (hf : ∀ v u s2 x y H2, Inv X pins σ H2 s2 → RelV x v → RelV y u → R x y H2 → wpAny (model X.prog X.w) X.A (f v u) Q X.xe s2) :
    wpAny (model X.prog X.w) X.A (eval a X.env) (fun v s₁ => wpAny (model X.prog X.w) X.A (eval b X.env) (fun u s₂ => wpAny (model X.prog X.w) X.A (f v u) Q X.xe s₂) X.xe s₁) X.xe s := by
  refine thn (ha pins s σ H _ I h) fun v s1 ⟨x, H1, I1, r1, q1⟩ => ?_
  refine thn (hb pins s1 σ H1 _ I1 q1) fun u s2 ⟨y, H2, I2, r2, q2⟩ => ?_
  exact hf v u s2 x y H2 I2 r1 r2 q2

/-! ### names and constants -/
def tVar (i : Nat) : TE := fun σ H Q => ∃ v, σ[i]? = some (some v) ∧ Q v H
def tC (v : V) : TE := fun _ H Q => Q v H
theorem pe_var {i : Nat} {x : Str} {pos : Pos} (hN : X.N[i]? = some x) (hv : Vis X.env.scope x) (hd : (x == ("__debug__" : Str)) = false := by decide) (hcd : (x == ("__classdict__" : Str)) = false := by decide) : PE X (.Name x pos) (tVar i) := by
  intro pins s σ H Q I h
  obtain ⟨v, e, h⟩ := h
  obtain ⟨m, hn, hl⟩ := I.loc
  obtain ⟨u, r, l⟩ := hl i x v hN e hv
  have fin : EP X pins σ Q u s := ⟨v, H, I, r, h⟩
  rcases l with ⟨hk, hm⟩ | ⟨hk, c, hc, hcell⟩
  · exact wpAny_Name (wpAny_loadName_local I.ok.kind hk hn hm fin) hd
  · rcases hk with hk | hk
    · exact wpAny_Name (wpAny_loadName_cell I.ok.kind hk hc hcell fin) hd
    · exact wpAny_Name (wpAny_loadName_free I.ok.kind hk hc hcell fin hcd) hd
theorem pe_int {i j pos} : PE X (.Constant (.int i) j pos) (tC (.int i)) := fun _ _ _ H _ I h => wpAny_Constant_int ⟨.int i, H, I.tok _, ⟨_, rfl⟩, h⟩
theorem pe_bl {b j pos} : PE X (.Constant (.bool b) j pos) (tC (.bl b)) := fun _ _ _ H _ I h => Constant_bool ⟨.bl b, H, I, rfl, h⟩
theorem pe_non {j pos} : PE X (.Constant .none j pos) (tC .non) := fun _ _ _ H _ I h => Constant_none ⟨.non, H, I, rfl, h⟩
theorem pe_str {x j pos} : PE X (.Constant (.str x) j pos) (tC (.str x)) := fun _ _ _ H _ I h => Calls.Constant_str ⟨.str x, H, I.tok _, ⟨_, rfl⟩, h⟩

/-- a global name of the def -/
def Gl (X : Cx) (x : Str) : Prop := X.env.kindOf x = some .globalImplicit
theorem ld_glob {E : Value → Shared → Prop} {pins : List (Addr × Obj)} {s : Shared} {σ : St} {H : Hp} {x : Str} {u : Value} {pos : Pos} {Q : Value → Shared → Prop} (I : Inv X pins σ H s) (hg : Gl X x) (hm : X.mg x = some u) (h : Q u s)
    (hd : (x == ("__debug__" : Str)) = false := by decide) : wpAny (model X.prog X.w) X.A (eval (.Name x pos) X.env) Q E s :=
  Calls.Name_function_global I.ok.kind hg (Calls.loadGlobal_global (by rw [I.ok.glob]; exact I.mod.glob.keeps I.bk) hm h) hd
theorem ld_blt {E : Value → Shared → Prop} {pins : List (Addr × Obj)} {s : Shared} {σ : St} {H : Hp} {x : Str} {u : Value} {pos : Pos} {Q : Value → Shared → Prop} (I : Inv X pins σ H s) (hg : Gl X x) (hm : X.mg x = none) (hv : bootBuiltins x = some u) (h : Q u s)
    (hn : x ≠ "__name__" := by decide) (hd : (x == ("__debug__" : Str)) = false := by decide) : wpAny (model X.prog X.w) X.A (eval (.Name x pos) X.env) Q E s := by
  obtain ⟨mb, h1, h2⟩ := I.mod.blt
  exact Calls.Name_function_global I.ok.kind hg (Calls.loadGlobal_builtin (by rw [I.ok.glob]; exact I.mod.glob.keeps I.bk) hm (by rw [I.ok.blt]; exact h1.keeps I.bk) ((h2 x hn).trans hv) h) hd
/-- a module's constant, a class, a function, as a value -/
theorem pe_glob {x : Str} {v : V} {u : Value} {pos : Pos} (hg : Gl X x) (hm : X.mg x = some u) (r : RelV v u) (hd : (x == ("__debug__" : Str)) = false := by decide) : PE X (.Name x pos) (tC v) :=
  fun _ _ _ H _ I h => ld_glob I hg hm ⟨v, H, I, r, h⟩ hd
theorem pe_bltn {x : Str} {v : V} {u : Value} {pos : Pos} (hg : Gl X x) (hm : X.mg x = none) (hv : bootBuiltins x = some u) (r : RelV v u) (hn : x ≠ "__name__" := by decide) (hd : (x == ("__debug__" : Str)) = false := by decide) : PE X (.Name x pos) (tC v) :=
  fun _ _ _ H _ I h => ld_blt I hg hm hv ⟨v, H, I, r, h⟩ hn hd

/-! ### arithmetic -/
/-- two ints -/
def t2I (ta tb : TE) (k : Int → Int → Hp → Prop) : St → Hp → Prop := fun σ H => ta σ H fun x H1 => tb σ H1 fun y H2 => ∃ i j, x = .int i ∧ y = .int j ∧ k i j H2
def tAdd (ta tb : TE) : TE := fun σ H Q => t2I ta tb (fun i j H2 => Q (.int (i + j)) H2) σ H
def tSub (ta tb : TE) : TE := fun σ H Q => t2I ta tb (fun i j H2 => Q (.int (i - j)) H2) σ H
/-- the left factor below 2^64 -/
def tMul (ta tb : TE) : TE := fun σ H Q => t2I ta tb (fun i j H2 => (-(2 ^ 64) < i ∧ i < 2 ^ 64) ∧ Q (.int (i * j)) H2) σ H
variable {a b : Expr} {ta tb : TE} {pos : Pos}
theorem pe_add (ha : PE X a ta) (hb : PE X b tb) : PE X (.BinOp a .Add b pos) (tAdd ta tb) := by
  intro pins s σ H Q I h
  refine wpAny_BinOp (bin ha hb I h fun v u s2 x y H2 I2 rx ry q => ?_)
  obtain ⟨i, j, rfl, rfl, q⟩ := q
  obtain ⟨t, rfl⟩ := rx
  obtain ⟨t', rfl⟩ := ry
  exact add_int ⟨.int _, H2, I2.tok _, ⟨_, rfl⟩, q⟩
theorem pe_sub (ha : PE X a ta) (hb : PE X b tb) : PE X (.BinOp a .Sub b pos) (tSub ta tb) := by
  intro pins s σ H Q I h
  refine wpAny_BinOp (bin ha hb I h fun v u s2 x y H2 I2 rx ry q => ?_)
  obtain ⟨i, j, rfl, rfl, q⟩ := q
  obtain ⟨t, rfl⟩ := rx
  obtain ⟨t', rfl⟩ := ry
  exact sub_int ⟨.int _, H2, I2.tok _, ⟨_, rfl⟩, q⟩
theorem pe_mul (ha : PE X a ta) (hb : PE X b tb) : PE X (.BinOp a .Mult b pos) (tMul ta tb) := by
  intro pins s σ H Q I h
  refine wpAny_BinOp (bin ha hb I h fun v u s2 x y H2 I2 rx ry q => ?_)
  obtain ⟨i, j, rfl, rfl, ⟨q1, q2⟩, q⟩ := q
  obtain ⟨t, rfl⟩ := rx
  obtain ⟨t', rfl⟩ := ry
  exact mul_int ⟨.int _, H2, I2.tok _, ⟨_, rfl⟩, q⟩ (.of_left (intBits_le_64 q1 q2))

/-! ### comparisons -/
def PC (X : Cx) (op : CmpOp) (a b : Expr) (t : TE) : Prop :=
  ∀ (pins : List (Addr × Obj)) (s : Shared) (σ : St) (H : Hp) (Q : VK), Inv X pins σ H s → t σ H Q →
    wpAny (model X.prog X.w) X.A (eval a X.env) (fun v s₁ => wpAny (model X.prog X.w) X.A (eval b X.env) (fun u s₂ => wpAny (model X.prog X.w) X.A (compareOp op v u) (EP X pins σ Q) X.xe s₂) X.xe s₁) X.xe s
theorem nobehind (b : Expr) {op : CmpOp} (h : op ≠ .In) (h2 : op ≠ .NotIn) : behindInMarks op b = false := by
  have e1 : (op == CmpOp.In) = false := by cases op <;> first | rfl | exact absurd rfl h
  have e2 : (op == CmpOp.NotIn) = false := by cases op <;> first | rfl | exact absurd rfl h2
  cases b <;> simp [behindInMarks, e1, e2]
def tCmp (p : Int → Int → Bool) (ta tb : TE) : TE := fun σ H Q => t2I ta tb (fun i j H2 => Q (.bl (p i j)) H2) σ H
abbrev tLt : TE → TE → TE := tCmp fun i j => decide (i < j)
abbrev tLe : TE → TE → TE := tCmp fun i j => decide (i ≤ j)
abbrev tGt : TE → TE → TE := tCmp fun i j => decide (j < i)
abbrev tGe : TE → TE → TE := tCmp fun i j => decide (j ≤ i)
abbrev tEqI : TE → TE → TE := tCmp fun i j => decide (i = j)
abbrev tNeI : TE → TE → TE := tCmp fun i j => !decide (i = j)
/-- a comparison of two ints, by its rule -/
theorem pc_int {op : CmpOp} {p : Int → Int → Bool} (ha : PE X a ta) (hb : PE X b tb)
    (rule : ∀ (i j : Int) (t u : Tok) (Q : Value → Shared → Prop) (s : Shared), Q (.bool (p i j)) s → wpAny (model X.prog X.w) X.A (compareOp op (.int i t) (.int j u)) Q X.xe s) : PC X op a b (tCmp p ta tb) := by
  intro pins s σ H Q I h
  refine bin ha hb I h fun v u s2 x y H2 I2 rx ry q => ?_
  obtain ⟨i, j, rfl, rfl, q⟩ := q
  obtain ⟨t, rfl⟩ := rx
  obtain ⟨t', rfl⟩ := ry
  exact rule i j t t' _ s2 ⟨.bl _, H2, I2, rfl, q⟩
theorem pc_lt (ha : PE X a ta) (hb : PE X b tb) : PC X .Lt a b (tLt ta tb) := pc_int ha hb fun _ _ _ _ _ _ h => lt_int h
theorem pc_le (ha : PE X a ta) (hb : PE X b tb) : PC X .LtE a b (tLe ta tb) := pc_int ha hb fun _ _ _ _ _ _ h => le_int h
theorem pc_gt (ha : PE X a ta) (hb : PE X b tb) : PC X .Gt a b (tGt ta tb) := pc_int ha hb fun _ _ _ _ _ _ h => gt_int h
theorem pc_ge (ha : PE X a ta) (hb : PE X b tb) : PC X .GtE a b (tGe ta tb) := pc_int ha hb fun _ _ _ _ _ _ h => ge_int h
theorem pc_eqI (ha : PE X a ta) (hb : PE X b tb) : PC X .Eq a b (tEqI ta tb) := pc_int ha hb fun _ _ _ _ _ _ h => eq_int (by rw [Bool.beq_eq_decide_eq]; exact h)
theorem pc_neI (ha : PE X a ta) (hb : PE X b tb) : PC X .NotEq a b (tNeI ta tb) := pc_int ha hb fun _ _ _ _ _ _ h => ne_int (by rw [bne, Bool.beq_eq_decide_eq]; exact h)
/-- is None -/
def tIsN (ta : TE) : TE := fun σ H Q => ta σ H fun x H1 => Q (.bl (decide (x = .non))) H1
def tNotN (ta : TE) : TE := fun σ H Q => ta σ H fun x H1 => Q (.bl (!decide (x = .non))) H1
theorem RelV.none_iff {x : V} {v : Value} (r : RelV x v) : (v == Value.none) = decide (x = .non) := by
  cases x with
  | non => cases r; rfl
  | bl _ => cases r; rfl
  | int _ => obtain ⟨t, rfl⟩ := r; rfl
  | str _ => obtain ⟨t, rfl⟩ := r; rfl
  | byt _ => obtain ⟨t, rfl⟩ := r; rfl
  | flt _ => obtain ⟨t, rfl⟩ := r; rfl
  | ref _ => cases r; rfl
  | ty _ => cases r; rfl
theorem pc_isN {j pos'} (ha : PE X a ta) : PC X .Is a (.Constant .none j pos') (tIsN ta) := by
  intro pins s σ H Q I h
  refine thn (ha pins s σ H _ I h) fun v s1 ⟨x, H1, I1, r1, q1⟩ => ?_
  exact Constant_none (is_none_gen ⟨.bl _, H1, I1, by rw [r1.none_iff]; rfl, q1⟩)
theorem pc_notN {j pos'} (ha : PE X a ta) : PC X .IsNot a (.Constant .none j pos') (tNotN ta) := by
  intro pins s σ H Q I h
  refine thn (ha pins s σ H _ I h) fun v s1 ⟨x, H1, I1, r1, q1⟩ => ?_
  exact Constant_none (isnot_none_gen ⟨.bl _, H1, I1, by rw [r1.none_iff]; rfl, q1⟩)
/-- a comparison as a value, as a test -/
def tB (t : TE) : TT := fun σ H Q => t σ H fun x H1 => ∃ c, x = .bl c ∧ Q c H1
theorem pe_cmp {op : CmpOp} {t : TE} (h : PC X op a b t) (h1 : behindInMarks op b = false := by first | exact nobehind _ (by decide) (by decide) | rfl) : PE X (.Compare a [op] [b] pos) t := fun pins s σ H Q I hw => wpAny_Compare1 (h pins s σ H Q I hw) h1
theorem pt_cmp {op : CmpOp} {t : TE} (h : PC X op a b t) (h1 : behindInMarks op b = false := by first | exact nobehind _ (by decide) (by decide) | rfl) : PT X (.Compare a [op] [b] pos) (tB t) := by
  intro pins s σ H Q I hw
  refine wpAny_isTrue_Compare1 (thn (h pins s σ H _ I hw) fun v s1 h1 => thn h1 fun u s2 h2 => thn h2 fun c s3 ⟨x, H1, I1, r1, q1⟩ => ?_) h1
  obtain ⟨d, rfl, q⟩ := q1
  cases r1
  exact wpAny_truthy_bool ⟨H1, I1, q⟩
/-- an expression whose value is a bool, as a test -/
theorem pt_val {e : Expr} {t : TE} (h : PE X e t) (he : ∀ whole, isTrue e X.env whole = (do let v ← whole; standAt e.pos; holding [v] (truthy v)) := by intro _; rfl) : PT X e (tB t) := by
  intro pins s σ H Q I hw
  refine isTrue_plain (thn (h pins s σ H _ I hw) fun v s1 ⟨x, H1, I1, r1, q1⟩ => ?_) (he _)
  obtain ⟨d, rfl, q⟩ := q1
  cases r1
  exact wpAny_truthy_bool ⟨H1, I1, q⟩

/-! ### and, or, not -/
variable {tA tB' : TT} {rest : List Expr}
def tAnd (t u : TT) : TT := fun σ H Q => t σ H fun c H1 => if c = true then u σ H1 Q else Q false H1
def tOr (t u : TT) : TT := fun σ H Q => t σ H fun c H1 => if c = true then Q true H1 else u σ H1 Q
def tNot (t : TT) : TT := fun σ H Q => t σ H fun c H1 => Q (!c) H1
theorem pw_and1 (ha : PT X a tA) : PW X (.BoolOp .And [a] pos) tA := by
  intro wh pins s σ H Q I h
  refine isTrue_and (thn (ha pins s σ H Q I h) fun c s1 e => ?_)
  cases c with
  | true => exact isTrue_and_nil e
  | false => exact e
theorem pw_or1 (ha : PT X a tA) : PW X (.BoolOp .Or [a] pos) tA := by
  intro wh pins s σ H Q I h
  refine isTrue_or (thn (ha pins s σ H Q I h) fun c s1 e => ?_)
  cases c with
  | false => exact isTrue_or_nil e
  | true => exact e
theorem pw_and (ha : PT X a tA) (hb : PW X (.BoolOp .And (b :: rest) pos) tB') : PW X (.BoolOp .And (a :: b :: rest) pos) (tAnd tA tB') := by
  intro wh pins s σ H Q I h
  refine isTrue_and (thn (ha pins s σ H _ I h) fun c s1 ⟨H1, I1, q1⟩ => ?_)
  cases c with
  | true => exact hb wh pins s1 σ H1 Q I1 q1
  | false => exact ⟨H1, I1, q1⟩
theorem pw_or (ha : PT X a tA) (hb : PW X (.BoolOp .Or (b :: rest) pos) tB') : PW X (.BoolOp .Or (a :: b :: rest) pos) (tOr tA tB') := by
  intro wh pins s σ H Q I h
  refine isTrue_or (thn (ha pins s σ H _ I h) fun c s1 ⟨H1, I1, q1⟩ => ?_)
  cases c with
  | true => exact ⟨H1, I1, q1⟩
  | false => exact hb wh pins s1 σ H1 Q I1 q1
theorem pt_not (ha : PT X a tA) : PT X (.UnaryOp .Not a pos) (tNot tA) := by
  intro pins s σ H Q I h
  exact isTrue_not (ha pins s σ H (fun c H1 => Q (!c) H1) I h)
/-- .. as values (bools) -/
def tAndV (ta tb : TE) : TE := fun σ H Q => ta σ H fun x H1 => ∃ c, x = .bl c ∧ if c = true then tb σ H1 Q else Q (.bl false) H1
def tOrV (ta tb : TE) : TE := fun σ H Q => ta σ H fun x H1 => ∃ c, x = .bl c ∧ if c = true then Q (.bl true) H1 else tb σ H1 Q
def tNotV (ta : TE) : TE := fun σ H Q => ta σ H fun x H1 => ∃ c, x = .bl c ∧ Q (.bl (!c)) H1
theorem pe_one {op} {t : TE} (h : PE X a t) : PE X (.BoolOp op [a] pos) t := fun pins s σ H Q I hw => BoolOp_one (h pins s σ H Q I hw)
theorem pe_and (ha : PE X a ta) (hb : PE X (.BoolOp .And (b :: rest) pos) tb) : PE X (.BoolOp .And (a :: b :: rest) pos) (tAndV ta tb) := by
  intro pins s σ H Q I h
  refine BoolOp_and (thn (ha pins s σ H _ I h) fun v s1 ⟨x, H1, I1, r1, q1⟩ => ?_)
  obtain ⟨c, rfl, q1⟩ := q1
  cases r1
  refine wpAny_truthy_bool ?_
  cases c with
  | true => exact hb pins s1 σ H1 Q I1 q1
  | false => exact ⟨.bl false, H1, I1, rfl, q1⟩
theorem pe_or (ha : PE X a ta) (hb : PE X (.BoolOp .Or (b :: rest) pos) tb) : PE X (.BoolOp .Or (a :: b :: rest) pos) (tOrV ta tb) := by
  intro pins s σ H Q I h
  refine BoolOp_or (thn (ha pins s σ H _ I h) fun v s1 ⟨x, H1, I1, r1, q1⟩ => ?_)
  obtain ⟨c, rfl, q1⟩ := q1
  cases r1
  refine wpAny_truthy_bool ?_
  cases c with
  | false => exact hb pins s1 σ H1 Q I1 q1
  | true => exact ⟨.bl true, H1, I1, rfl, q1⟩
theorem pe_not (ha : PE X a ta) : PE X (.UnaryOp .Not a pos) (tNotV ta) := by
  intro pins s σ H Q I h
  refine UnaryOp_ (thn (ha pins s σ H _ I h) fun v s1 ⟨x, H1, I1, r1, q1⟩ => ?_)
  obtain ⟨c, rfl, q1⟩ := q1
  cases r1
  exact not_of (wpAny_truthy_bool ⟨.bl (!c), H1, I1, rfl, q1⟩)
/-- a if t else b -/
def tIf (t : TT) (ta tb : TE) : TE := fun σ H Q => t σ H fun c H1 => if c = true then ta σ H1 Q else tb σ H1 Q
theorem pe_ifExp {c : Expr} (hc : PT X c tA) (ha : PE X a ta) (hb : PE X b tb) : PE X (.IfExp c a b pos) (tIf tA ta tb) := by
  intro pins s σ H Q I h
  refine wpAny_IfExp (thn (hc pins s σ H _ I h) fun d s1 ⟨H1, I1, q1⟩ => ?_)
  cases d with
  | true => exact ha pins s1 σ H1 Q I1 q1
  | false => exact hb pins s1 σ H1 Q I1 q1
end
end L2

namespace L2
open PySem PySem.Spec PyProof.Rows

/-! ### a list, a tuple that is read: tracked, frozen, or an object of the module -/
def SqL (K : PySem.W.Frag) (H : Hp) (a : Addr) (xs : List V) : Prop :=
  Rd H a (.lst xs) ∨
    ∃ (o : Obj) (its : Array Value) (n : Nat), K.lookup a = some o ∧ o.cls = .type "list" ∧ o.dict = none ∧ o.data = .seq its n ∧ its.size ≤ sizeLine ∧ Vals xs its.toList
def SqT (K : PySem.W.Frag) (H : Hp) (a : Addr) (xs : List V) : Prop :=
  Rd H a (.tup xs) ∨
    ∃ (o : Obj) (its : Array Value) (n : Nat), K.lookup a = some o ∧ o.cls = .type "tuple" ∧ o.data = .seq its n ∧ its.size ≤ sizeLine ∧ Vals xs its.toList
def absV : Value → Option V
  | .none => some .non
  | .bool b => some (.bl b)
  | .int i _ => some (.int i)
  | .str x _ => some (.str x)
  | .bytes b _ => some (.byt b)
  | .float b _ => some (.flt b)
  | .ref a => some (.ref a)
  | .type n => some (.ty n)
  | _ => none
theorem RelV.abs {x : V} {u : Value} (r : RelV x u) : absV u = some x := by
  cases x with
  | non => cases r; rfl
  | bl _ => cases r; rfl
  | int _ => obtain ⟨t, rfl⟩ := r; rfl
  | str _ => obtain ⟨t, rfl⟩ := r; rfl
  | byt _ => obtain ⟨t, rfl⟩ := r; rfl
  | flt _ => obtain ⟨t, rfl⟩ := r; rfl
  | ref _ => cases r; rfl
  | ty _ => cases r; rfl
theorem RelV.inj {x y : V} {u : Value} (r : RelV x u) (q : RelV y u) : x = y := Option.some.inj (r.abs.symm.trans q.abs)
theorem Vals.inj : ∀ {xs ys : List V} {us : List Value}, Vals xs us → Vals ys us → xs = ys
  | _, _, _, .nil, .nil => rfl
  | _, _, _, .cons r t, .cons r' t' => by rw [r.inj r', Vals.inj t t']
section
variable {X : Cx} {pins : List (Addr × Obj)} {σ : St} {H : Hp} {s : Shared} {a : Addr} {xs ys : List V}
theorem SqL.of {K : PySem.W.Frag} (h : H a = some (.lst xs)) : SqL K H a xs := .inl (.inl h)
theorem SqT.of {K : PySem.W.Frag} (h : H a = some (.tup xs)) : SqT K H a xs := .inl (.inl h)
theorem Inv.list (I : Inv X pins σ H s) (h : SqL X.K H a xs) : ∃ its : List Value, Vals xs its ∧ PlainL s.heap a its.toArray ∧ xs.length ≤ sizeLine := by
  rcases h with h | ⟨o, its, n, hk, hc, hd, hs, hz, r⟩
  · obtain ⟨z, its, n, r, e⟩ := h.ok I.hok
    exact ⟨its, r, ⟨_, n, e, rfl, rfl, rfl⟩, z⟩
  · refine ⟨its.toList, r, ⟨o, n, I.kIn a o hk, hc, hd, by simpa using hs⟩, ?_⟩
    have e := r.length
    simp only [Array.length_toList] at e
    omega
theorem Inv.tuple (I : Inv X pins σ H s) (h : SqT X.K H a xs) : ∃ its : List Value, Vals xs its ∧ IsTup s.heap a its.toArray ∧ xs.length ≤ sizeLine := by
  rcases h with h | ⟨o, its, n, hk, hc, hs, hz, r⟩
  · obtain ⟨z, its, r, p⟩ := h.ok I.hok
    exact ⟨its, r, p, z⟩
  · refine ⟨its.toList, r, ⟨o, I.kIn a o hk, hc, n, by simpa using hs⟩, ?_⟩
    have e := r.length
    simp only [Array.length_toList] at e
    omega
theorem Inv.list_inj (I : Inv X pins σ H s) (h : SqL X.K H a xs) (h' : SqL X.K H a ys) : xs = ys := by
  obtain ⟨its, r, ⟨o, n, e, _, _, d⟩, _⟩ := I.list h
  obtain ⟨its', r', ⟨o', n', e', _, _, d'⟩, _⟩ := I.list h'
  rw [e] at e'; cases e'
  rw [d] at d'
  injection d' with d1 _
  have : its = its' := by simpa using congrArg Array.toList d1
  subst this
  exact r.inj r'
theorem Inv.tuple_inj (I : Inv X pins σ H s) (h : SqT X.K H a xs) (h' : SqT X.K H a ys) : xs = ys := by
  obtain ⟨its, r, ⟨o, e, _, n, d⟩, _⟩ := I.tuple h
  obtain ⟨its', r', ⟨o', e', _, n', d'⟩, _⟩ := I.tuple h'
  rw [e] at e'; cases e'
  rw [d] at d'
  injection d' with d1 _
  have : its = its' := by simpa using congrArg Array.toList d1
  subst this
  exact r.inj r'
end

/-! ### another wish about exceptions -/
abbrev Cx.wish (X : Cx) (E : Value → Shared → Prop) : Cx := { X with xe := E }
/-- no exception leaves -/
abbrev Cx.nox (X : Cx) : Cx := X.wish fun _ _ => False
theorem Cx.Ok.wish {X : Cx} (ok : X.Ok) (E : Value → Shared → Prop) : (X.wish E).Ok :=
  ⟨ok.mod, ok.kind, ok.glob, ok.blt, ok.above, ok.inj, ok.has, ok.cab, ok.hd, ok.frames, ok.stk, ok.exf, ok.bs, ok.bsz, ok.noex, ok.exfs, ok.funs, ok.frf⟩
theorem Cx.Ok.unwish {X : Cx} {E : Value → Shared → Prop} (ok : (X.wish E).Ok) : X.Ok :=
  ⟨ok.mod, ok.kind, ok.glob, ok.blt, ok.above, ok.inj, ok.has, ok.cab, ok.hd, ok.frames, ok.stk, ok.exf, ok.bs, ok.bsz, ok.noex, ok.exfs, ok.funs, ok.frf⟩
section
variable {X : Cx} {pins : List (Addr × Obj)} {σ : St} {H : Hp} {s : Shared} {E : Value → Shared → Prop}
theorem Inv.wish (I : Inv X pins σ H s) (E : Value → Shared → Prop) : Inv (X.wish E) pins σ H s := ⟨I.ok.wish E, I.os, I.bare, I.base, I.loc, I.cell, I.free, I.freeC, I.pin, I.hok, I.len⟩
theorem Inv.unwish (I : Inv (X.wish E) pins σ H s) : Inv X pins σ H s := ⟨I.ok.unwish, I.os, I.bare, I.base, I.loc, I.cell, I.free, I.freeC, I.pin, I.hok, I.len⟩
theorem SP.unwish {D : Ends} {f : Flow} {s' : Shared} (h : SP (X.wish E) pins D f s') : SP X pins D f s' := by
  cases f with
  | next => obtain ⟨σ', H', I, q⟩ := h; exact ⟨σ', H', I.unwish, q⟩
  | brk => obtain ⟨σ', H', I, q⟩ := h; exact ⟨σ', H', I.unwish, q⟩
  | cont => obtain ⟨σ', H', I, q⟩ := h; exact ⟨σ', H', I.unwish, q⟩
  | ret u => obtain ⟨v, σ', H', I, r, q⟩ := h; exact ⟨v, σ', H', I.unwish, r, q⟩
theorem PE.nox {e : Expr} {t : TE} (h : PE X.nox e t) : PE X e t := fun pins s σ H Q I hw =>
  wpAny_mono (h pins s σ H Q (I.wish _) hw) (fun _ _ ⟨v, H', I', r, q⟩ => ⟨v, H', I'.unwish, r, q⟩) fun _ _ z => False.elim z
theorem PT.nox {e : Expr} {t : TT} (h : PT X.nox e t) : PT X e t := fun pins s σ H Q I hw =>
  wpAny_mono (h pins s σ H Q (I.wish _) hw) (fun _ _ ⟨H', I', q⟩ => ⟨H', I'.unwish, q⟩) fun _ _ z => False.elim z
theorem PSs.nox {st : List Stmt} {t : TS} (h : PSs X.nox st t) : PSs X st t := fun pins s σ H D I hw =>
  wpAny_mono (h pins s σ H D (I.wish _) hw) (fun _ _ q => q.unwish) fun _ _ z => False.elim z
end

/-! ### blocks and small statements -/
section
variable {X : Cx} {st : Stmt} {rest : List Stmt} {t u : TS} {e : Expr} {te : TE} {pos : Pos}
def tNext : TS := fun D σ H => D.nx σ H
def tSeq (t u : TS) : TS := fun D σ H => t { D with nx := u D } σ H
theorem pss_nil : PSs X [] tNext := fun _ _ σ H _ I h => wpAny_execs_nil ⟨σ, H, I, h⟩
theorem pss_cons (h1 : PS X st t) (h2 : PSs X rest u) : PSs X (st :: rest) (tSeq t u) := by
  intro pins s σ H D I h
  refine wpAny_execs_cons (thn (h1 pins s σ H { D with nx := u D } I h) fun f s1 q => ?_)
  cases f with
  | next =>
    obtain ⟨σ', H', I', q⟩ := q
    exact h2 pins s1 σ' H' D I' q
  | ret v => exact q
  | brk => exact q
  | cont => exact q
theorem pss_one (h1 : PS X st t) : PSs X [st] t := by
  intro pins s σ H D I h
  refine wpAny_execs_cons (thn (h1 pins s σ H D I h) fun f s1 q => ?_)
  cases f with
  | next => exact wpAny_execs_nil q
  | ret v => exact q
  | brk => exact q
  | cont => exact q
def tBreak : TS := fun D σ H => D.bk σ H
def tCont : TS := fun D σ H => D.ct σ H
theorem ps_pass : PS X (.Pass pos) tNext := fun _ _ σ H _ I h => wpAny_Pass ⟨σ, H, I, h⟩
theorem ps_break : PS X (.Break pos) tBreak := fun _ _ σ H _ I h => wpAny_Break ⟨σ, H, I, h⟩
theorem ps_continue : PS X (.Continue pos) tCont := fun _ _ σ H _ I h => wpAny_Continue ⟨σ, H, I, h⟩
/-- in a def's body nothing is shown -/
theorem Inv.quiet {pins : List (Addr × Obj)} {σ : St} {H : Hp} {s : Shared} (I : Inv X pins σ H s) : interactive X.env = false := by simp [interactive, I.ok.kind]
/-- a docstring -/
theorem ps_doc {x j pos pos'} : PS X (.Expr (.Constant (.str x) j pos) pos') tNext := fun _ s σ H _ I h => wpAny_Expr (Calls.Constant_str (show SP X _ _ .next { s with toks := s.toks + 1 } from ⟨σ, H, I.tok _, h⟩)) I.quiet
/-- an expression whose value is dropped -/
def tDrop (te : TE) : TS := fun D σ H => te σ H fun _ H1 => D.nx σ H1
theorem ps_expr (he : PE X e te) (hs : swapsWith e none pos.line X.env = pure false := by rfl) : PS X (.Expr e pos) (tDrop te) := by
  intro pins s σ H D I h
  exact wpAny_Expr_any (thn (he pins s σ H _ I h) fun v s1 ⟨x, H1, I1, r1, q1⟩ => ⟨σ, H1, I1, q1⟩) I.quiet hs
def tRet (te : TE) : TS := fun D σ H => te σ H D.rt
theorem ps_ret (he : PE X e te) : PS X (.Return (some e) pos) (tRet te) := by
  intro pins s σ H D I h
  exact wpAny_Return_some (thn (he pins s σ H _ I h) fun v s1 ⟨x, H1, I1, r1, q1⟩ => ⟨x, σ, H1, I1, r1, q1⟩)
def tRetN : TS := fun D _ H => D.rt .non H
theorem ps_retN : PS X (.Return none pos) tRetN := fun _ _ σ H _ I h => wpAny_Return_none ⟨.non, σ, H, I, rfl, h⟩
def tIfS (c : TT) (t u : TS) : TS := fun D σ H => c σ H fun b H1 => if b = true then t D σ H1 else u D σ H1
theorem ps_if {c : Expr} {a b : List Stmt} {tc : TT} (hc : PT X c tc) (ha : PSs X a t) (hb : PSs X b u) : PS X (.If c a b pos) (tIfS tc t u) := by
  intro pins s σ H D I h
  refine wpAny_If (thn (hc pins s σ H _ I h) fun d s1 ⟨H1, I1, q1⟩ => ?_)
  cases d with
  | true => exact ha pins s1 σ H1 D I1 q1
  | false => exact hb pins s1 σ H1 D I1 q1
/-- code that the proof never comes to -/
def tNever : TS := fun _ _ _ => False
theorem ps_never : PS X st tNever := fun _ _ _ _ _ _ h => h.elim
theorem pss_never {sts : List Stmt} : PSs X sts tNever := fun _ _ _ _ _ _ h => h.elim
end

/-! ### targets -/
abbrev TG := V → St → Hp → (St → Hp → Prop) → Prop
abbrev TGs := List V → St → Hp → (St → Hp → Prop) → Prop
def PG (X : Cx) (target : Expr) (t : TG) : Prop :=
  ∀ (pins : List (Addr × Obj)) (s : Shared) (σ : St) (H : Hp) (v : V) (u : Value) (Q : St → Hp → Prop), Inv X pins σ H s → RelV v u → t v σ H Q →
    wpAny (model X.prog X.w) X.A (assign target X.env u) (fun _ s' => ∃ σ' H', Inv X pins σ' H' s' ∧ Q σ' H') X.xe s
/-- several targets, one after another -/
def PGs (X : Cx) (ts : List Expr) (t : TGs) : Prop :=
  ∀ (pins : List (Addr × Obj)) (s : Shared) (σ : St) (H : Hp) (vs : List V) (us : List Value) (Q : St → Hp → Prop), Inv X pins σ H s → Vals vs us → t vs σ H Q →
    wpAny (model X.prog X.w) X.A (assignInOrder ((assignEach ts X.env).map (·.2)) us) (fun _ s' => ∃ σ' H', Inv X pins σ' H' s' ∧ Q σ' H') X.xe s
/-- o[i] = v, by values -/
abbrev TSet := V → V → V → Hp → (Hp → Prop) → Prop
def PSet (X : Cx) (t : TSet) : Prop :=
  ∀ (pins : List (Addr × Obj)) (s : Shared) (σ : St) (H : Hp) (o i v : V) (ov iv u : Value) (Q : Hp → Prop), Inv X pins σ H s → RelV o ov → RelV i iv → RelV v u → t o i v H Q →
    wpAny (model X.prog X.w) X.A (setItem ov iv u) (fun _ s' => ∃ H', Inv X pins σ H' s' ∧ Q H') X.xe s
/-- a op= b, by values -/
abbrev TIp := V → V → Hp → VK → Prop
def PIp (X : Cx) (op : Operator) (t : TIp) : Prop :=
  ∀ (pins : List (Addr × Obj)) (s : Shared) (σ : St) (H : Hp) (x y : V) (v u : Value) (Q : VK), Inv X pins σ H s → RelV x v → RelV y u → t x y H Q →
    wpAny (model X.prog X.w) X.A (inplaceOp op v u) (EP X pins σ Q) X.xe s
section
variable {X : Cx} {pos : Pos}
def gName (i : Nat) : TG := fun v σ H Q => Q (σ.set i (some v)) H
theorem pg_name {i : Nat} {x : Str} (hN : X.N.Nodup) (hi : X.N[i]? = some x) (hx : Loc X.env.scope x) (hf : X.fn x = true ∨ X.env.scope.names.lookup x = some .local := by first | exact .inl rfl | exact .inr rfl | assumption) : PG X (.Name x pos) (gName i) := by
  intro pins s σ H v u Q I r h
  exact wpAny_assign_Name (store_ok I hN hi hx r (fun s' I' => ⟨_, H, I', h⟩) hf)
def gNil : TGs := fun vs σ H Q => vs = [] ∧ Q σ H
def gCons (t : TG) (u : TGs) : TGs := fun vs σ H Q => ∃ v r, vs = v :: r ∧ t v σ H fun σ' H' => u r σ' H' Q
theorem pgs_nil : PGs X [] gNil := by
  intro pins s σ H vs us Q I r h
  obtain ⟨e, h⟩ := h
  subst e
  cases r
  exact assignInOrder_nil ⟨σ, H, I, h⟩
theorem pgs_cons {e : Expr} {es : List Expr} {t : TG} {u : TGs} (h1 : PG X e t) (h2 : PGs X es u)
    (hs : (assignEach (e :: es) X.env).map (·.2) = assign e X.env :: (assignEach es X.env).map (·.2) := by rfl) : PGs X (e :: es) (gCons t u) := by
  intro pins s σ H vs us Q I r h
  obtain ⟨v, vr, e1, h⟩ := h
  subst e1
  cases r with
  | cons r rr =>
    rw [hs]
    refine assignInOrder_cons (thn (h1 pins s σ H _ _ _ I r h) fun _ s1 ⟨σ1, H1, I1, q1⟩ => ?_)
    exact h2 pins s1 σ1 H1 _ _ Q I1 rr q1
/-- (a, b, ..) = a tuple of that length -/
def gTup (K : PySem.W.Frag) (n : Nat) (t : TGs) : TG := fun v σ H Q => ∃ a xs, v = .ref a ∧ SqT K H a xs ∧ xs.length = n ∧ t xs σ H Q
theorem pg_tup {es : List Expr} {k : Nat} {t : TGs} {n : Nat} (hc : X.calm = true) (h : PGs X es t)
    (hn : (assignEach es X.env).length = n := by rfl) (hst : (assignEach es X.env).findIdx? (·.1) = none := by rfl) : PG X (.Tuple es k pos) (gTup X.K n t) := by
  intro pins s σ H v u Q I r hw
  obtain ⟨a, xs, e1, hq, hl, hw⟩ := hw
  subst e1
  cases r
  obtain ⟨its, rv, ht, hz⟩ := I.tuple hq
  refine assign_Tuple_tuple (I.ok.hd hc) ht (by simp [hn, ← hl, rv.length]) hst fun h' hx => ?_
  have I1 : Inv X pins σ H { s with heap := h' } := I.kept (t' := s.toks) fun b o e => hx b o (Nat.ne_of_lt (Heap.lt_size e)) e
  exact h pins _ σ H xs _ Q I1 (by simpa using rv) hw
/-- o[i] = .. -/
def gSub (to ti : TE) (t : TSet) : TG := fun v σ H Q => to σ H fun o H1 => ti σ H1 fun i H2 => t o i v H2 fun H3 => Q σ H3
theorem pg_sub {o i : Expr} {to ti : TE} {t : TSet} (ho : PE X o to) (hi : PE X i ti) (hs : PSet X t)
    (ha : ∀ v, assign (.Subscript o i pos) X.env v = (do
      let ov ← holding [v] (eval o X.env)
      let iv ← holding [v, ov] (eval i X.env)
      standAt pos
      holding [v, ov, iv] (setItem ov iv v)
      release [v, ov, iv] []) := by intro _; rfl) : PG X (.Subscript o i pos) (gSub to ti t) := by
  intro pins s σ H v u Q I r h
  rw [ha]
  refine wpAny_bind (wpAny_holding (thn (ho pins s σ H _ I h) fun ov s1 ⟨x, H1, I1, r1, q1⟩ => ?_))
  refine wpAny_bind (wpAny_holding (thn (hi pins s1 σ H1 _ I1 q1) fun iv s2 ⟨y, H2, I2, r2, q2⟩ => ?_))
  refine wpAny_bind (wpAny_standAt (wpAny_bind (wpAny_holding (thn (hs pins s2 σ H2 x y v ov iv u _ I2 r1 r2 r q2) fun _ s3 ⟨H3, I3, q3⟩ => ?_))))
  exact wpAny_release ⟨σ, H3, I3, q3⟩
/-- target = value -/
def tAsg (te : TE) (g : TG) : TS := fun D σ H => te σ H fun x H1 => g x σ H1 D.nx
theorem ps_asg {tg e : Expr} {te : TE} {g : TG} (he : PE X e te) (hg : PG X tg g) (hs : swapsWithSole [tg] e pos.line X.env = pure false := by rfl) (hw : swappedStores [tg] e X.env = pure none := by rfl)
    (h1 : (assignEach [tg] X.env).map (·.2) = [assign tg X.env] := by rfl) : PS X (.Assign [tg] e pos) (tAsg te g) := by
  intro pins s σ H D I h
  refine wpAny_Assign_stores (thn (he pins s σ H _ I h) fun v s1 ⟨x, H1, I1, r1, q1⟩ => ?_) hs hw
  rw [h1]
  exact thn (hg pins s1 σ H1 x v _ I1 r1 q1) fun _ s2 q => q
/-- name = value -/
theorem ps_set {i : Nat} {x : Str} {e : Expr} {te : TE} {pos' : Pos} (hN : X.N.Nodup) (hi : X.N[i]? = some x) (hx : Loc X.env.scope x) (he : PE X e te) (hs : swapsWith e (some (.Name x pos')) pos.line X.env = pure false := by rfl) (hf : X.fn x = true ∨ X.env.scope.names.lookup x = some .local := by first | exact .inl rfl | exact .inr rfl | assumption) :
    PS X (.Assign [.Name x pos'] e pos) (tAsg te (gName i)) := by
  intro pins s σ H D I h
  refine wpAny_Assign_Name (thn (he pins s σ H _ I h) fun v s1 ⟨y, H1, I1, r1, q1⟩ => ?_) hs
  exact store_ok I1 hN hi hx r1 (fun s2 I2 => ⟨_, H1, I2, q1⟩) hf
/-- a, b = x, y with plain local names: stored from the right; the pair itself is not tracked (the opening rows as in PyProof/Rows/TupAssign.lean:23) -/
def tPar (i j : Nat) (ta : TA) : TS := fun D σ H => ta σ H fun vs H1 => ∃ v w, vs = [v, w] ∧ D.nx ((σ.set i (some v)).set j (some w)) H1
theorem ps_par {i j : Nat} {x y : Str} {a b : Expr} {ta : TA} {px py pt : Pos} {kt k2 pt2} (hc : X.calm = true) (hN : X.N.Nodup) (hi : X.N[i]? = some x) (hj : X.N[j]? = some y) (hij : i ≠ j)
    (hx : X.env.scope.names.lookup x = some .local) (hy : X.env.scope.names.lookup y = some .local) (ha : PA X [a, b] ta)
    (hw : swappedStores [.Tuple [.Name x px, .Name y py] kt pt] (.Tuple [a, b] k2 pt2) X.env = pure (some [x, y]))
    (hs : swapsWithSole [.Tuple [.Name x px, .Name y py] kt pt] (.Tuple [a, b] k2 pt2) pos.line X.env = pure false := by rfl) :
    PS X (.Assign [.Tuple [.Name x px, .Name y py] kt pt] (.Tuple [a, b] k2 pt2) pos) (tPar i j ta) := by
  intro pins s σ H D I h
  rw [exec_Assign_arm]
  refine wpAny_bind (wpAny_standAt ?_)
  rw [hs]
  refine wpAny_bind (wpAny_pure ?_)
  rw [if_neg (by decide)]
  refine wpAny_bind (Tuple_ (thn (ha _ pins s σ H _ I h) fun us s1 ⟨vs, H1, I1, r1, q1⟩ => ?_))
  obtain ⟨v, w, e1, q1⟩ := q1
  subst e1
  obtain ⟨u1, u2, rfl, rv, rw'⟩ : ∃ u1 u2, us = [u1, u2] ∧ RelV v u1 ∧ RelV w u2 := by
    cases r1 with
    | cons p q =>
      cases q with
      | cons p' q' =>
        cases q'
        exact ⟨_, _, rfl, p, p'⟩
  refine wpAny_newObj_type ?_ (by show 2 ≤ sizeLine; decide)
  have I2 : Inv X pins σ H1 { s1 with heap := s1.heap.push { cls := .type "tuple", data := .seq [u1, u2].toArray } } := I1.kept (t' := s1.toks) fun b o e => Heap.get?_push_of_some _ e
  rw [hw]
  refine wpAny_bind (wpAny_pure ?_)
  show wpAny (model X.prog X.w) X.A (do rule "assign.swapped-stores"; let items ← unpackItems (.ref s1.heap.objs.size) 2 none; assignInOrder [fun v => bindName X.env y v, fun v => bindName X.env x v] items.reverse; pure Flow.next) _ _ _
  refine wpAny_bind (wpAny_rule (wpAny_bind (unpackItems_tuple (items := #[u1, u2]) (I.ok.hd hc) (IsTup.new s1.heap _) fun h' hx' => ?_)))
  have I3 := I2.kept (h' := h') (t' := s1.toks) fun b o e => hx' b o (Nat.ne_of_lt (Heap.lt_size e)) e
  show wpAny _ _ (assignInOrder [fun v => bindName X.env y v, fun v => bindName X.env x v] [u2, u1] >>= fun _ => pure Flow.next) _ _ _
  refine wpAny_bind (assignInOrder_cons (wpAny_bindName (store_ok I3 hN hj (.inl hy) rw' (fun s2 I4 => ?_) (.inr hy))))
  refine assignInOrder_cons (wpAny_bindName (store_ok I4 hN hi (.inl hx) rv (fun s3 I5 => assignInOrder_nil (wpAny_pure ?_)) (.inr hx)))
  rw [List.set_comm _ _ (Ne.symm hij)] at I5
  exact ⟨_, H1, I5, q1⟩
/-- name op= e -/
def tAug (i : Nat) (te : TE) (ti : TIp) : TS := fun D σ H => ∃ x, σ[i]? = some (some x) ∧ te σ H fun y H1 => ti x y H1 fun z H2 => D.nx (σ.set i (some z)) H2
theorem ps_aug {i : Nat} {x : Str} {e : Expr} {te : TE} {op : Operator} {ti : TIp} {pos' : Pos} (hN : X.N.Nodup) (hi : X.N[i]? = some x) (hx : Loc X.env.scope x) (he : PE X e te) (ho : PIp X op ti) (hf : X.fn x = true ∨ X.env.scope.names.lookup x = some .local := by first | exact .inl rfl | exact .inr rfl | assumption) :
    PS X (.AugAssign (.Name x pos') op e pos) (tAug i te ti) := by
  intro pins s σ H D I h
  obtain ⟨v, e1, h⟩ := h
  obtain ⟨m, hn, hl⟩ := I.loc
  have vis : Vis X.env.scope x := by rcases hx with k | k; exact .inl k; exact .inr (.inl k)
  obtain ⟨u, r, l⟩ := hl i x v hi e1 vis
  refine wpAny_AugAssign_Name ?_
  have go : wpAny (model X.prog X.w) X.A (eval e X.env) (fun w s₂ => wpAny (model X.prog X.w) X.A (inplaceOp op u w) (fun r s₃ => wpAny (model X.prog X.w) X.A (storeName X.env x r) (fun _ => SP X pins D .next) X.xe s₃) X.xe s₂) X.xe s := by
    refine thn (he pins s σ H _ I h) fun w s1 ⟨y, H1, I1, r1, q1⟩ => ?_
    refine thn (ho pins s1 σ H1 v y u w _ I1 r r1 q1) fun z s2 ⟨zv, H2, I2, r2, q2⟩ => ?_
    exact store_ok I2 hN hi hx r2 (fun s3 I3 => ⟨_, H2, I3, q2⟩) hf
  rcases l with ⟨hk, hm⟩ | ⟨hk, c, hc, hcell⟩
  · exact wpAny_loadName_local I.ok.kind hk hn hm go
  · rcases hk with hk | hk
    · exact wpAny_loadName_cell I.ok.kind hk hc hcell go
    · rcases hx with k | k
      · have : X.env.scope.names.lookup x = some .free := hk
        rw [k] at this; cases this
      · have : X.env.scope.names.lookup x = some .free := hk
        rw [k] at this; cases this
/-- o[i] op= e -/
def tAugS (to ti te : TE) (tget : V → V → Hp → VK → Prop) (tip : TIp) (tset : TSet) : TS := fun D σ H => to σ H fun o H1 => ti σ H1 fun i H2 => tget o i H2 fun x H3 => te σ H3 fun y H4 => tip x y H4 fun z H5 => tset o i z H5 fun H6 => D.nx σ H6
/-- o[i], by values -/
def PGet (X : Cx) (t : V → V → Hp → VK → Prop) : Prop :=
  ∀ (pins : List (Addr × Obj)) (s : Shared) (σ : St) (H : Hp) (o i : V) (ov iv : Value) (Q : VK), Inv X pins σ H s → RelV o ov → RelV i iv → t o i H Q →
    wpAny (model X.prog X.w) X.A (getItem ov iv) (EP X pins σ Q) X.xe s
theorem ps_augS {o i e : Expr} {to ti te : TE} {tget : V → V → Hp → VK → Prop} {tip : TIp} {tset : TSet} {op : Operator} {tpos : Pos} (ho : PE X o to) (hi : PE X i ti) (hg : PGet X tget) (he : PE X e te) (hp : PIp X op tip) (hs : PSet X tset)
    (ha : ∀ ov iv new, augStore i ov iv new = (do holding [new, ov, iv] (setItem ov iv new); release [new, ov, iv] []; pure .next) := by intros; rfl) : PS X (.AugAssign (.Subscript o i tpos) op e pos) (tAugS to ti te tget tip tset) := by
  intro pins s σ H D I h
  refine wpAny_AugAssign_SubscriptAny (thn (ho pins s σ H _ I h) fun ov s1 ⟨x1, H1, I1, r1, q1⟩ => ?_) ha
  refine thn (hi pins s1 σ H1 _ I1 q1) fun iv s2 ⟨x2, H2, I2, r2, q2⟩ => ?_
  refine thn (hg pins s2 σ H2 x1 x2 ov iv _ I2 r1 r2 q2) fun old s3 ⟨x3, H3, I3, r3, q3⟩ => ?_
  refine thn (he pins s3 σ H3 _ I3 q3) fun v s4 ⟨x4, H4, I4, r4, q4⟩ => ?_
  refine thn (hp pins s4 σ H4 x3 x4 old v _ I4 r3 r4 q4) fun new s5 ⟨x5, H5, I5, r5, q5⟩ => ?_
  exact thn (hs pins s5 σ H5 x1 x2 x5 ov iv new _ I5 r1 r2 r5 q5) fun _ s6 ⟨H6, I6, q6⟩ => ⟨σ, H6, I6, q6⟩
/-- ints -/
def ipI (f : Int → Int → Int) : TIp := fun x y H Q => ∃ i j, x = .int i ∧ y = .int j ∧ Q (.int (f i j)) H
theorem ip_add : PIp X .Add (ipI fun i j => i + j) := by
  intro pins s σ H x y v u Q I r1 r2 h
  obtain ⟨i, j, e1, e2, q⟩ := h
  subst e1; subst e2
  obtain ⟨t, rfl⟩ := r1
  obtain ⟨t', rfl⟩ := r2
  exact iadd_int ⟨.int _, H, I.tok _, ⟨_, rfl⟩, q⟩
theorem ip_sub : PIp X .Sub (ipI fun i j => i - j) := by
  intro pins s σ H x y v u Q I r1 r2 h
  obtain ⟨i, j, e1, e2, q⟩ := h
  subst e1; subst e2
  obtain ⟨t, rfl⟩ := r1
  obtain ⟨t', rfl⟩ := r2
  exact isub_int ⟨.int _, H, I.tok _, ⟨_, rfl⟩, q⟩
end

/-! ### while -/
section
variable {X : Cx} {pos : Pos}
/-- the invariant W with its measure -/
def tWhile (c : TT) (tb : TS) : TS := fun D σ H => ∃ W : Nat → St → Hp → Prop, (∃ m, W m σ H) ∧ ∀ m σ H, W m σ H →
  c σ H fun b H1 => if b = true then ∃ N : St → Hp → Prop, (∀ σ' H', N σ' H' → ∃ m', m' < m ∧ W m' σ' H') ∧ tb { D with nx := N, ct := N, bk := D.nx } σ H1 else D.nx σ H1
theorem ps_while {c : Expr} {body : List Stmt} {tc : TT} {tb : TS} (hp : PassesOwn (model X.prog X.w) X.A X.env X.xe) (hc : PT X c tc) (hb : PSs X body tb) : PS X (.While c body [] pos) (tWhile tc tb) := by
  intro pins s σ H D I h
  obtain ⟨W, ⟨m0, w0⟩, turn⟩ := h
  refine wpAny_While (codeAny_whileLoop (fun n s' => ∃ σ' H', Inv X pins σ' H' s' ∧ W n σ' H') ?_ m0 ⟨σ, H, I, w0⟩)
  rintro n s1 ⟨σ1, H1, I1, w1⟩
  refine wpAny_passesOwn hp (thn (hc pins s1 σ1 H1 _ I1 (turn n σ1 H1 w1)) fun b s2 ⟨H2, I2, q2⟩ => ?_)
  cases b with
  | true =>
    obtain ⟨N, hN, q2⟩ := q2
    rw [if_pos rfl]
    refine wpAny_passesOwn hp (thn (hb pins s2 σ1 H2 _ I2 q2) fun f s3 q3 => ?_)
    cases f with
    | next =>
      obtain ⟨σ3, H3, I3, n3⟩ := q3
      obtain ⟨m', hm, w3⟩ := hN σ3 H3 n3
      exact ⟨m', hm, σ3, H3, I3, w3⟩
    | cont =>
      obtain ⟨σ3, H3, I3, n3⟩ := q3
      obtain ⟨m', hm, w3⟩ := hN σ3 H3 n3
      exact ⟨m', hm, σ3, H3, I3, w3⟩
    | brk => exact q3
    | ret v => exact q3
  | false =>
    rw [if_neg Bool.false_ne_true]
    exact wpAny_execs_nil ⟨σ1, H2, I2, q2⟩
end

/-! ### what a loop or a comprehension walks -/
/-- at turn i: it yields x (the heap may grow), or it stops -/
structure It where
  go : Nat → Hp → Prop
  yld : Nat → Hp → V → Hp → Prop
  stop : Nat → Hp → Prop
/-- the iterator's own objects may turn: they are not the frame's, not pinned, younger than the entry (or a comprehension's own) -/
def FpOk (X : Cx) (pins : List (Addr × Obj)) (H : Hp) (b : Addr) : Prop :=
  H b = none ∧ b ≠ X.env.locals ∧ b ∉ X.fs ∧ (b ∈ X.ex ∨ X.s₀.heap.objs.size ≤ b) ∧ (∀ x c, X.env.cells.lookup x = some c → c ≠ b) ∧ ∀ p ∈ X.pn ++ pins, p.1 ≠ b
theorem Inv.fpOk {X : Cx} {pins : List (Addr × Obj)} {σ : St} {H H' : Hp} {s : Shared} {b : Addr} (I : Inv X pins σ H s) (hb : s.heap.objs.size ≤ b) (hn : H' b = none) : FpOk X pins H' b := by
  refine ⟨hn, Nat.ne_of_gt (Nat.lt_of_lt_of_le I.lt hb), I.nofs hb, .inr (Nat.le_trans I.sz hb), fun x c e z => ?_, fun p hp z => ?_⟩
  · obtain ⟨v, q⟩ := I.cell x c e
    exact absurd (Nat.lt_of_lt_of_le q.lt (by rw [z]; exact hb)) (Nat.lt_irrefl _)
  · exact absurd (Nat.lt_of_lt_of_le (Heap.lt_size (I.pin p hp).1) (by rw [z]; exact hb)) (Nat.lt_irrefl _)
structure Turn (P : Program) (w : World) (K : PySem.W.Frag) (tg : Expr) (J : It) (fp : List Addr) (it : Addr) (tn : Nat → Heap → Prop) : Prop where
  mem : it ∈ fp
  obj : ∀ i h, tn i h → ∀ b ∈ fp, ∃ o, h.get? b = some o ∧ ∀ v, o.data ≠ .cell v
  keep : ∀ i h h', tn i h → (∀ b ∈ fp, ∀ o, h.get? b = some o → h'.get? b = some o) → tn i h'
  item : ∀ (X : Cx), X.prog = P → X.w = w → X.K = K → X.calm = true → ∀ (i : Nat) (pins : List (Addr × Obj)) (s : Shared) (σ : St) (H : Hp) (E : Value → Shared → Prop), Inv X pins σ H s → (∀ b ∈ fp, FpOk X pins H b) → tn i s.heap → J.go i H →
    wpAny (model P w) X.A (pyNext (.ref it)) (fun r s1 => ∃ u, r = some u ∧
      wpAny (model P w) X.A (letOwnedTupleGo tg (.ref it) u) (fun _ s2 => ∃ x H', Inv X pins σ H' s2 ∧ RelV x u ∧ J.yld i H x H' ∧ tn (i + 1) s2.heap ∧ ∀ b ∈ fp, H' b = none) E s1) E s
  done : ∀ (X : Cx), X.prog = P → X.w = w → X.K = K → X.calm = true → ∀ (i : Nat) (pins : List (Addr × Obj)) (s : Shared) (σ : St) (H : Hp) (E : Value → Shared → Prop), Inv X pins σ H s → (∀ b ∈ fp, FpOk X pins H b) → tn i s.heap → J.stop i H →
    wpAny (model P w) X.A (pyNext (.ref it)) (fun r s1 => r = none ∧ Inv X pins σ H s1) E s
  self : ∀ (A : Around) (i : Nat) (s : Shared) (Q : Value → Shared → Prop) (E : Value → Shared → Prop), tn i s.heap → Q (.ref it) s → wpAny (model P w) A (pyIter (.ref it)) Q E s
abbrev TI := St → Hp → (It → Hp → Prop) → Prop
/-- an iterator has come -/
def PIE (X : Cx) (pins : List (Addr × Obj)) (σ : St) (tg : Expr) (R : It → Hp → Prop) (itv : Value) (s2 : Shared) : Prop :=
  ∃ (it : Addr) (fp : List Addr) (tn : Nat → Heap → Prop) (J : It) (H' : Hp), itv = .ref it ∧ Inv X pins σ H' s2 ∧ Turn X.prog X.w X.K tg J fp it tn ∧ tn 0 s2.heap ∧ (∀ b ∈ fp, FpOk X pins H' b) ∧ R J H'
def PI (X : Cx) (tg iter : Expr) (wi : TI) : Prop :=
  ∀ (pins : List (Addr × Obj)) (s : Shared) (σ : St) (H : Hp) (R : It → Hp → Prop), Inv X pins σ H s → wi σ H R →
    wpAny (model X.prog X.w) X.A (eval iter X.env) (fun v s1 => wpAny (model X.prog X.w) X.A (pyIter v) (PIE X pins σ tg R) X.xe s1) X.xe s

/-- the step ahead of the store is nothing for an iterator that keeps no tuple -/
theorem go_of {M : Model} {A : Around} {E : Value → Shared → Prop} {s : Shared} {tg : Expr} {it : Addr} {u : Value} {o : Obj} {n : String} {vs : Array Value} {Q : Unit → Shared → Prop} (ho : s.heap.get? it = some o) (hc : o.cls = .type n) (hd : o.data = .fields vs)
    (hn : ["enumerate", "zip", "dict_itemiterator", "dict_reverseitemiterator", "odict_iterator", "itertools.zip_longest", "itertools.pairwise"].contains n = false) (hQ : Q () s) : wpAny M A (letOwnedTupleGo tg (.ref it) u) Q E s := by
  unfold letOwnedTupleGo
  cases tg <;> first
    | exact wpAny_pure hQ
    | (cases u <;> first
        | exact wpAny_pure hQ
        | (refine wpAny_bind (wpAny_load ho ?_)
           rw [hc, hd]
           show wpAny M A (if (["enumerate", "zip", "dict_itemiterator", "dict_reverseitemiterator", "odict_iterator", "itertools.zip_longest", "itertools.pairwise"].contains n && vs[0]? == some (rawInt _)) = true then _ else _) Q E s
           rw [if_neg (by intro h; rw [hn, Bool.false_and] at h; cases h)]
           exact wpAny_pure hQ))

/-- the list at a, as it stands at each turn (a loop may append to it) -/
def Itl (K : PySem.W.Frag) (a : Addr) : It :=
  ⟨fun i H => ∃ xs x, SqL K H a xs ∧ xs[i]? = some x, fun i H x H' => H' = H ∧ ∀ xs, SqL K H a xs → xs[i]? = some x, fun i H => ∃ xs, SqL K H a xs ∧ xs.length ≤ i⟩
def Itt (K : PySem.W.Frag) (a : Addr) : It :=
  ⟨fun i H => ∃ xs x, SqT K H a xs ∧ xs[i]? = some x, fun i H x H' => H' = H ∧ ∀ xs, SqT K H a xs → xs[i]? = some x, fun i H => ∃ xs, SqT K H a xs ∧ xs.length ≤ i⟩
/-- lo, lo + 1, .. (n of them) -/
def Itr (lo : Int) (n : Nat) : It := ⟨fun i _ => i < n, fun i H x H' => H' = H ∧ x = .int (lo + i), fun i _ => n ≤ i⟩
theorem turn_list {P : Program} {w : World} {K : PySem.W.Frag} {tg : Expr} (a it : Addr) : Turn P w K tg (Itl K a) [it] it (fun i h => h.IsListIter it a i) where
  mem := by simp
  obj := fun i h st b hb => by
    have e : b = it := by simpa using hb
    subst e
    obtain ⟨o, e, c, d⟩ := st
    exact ⟨o, e, fun v z => by rw [d] at z; cases z⟩
  keep := fun i h h' st k => st.at fun o e => k it (by simp) o e
  item := by
    intro X hP hw hK hc i pins s σ H E I hf st hg
    subst hP hw hK
    obtain ⟨xs, x, hq, hx⟩ := hg
    obtain ⟨its, rv, p, hz⟩ := I.list hq
    obtain ⟨u, hu, ru⟩ := rv.get hx
    obtain ⟨f0, f1, f2, f3, f4, f5⟩ := hf it (by simp)
    refine wpAny_pyNext_list_item st p.isList (x := u) (by simpa using hu) fun h' st' sb => ?_
    have I1 : Inv X pins σ H { s with heap := h' } := I.turned (t' := s.toks) (fun b o hb e => (sb.2 b hb).trans e) f0 f1 f3 f4 f5
    obtain ⟨o, e, c, d⟩ := id st'
    exact ⟨u, rfl, go_of (s := { s with heap := h' }) e c d (by decide) ⟨x, H, I1, ru, ⟨rfl, fun ys hy => by rw [I.list_inj hy hq]; exact hx⟩, st', fun b hb => (hf b hb).1⟩⟩
  done := by
    intro X hP hw hK hc i pins s σ H E I hf st hg
    subst hP hw hK
    obtain ⟨xs, hq, hx⟩ := hg
    obtain ⟨its, rv, p, hz⟩ := I.list hq
    obtain ⟨f0, f1, f2, f3, f4, f5⟩ := hf it (by simp)
    have hl := rv.length
    exact wpAny_pyNext_list_end (I.ok.hd hc) st p.isList (by simp; omega) fun h' eb => ⟨rfl, I.turned (t' := s.toks) (fun b o hb e => eb b o hb e) f0 f1 f3 f4 f5⟩
  self := fun _ _ _ _ _ st h => wpAny_pyIter_listiter st h
theorem turn_tuple {P : Program} {w : World} {K : PySem.W.Frag} {tg : Expr} (a it : Addr) : Turn P w K tg (Itt K a) [it] it (fun i h => h.IsTupleIter it a i) where
  mem := by simp
  obj := fun i h st b hb => by
    have e : b = it := by simpa using hb
    subst e
    obtain ⟨o, e, c, d⟩ := st
    exact ⟨o, e, fun v z => by rw [d] at z; cases z⟩
  keep := fun i h h' st k => st.at fun o e => k it (by simp) o e
  item := by
    intro X hP hw hK hc i pins s σ H E I hf st hg
    subst hP hw hK
    obtain ⟨xs, x, hq, hx⟩ := hg
    obtain ⟨its, rv, p, hz⟩ := I.tuple hq
    obtain ⟨u, hu, ru⟩ := rv.get hx
    obtain ⟨f0, f1, f2, f3, f4, f5⟩ := hf it (by simp)
    refine wpAny_pyNext_tuple_item st (show s.heap.IsTuple a its.toArray from p) (x := u) (by simpa using hu) fun h' st' sb => ?_
    have I1 : Inv X pins σ H { s with heap := h' } := I.turned (t' := s.toks) (fun b o hb e => (sb.2 b hb).trans e) f0 f1 f3 f4 f5
    obtain ⟨o, e, c, d⟩ := id st'
    exact ⟨u, rfl, go_of (s := { s with heap := h' }) e c d (by decide) ⟨x, H, I1, ru, ⟨rfl, fun ys hy => by rw [I.tuple_inj hy hq]; exact hx⟩, st', fun b hb => (hf b hb).1⟩⟩
  done := by
    intro X hP hw hK hc i pins s σ H E I hf st hg
    subst hP hw hK
    obtain ⟨xs, hq, hx⟩ := hg
    obtain ⟨its, rv, p, hz⟩ := I.tuple hq
    obtain ⟨f0, f1, f2, f3, f4, f5⟩ := hf it (by simp)
    have hl := rv.length
    exact wpAny_pyNext_tuple_end (I.ok.hd hc) st (show s.heap.IsTuple a its.toArray from p) (by simp; omega) fun h' eb => ⟨rfl, I.turned (t' := s.toks) (fun b o hb e => eb b o hb e) f0 f1 f3 f4 f5⟩
  self := fun _ _ _ _ _ st h => wpAny_pyIter_tupleiter st h
theorem turn_range {P : Program} {w : World} {K : PySem.W.Frag} {tg : Expr} (it : Addr) (lo : Int) (n : Nat) : Turn P w K tg (Itr lo n) [it] it (fun i h => IsRangeIter h it (lo + (i : Nat) * 1) ((n : Int) - (i : Nat)) 1) where
  mem := by simp
  obj := fun i h st b hb => by
    have e : b = it := by simpa using hb
    subst e
    exact ⟨_, st, fun v z => by
      have z' : Data.fields _ = Data.cell v := z
      cases z'⟩
  keep := fun i h h' st k => k it (by simp) _ st
  item := by
    intro X hP hw hK hc i pins s σ H E I hf st hg
    subst hP hw hK
    obtain ⟨f0, f1, f2, f3, f4, f5⟩ := hf it (by simp)
    have W := Walks.range (prog := X.prog) (w := X.w) (I.ok.hd hc) it lo 1 n
    refine W.item i s _ _ hg st fun v h' tk hv st' kk => ?_
    obtain ⟨t, rfl⟩ := hv
    have I1 : Inv X pins σ H { s with heap := h', toks := tk } := I.turned (fun b o hb e => kk b o (by simpa using hb) e) f0 f1 f3 f4 f5
    refine ⟨_, rfl, go_of (s := { s with heap := h', toks := tk }) (n := "range_iterator") st' rfl rfl (by decide) ⟨.int (lo + i), H, I1, ⟨t, ?_⟩, ⟨rfl, rfl⟩, st', fun b hb => (hf b hb).1⟩⟩
    rw [Int.mul_one]
  done := by
    intro X hP hw hK hc i pins s σ H E I hf st hg
    subst hP hw hK
    obtain ⟨f0, f1, f2, f3, f4, f5⟩ := hf it (by simp)
    exact wpAny_pyNext_range_end (I.ok.hd hc) st (by have : n ≤ i := hg; omega) fun h' eb => ⟨rfl, I.turned (t' := s.toks) (fun b o hb e => eb b o hb e) f0 f1 f3 f4 f5⟩
  self := fun _ _ _ _ _ st h => wpAny_pyIter_rangeiter st h
end L2

namespace L2
open PySem PySem.Spec PyProof.Rows
section
variable {X : Cx} {tg : Expr}
def iList (K : PySem.W.Frag) (tl : TE) : TI := fun σ H R => tl σ H fun x H1 => ∃ a, x = .ref a ∧ (∃ xs, SqL K H1 a xs) ∧ R (Itl K a) H1
def iTup (K : PySem.W.Frag) (tl : TE) : TI := fun σ H R => tl σ H fun x H1 => ∃ a, x = .ref a ∧ (∃ xs, SqT K H1 a xs) ∧ R (Itt K a) H1
theorem pi_list {l : Expr} {tl : TE} (hl : PE X l tl) : PI X tg l (iList X.K tl) := by
  intro pins s σ H R I h
  refine thn (hl pins s σ H _ I h) fun v s1 ⟨x, H1, I1, r1, q1⟩ => ?_
  obtain ⟨a, e, ⟨xs, hq⟩, q⟩ := q1
  subst e
  cases r1
  obtain ⟨its, rv, p, hz⟩ := I1.list hq
  refine wpAny_pyIter_list p.isList ?_
  refine ⟨s1.heap.objs.size, [s1.heap.objs.size], _, _, H1, rfl, I1.kept (t' := s1.toks) fun b o e => Heap.get?_push_of_some _ e, turn_list a _, ⟨_, Heap.get?_push_size _ rfl, rfl, rfl⟩, fun b hb => ?_, q⟩
  have e : b = s1.heap.objs.size := by simpa using hb
  subst e
  exact I1.fpOk (Nat.le_refl _) (I1.hok.fresh (Nat.le_refl _))
theorem pi_tup {l : Expr} {tl : TE} (hl : PE X l tl) : PI X tg l (iTup X.K tl) := by
  intro pins s σ H R I h
  refine thn (hl pins s σ H _ I h) fun v s1 ⟨x, H1, I1, r1, q1⟩ => ?_
  obtain ⟨a, e, ⟨xs, hq⟩, q⟩ := q1
  subst e
  cases r1
  obtain ⟨its, rv, p, hz⟩ := I1.tuple hq
  refine wpAny_pyIter_tuple (show s1.heap.IsTuple a its.toArray from p) ?_
  refine ⟨s1.heap.objs.size, [s1.heap.objs.size], _, _, H1, rfl, I1.kept (t' := s1.toks) fun b o e => Heap.get?_push_of_some _ e, turn_tuple a _, ⟨_, Heap.get?_push_size _ rfl, rfl, rfl⟩, fun b hb => ?_, q⟩
  have e : b = s1.heap.objs.size := by simpa using hb
  subst e
  exact I1.fpOk (Nat.le_refl _) (I1.hok.fresh (Nat.le_refl _))
/-- a range object just made, walked -/
theorem range_it {pins : List (Addr × Obj)} {σ : St} {H : Hp} {s : Shared} {R : It → Hp → Prop} {E : Value → Shared → Prop} {lo hi : Int} {t u v : Tok} {tk : Nat} (I : Inv X pins σ H s) (h1 : -(2 ^ 62) ≤ lo) (h2 : lo < 2 ^ 62) (h3 : -(2 ^ 62) ≤ hi) (h4 : hi < 2 ^ 62)
    (q : R (Itr lo (hi - lo).toNat) H) : wpAny (model X.prog X.w) X.A (pyIter (.ref s.heap.objs.size)) (PIE X pins σ tg R) E { s with heap := s.heap.push { cls := .type "range", data := .fields #[.int lo t, .int hi u, .int 1 v] }, toks := tk } := by
  refine wpAny_pyIter_range (IsRange.new ..) (small_one h1 h2 h3 h4) ?_
  have I1 : Inv X pins σ H { s with heap := s.heap.push { cls := .type "range", data := .fields #[.int lo t, .int hi u, .int 1 v] }, toks := tk } := I.kept fun b o e => Heap.get?_push_of_some _ e
  refine ⟨(s.heap.push { cls := .type "range", data := .fields #[.int lo t, .int hi u, .int 1 v] }).objs.size, [(s.heap.push { cls := .type "range", data := .fields #[.int lo t, .int hi u, .int 1 v] }).objs.size], _, _, H, rfl,
    I1.kept (t' := tk) fun b o e => Heap.get?_push_of_some _ e, turn_range _ lo (hi - lo).toNat, ?_, fun b hb => ?_, q⟩
  · have e1 : lo + ((0 : Nat) : Int) * 1 = lo := by simp
    have e2 : (((hi - lo).toNat : Nat) : Int) - ((0 : Nat) : Int) = Builtin.Range.rangeSize lo hi 1 := by rw [rangeSize_one]; split <;> omega
    show IsRangeIter _ _ (lo + ((0 : Nat) : Int) * 1) ((((hi - lo).toNat : Nat) : Int) - ((0 : Nat) : Int)) 1
    rw [e1, e2]
    exact Heap.get?_push_size _ rfl
  · have e : b = (s.heap.push { cls := .type "range", data := .fields #[.int lo t, .int hi u, .int 1 v] }).objs.size := by simpa using hb
    subst e
    exact I1.fpOk (Nat.le_refl _) (I1.hok.fresh (Nat.le_refl _))
def iRng1 (ta : TA) : TI := fun σ H R => ta σ H fun vs H1 => ∃ j : Int, vs = [.int j] ∧ -(2 ^ 62) ≤ j ∧ j < 2 ^ 62 ∧ R (Itr 0 j.toNat) H1
def iRng2 (ta : TA) : TI := fun σ H R => ta σ H fun vs H1 => ∃ i j : Int, vs = [.int i, .int j] ∧ (-(2 ^ 62) ≤ i ∧ i < 2 ^ 62 ∧ -(2 ^ 62) ≤ j ∧ j < 2 ^ 62) ∧ R (Itr i (j - i).toNat) H1
theorem pi_range1 {a : Expr} {ta : TA} {p pos : Pos} (hg : Gl X "range") (hm : X.mg "range" = none) (ha : PA X [a] ta) (hs : starEach [a] X.env = [(false, eval a X.env)] := by rfl) : PI X tg (.Call (.Name "range" p) [a] [] pos) (iRng1 ta) := by
  intro pins s σ H R I h
  refine Call_ (ld_blt I hg hm boot_range (PyProof.Rows.callWith_type1 (thn (ha pos pins s σ H _ I h) fun us s1 ⟨vs, H1, I1, r1, q1⟩ => ?_) hs rfl))
  obtain ⟨j, e, q1, q2, q⟩ := q1
  subst e
  cases r1 with
  | cons r rr =>
    cases rr
    obtain ⟨t, rfl⟩ := r
    exact call_range_1 (range_it I1 (by omega) (by omega) q1 q2 (by simpa using q))
theorem pi_range2 {a b : Expr} {ta : TA} {p pos : Pos} (hg : Gl X "range") (hm : X.mg "range" = none) (ha : PA X [a, b] ta) (hs : starEach [a, b] X.env = [(false, eval a X.env), (false, eval b X.env)] := by rfl) (hs2 : starEach [b] X.env = [(false, eval b X.env)] := by rfl) :
    PI X tg (.Call (.Name "range" p) [a, b] [] pos) (iRng2 ta) := by
  intro pins s σ H R I h
  refine Call_ (ld_blt I hg hm boot_range (PyProof.Rows.callWith_type1 (thn (ha pos pins s σ H _ I h) fun us s1 ⟨vs, H1, I1, r1, q1⟩ => ?_) (by rw [hs, hs2]) (by rw [hs2]; rfl)))
  obtain ⟨i, j, e, ⟨q1, q2, q3, q4⟩, q⟩ := q1
  subst e
  cases r1 with
  | cons r rr =>
    cases rr with
    | cons r' rr =>
      cases rr
      obtain ⟨t, rfl⟩ := r
      obtain ⟨t', rfl⟩ := r'
      exact call_range_2 (range_it I1 q1 q2 q3 q4 q)

/-! ### for -/
/-- W: the invariant by the turn and a measure; N: what the body is to reach -/
def tFor (wi : TI) (g : TG) (tb : TS) : TS := fun D σ H => wi σ H fun J H1 => ∃ W : Nat → Nat → St → Hp → Prop, (∃ m, W 0 m σ H1) ∧ ∀ i m σ H, W i m σ H →
  (J.stop i H ∧ D.nx σ H) ∨ (J.go i H ∧ ∃ N : St → Hp → Prop, (∀ σ' H', N σ' H' → ∃ m', m' < m ∧ W (i + 1) m' σ' H') ∧ ∀ x H', J.yld i H x H' → g x σ H' fun σ2 H2 => tb { D with nx := N, ct := N, bk := D.nx } σ2 H2)
/-- the records at fp as they stand -/
def pinsAt (fp : List Addr) (h : Heap) : List (Addr × Obj) := fp.filterMap fun b => (h.get? b).map fun o => (b, o)
theorem mem_pinsAt {fp : List Addr} {h : Heap} {b : Addr} {o : Obj} (hb : b ∈ fp) (e : h.get? b = some o) : (b, o) ∈ pinsAt fp h := List.mem_filterMap.mpr ⟨b, hb, by rw [e]; rfl⟩
theorem of_pinsAt {fp : List Addr} {h : Heap} {p : Addr × Obj} (hp : p ∈ pinsAt fp h) : p.1 ∈ fp ∧ h.get? p.1 = some p.2 := by
  obtain ⟨b, hb, e⟩ := List.mem_filterMap.mp hp
  cases q : h.get? b with
  | none => rw [q] at e; cases e
  | some o =>
    rw [q] at e
    have e' : (b, o) = p := Option.some.inj e
    subst e'
    exact ⟨hb, q⟩
theorem Inv.pinned {pins : List (Addr × Obj)} {σ : St} {H : Hp} {s : Shared} {fp : List Addr} (I : Inv X pins σ H s) (hf : ∀ b ∈ fp, FpOk X pins H b) (ho : ∀ b ∈ fp, ∃ o, s.heap.get? b = some o ∧ ∀ v, o.data ≠ .cell v) : Inv X (pins ++ pinsAt fp s.heap) σ H s :=
  I.pins_of fun p hp => (List.mem_append.mp hp).elim (fun z => I.pin p (List.mem_append_right _ z)) fun z => by
    obtain ⟨hb, e⟩ := of_pinsAt z
    obtain ⟨f0, f1, f2, _⟩ := hf p.1 hb
    obtain ⟨o, e', d⟩ := ho p.1 hb
    rw [e] at e'; cases e'
    exact ⟨e, f0, f1, f2, d⟩
theorem Inv.unpinned {pins pl : List (Addr × Obj)} {σ : St} {H : Hp} {s : Shared} (I : Inv X (pins ++ pl) σ H s) : Inv X pins σ H s := I.pins_of fun p hp => I.pin p (List.mem_append_right _ (List.mem_append_left _ hp))
theorem ps_for {iter : Expr} {body : List Stmt} {wi : TI} {g : TG} {tb : TS} {pos : Pos} (hp : PassesOwn (model X.prog X.w) X.A X.env X.xe) (hc : X.calm = true) (hi : PI X tg iter wi) (hg : PG X tg g) (hb : PSs X body tb)
    (hs : ∀ x, foldedSetIterable iter X.env x = pure x := by intro _; rfl) : PS X (.For tg iter body [] pos) (tFor wi g tb) := by
  intro pins s σ H D I h
  refine wpAny_For (thn (hi pins s σ H _ I h) fun v s1 h1 => thn h1 fun itv s2 h2 => ?_) hs
  obtain ⟨it, fp, tn, J, H2, e, I2, T, st2, f2, W, ⟨m0, w0⟩, turn⟩ := h2
  subst e
  -- what stays true of the iterator's objects through the loop
  have stat : ∀ {H' : Hp}, (∀ b ∈ fp, H' b = none) → ∀ b ∈ fp, FpOk X pins H' b := fun hn b hb => ⟨hn b hb, (f2 b hb).2⟩
  refine codeAny_forLoop_any (fun n s' => ∃ i σ' H', Inv X pins σ' H' s' ∧ tn i s'.heap ∧ (∀ b ∈ fp, H' b = none) ∧ W i n σ' H') ?_ m0 ⟨0, σ, H2, I2, st2, fun b hb => (f2 b hb).1, w0⟩
  rintro n s3 ⟨i, σ3, H3, I3, st3, fr3, w3⟩
  rcases turn i n σ3 H3 w3 with ⟨stop, qn⟩ | ⟨go, N, hN, step⟩
  · refine wpAny_passesOwn hp (thn (T.done X rfl rfl rfl hc i pins s3 σ3 H3 X.xe I3 (stat fr3) st3 stop) fun r s4 ⟨hr, I4⟩ => ?_)
    subst hr
    exact wpAny_execs_nil ⟨σ3, H3, I4, qn⟩
  · refine wpAny_passesOwn hp (thn (T.item X rfl rfl rfl hc i pins s3 σ3 H3 X.xe I3 (stat fr3) st3 go) fun r s4 ⟨u, hr, h4⟩ => ?_)
    subst hr
    refine wpAny_passesOwn hp (thn h4 fun _ s5 ⟨x, H5, I5, r5, y5, st5, fr5⟩ => ?_)
    have I5' := I5.pinned (stat fr5) (T.obj _ _ st5)
    refine wpAny_passesOwn hp (thn (hg _ s5 σ3 H5 x u _ I5' r5 (step x H5 y5)) fun _ s6 ⟨σ6, H6, I6, q6⟩ => ?_)
    refine wpAny_passesOwn hp (thn (hb _ s6 σ6 H6 _ I6 q6) fun f s7 q7 => ?_)
    have again : ∀ {σ7 : St} {H7 : Hp}, Inv X (pins ++ pinsAt fp s5.heap) σ7 H7 s7 → N σ7 H7 → ∃ m, m < n ∧ ∃ i σ' H', Inv X pins σ' H' s7 ∧ tn i s7.heap ∧ (∀ b ∈ fp, H' b = none) ∧ W i m σ' H' := fun {σ7 H7} I7 n7 => by
      obtain ⟨m', hm, w7⟩ := hN σ7 H7 n7
      refine ⟨m', hm, i + 1, σ7, H7, I7.unpinned, T.keep _ _ _ st5 fun b hb o e => (I7.pin (b, o) (List.mem_append_right _ (List.mem_append_right _ (mem_pinsAt hb e)))).1, fun b hb => ?_, w7⟩
      obtain ⟨o, e, d⟩ := T.obj _ _ st5 b hb
      exact (I7.pin (b, o) (List.mem_append_right _ (List.mem_append_right _ (mem_pinsAt hb e)))).2.1
    cases f with
    | next => obtain ⟨σ7, H7, I7, n7⟩ := q7; exact again I7 n7
    | cont => obtain ⟨σ7, H7, I7, n7⟩ := q7; exact again I7 n7
    | brk => obtain ⟨σ7, H7, I7, q7⟩ := q7; exact ⟨σ7, H7, I7.unpinned, q7⟩
    | ret v => obtain ⟨x7, σ7, H7, I7, r7, q7⟩ := q7; exact ⟨x7, σ7, H7, I7.unpinned, r7, q7⟩
end

/-! ### the forms one uses -/
/-- over a list that the body leaves as it is -/
theorem for_list {K : PySem.W.Frag} {a : Addr} {xs : List V} {g : TG} {tb : TS} {D : Ends} {σ : St} {H : Hp} (Pv : Nat → St → Hp → Prop) (h0 : Pv 0 σ H) (hl : ∀ i σ H, i ≤ xs.length → Pv i σ H → SqL K H a xs)
    (hs : ∀ i x σ H, xs[i]? = some x → Pv i σ H → g x σ H fun σ2 H2 => tb { D with nx := Pv (i + 1), ct := Pv (i + 1), bk := D.nx } σ2 H2) (hd : ∀ σ H, Pv xs.length σ H → D.nx σ H) :
    ∃ W : Nat → Nat → St → Hp → Prop, (∃ m, W 0 m σ H) ∧ ∀ i m σ H, W i m σ H →
      ((Itl K a).stop i H ∧ D.nx σ H) ∨ ((Itl K a).go i H ∧ ∃ N : St → Hp → Prop, (∀ σ' H', N σ' H' → ∃ m', m' < m ∧ W (i + 1) m' σ' H') ∧ ∀ x H', (Itl K a).yld i H x H' → g x σ H' fun σ2 H2 => tb { D with nx := N, ct := N, bk := D.nx } σ2 H2) := by
  refine ⟨fun i m σ H => m = xs.length - i ∧ i ≤ xs.length ∧ Pv i σ H, ⟨xs.length, by simp, Nat.zero_le _, h0⟩, ?_⟩
  rintro i m σ H ⟨rfl, hi, p⟩
  have q := hl i σ H hi p
  by_cases hlt : i < xs.length
  · refine .inr ⟨⟨xs, xs[i], q, by simp [hlt]⟩, Pv (i + 1), fun σ' H' p' => ⟨xs.length - (i + 1), by omega, rfl, hlt, p'⟩, fun x H' y => ?_⟩
    obtain ⟨e, y⟩ := y
    subst e
    exact hs i x σ _ (y xs q) p
  · have e : i = xs.length := by omega
    subst e
    exact .inl ⟨⟨xs, q, Nat.le_refl _⟩, hd σ H p⟩
theorem for_tup {K : PySem.W.Frag} {a : Addr} {xs : List V} {g : TG} {tb : TS} {D : Ends} {σ : St} {H : Hp} (Pv : Nat → St → Hp → Prop) (h0 : Pv 0 σ H) (hl : ∀ i σ H, i ≤ xs.length → Pv i σ H → SqT K H a xs)
    (hs : ∀ i x σ H, xs[i]? = some x → Pv i σ H → g x σ H fun σ2 H2 => tb { D with nx := Pv (i + 1), ct := Pv (i + 1), bk := D.nx } σ2 H2) (hd : ∀ σ H, Pv xs.length σ H → D.nx σ H) :
    ∃ W : Nat → Nat → St → Hp → Prop, (∃ m, W 0 m σ H) ∧ ∀ i m σ H, W i m σ H →
      ((Itt K a).stop i H ∧ D.nx σ H) ∨ ((Itt K a).go i H ∧ ∃ N : St → Hp → Prop, (∀ σ' H', N σ' H' → ∃ m', m' < m ∧ W (i + 1) m' σ' H') ∧ ∀ x H', (Itt K a).yld i H x H' → g x σ H' fun σ2 H2 => tb { D with nx := N, ct := N, bk := D.nx } σ2 H2) := by
  refine ⟨fun i m σ H => m = xs.length - i ∧ i ≤ xs.length ∧ Pv i σ H, ⟨xs.length, by simp, Nat.zero_le _, h0⟩, ?_⟩
  rintro i m σ H ⟨rfl, hi, p⟩
  have q := hl i σ H hi p
  by_cases hlt : i < xs.length
  · refine .inr ⟨⟨xs, xs[i], q, by simp [hlt]⟩, Pv (i + 1), fun σ' H' p' => ⟨xs.length - (i + 1), by omega, rfl, hlt, p'⟩, fun x H' y => ?_⟩
    obtain ⟨e, y⟩ := y
    subst e
    exact hs i x σ _ (y xs q) p
  · have e : i = xs.length := by omega
    subst e
    exact .inl ⟨⟨xs, q, Nat.le_refl _⟩, hd σ H p⟩
theorem for_range {lo : Int} {n : Nat} {g : TG} {tb : TS} {D : Ends} {σ : St} {H : Hp} (Pv : Nat → St → Hp → Prop) (h0 : Pv 0 σ H)
    (hs : ∀ i σ H, i < n → Pv i σ H → g (.int (lo + i)) σ H fun σ2 H2 => tb { D with nx := Pv (i + 1), ct := Pv (i + 1), bk := D.nx } σ2 H2) (hd : ∀ σ H, Pv n σ H → D.nx σ H) :
    ∃ W : Nat → Nat → St → Hp → Prop, (∃ m, W 0 m σ H) ∧ ∀ i m σ H, W i m σ H →
      ((Itr lo n).stop i H ∧ D.nx σ H) ∨ ((Itr lo n).go i H ∧ ∃ N : St → Hp → Prop, (∀ σ' H', N σ' H' → ∃ m', m' < m ∧ W (i + 1) m' σ' H') ∧ ∀ x H', (Itr lo n).yld i H x H' → g x σ H' fun σ2 H2 => tb { D with nx := N, ct := N, bk := D.nx } σ2 H2) := by
  refine ⟨fun i m σ H => m = n - i ∧ i ≤ n ∧ Pv i σ H, ⟨n, by simp, Nat.zero_le _, h0⟩, ?_⟩
  rintro i m σ H ⟨rfl, hi, p⟩
  by_cases hlt : i < n
  · refine .inr ⟨hlt, Pv (i + 1), fun σ' H' p' => ⟨n - (i + 1), by omega, rfl, hlt, p'⟩, fun x H' y => ?_⟩
    obtain ⟨e, y⟩ := y
    subst e y
    exact hs i σ _ hlt p
  · have e : i = n := by omega
    subst e
    exact .inl ⟨Nat.le_refl _, hd σ H p⟩
/-- while, by a word and a measure of the state -/
theorem while_by {c : TT} {tb : TS} {D : Ends} {σ : St} {H : Hp} (Pv : St → Hp → Prop) (μ : St → Hp → Nat) (h0 : Pv σ H)
    (hs : ∀ σ H, Pv σ H → c σ H fun b H1 => if b = true then tb { D with nx := fun σ' H' => Pv σ' H' ∧ μ σ' H' < μ σ H, ct := fun σ' H' => Pv σ' H' ∧ μ σ' H' < μ σ H, bk := D.nx } σ H1 else D.nx σ H1)
    (mono : ∀ σ H Q Q', (∀ b H1, Q b H1 → Q' b H1) → c σ H Q → c σ H Q') : tWhile c tb D σ H := by
  refine ⟨fun m σ H => m = μ σ H ∧ Pv σ H, ⟨_, rfl, h0⟩, ?_⟩
  rintro m σ H ⟨rfl, p⟩
  refine mono σ H _ _ (fun b H1 q => ?_) (hs σ H p)
  cases b with
  | true => exact ⟨_, fun σ' H' ⟨p', l⟩ => ⟨_, l, rfl, p'⟩, q⟩
  | false => exact q
end L2

namespace L2
open PySem PySem.Spec PyProof.Rows

abbrev R2 := V → V → Hp → VK → Prop
/-- a two-place operation on values: f is binaryOp op, inplaceOp op or compareOp op -/
def OpR (X : Cx) (f : Value → Value → Sem Value) (r : R2) : Prop :=
  ∀ (pins : List (Addr × Obj)) (s : Shared) (σ : St) (H : Hp) (x y : V) (v u : Value) (Q : VK), Inv X pins σ H s → RelV x v → RelV y u → r x y H Q →
    wpAny (model X.prog X.w) X.A (f v u) (EP X pins σ Q) X.xe s
/-- a one-place operation -/
def UnR (X : Cx) (f : Value → Sem Value) (r : V → Hp → VK → Prop) : Prop :=
  ∀ (pins : List (Addr × Obj)) (s : Shared) (σ : St) (H : Hp) (x : V) (v : Value) (Q : VK), Inv X pins σ H s → RelV x v → r x H Q →
    wpAny (model X.prog X.w) X.A (f v) (EP X pins σ Q) X.xe s
/-- a call of a value that is known (a builtin, a type) with values -/
def CallR (X : Cx) (f : Value) (r : List V → Hp → VK → Prop) : Prop :=
  ∀ (pins : List (Addr × Obj)) (s : Shared) (σ : St) (H : Hp) (xs : List V) (us : List Value) (Q : VK), Inv X pins σ H s → Vals xs us → r xs H Q →
    wpAny (model X.prog X.w) X.A (call f us) (EP X pins σ Q) X.xe s
/-- a value's truth -/
def TruR (X : Cx) (r : V → Hp → (Bool → Hp → Prop) → Prop) : Prop :=
  ∀ (pins : List (Addr × Obj)) (s : Shared) (σ : St) (H : Hp) (x : V) (v : Value) (Q : Bool → Hp → Prop), Inv X pins σ H s → RelV x v → r x H Q →
    wpAny (model X.prog X.w) X.A (truthy v) (TP X pins σ Q) X.xe s

def tOp (r : R2) (ta tb : TE) : TE := fun σ H Q => ta σ H fun x H1 => tb σ H1 fun y H2 => r x y H2 Q
def tUn (r : V → Hp → VK → Prop) (ta : TE) : TE := fun σ H Q => ta σ H fun x H1 => r x H1 Q
/-- ints in, under C, and a value out -/
def rI (C : Int → Int → Prop) (g : Int → Int → V) : R2 := fun x y H Q => ∃ i j, x = .int i ∧ y = .int j ∧ C i j ∧ Q (g i j) H
def rI0 (g : Int → Int → V) : R2 := fun x y H Q => ∃ i j, x = .int i ∧ y = .int j ∧ Q (g i j) H
def rU (g : Int → V) : V → Hp → VK → Prop := fun x H Q => ∃ i, x = .int i ∧ Q (g i) H

section
variable {X : Cx} {a b c : Expr} {ta tb tc : TE} {pos : Pos}

theorem binT (ha : PE X a ta) (hb : PE X b tb) {pins : List (Addr × Obj)} {s : Shared} {σ : St} {H : Hp} {R : V → V → Hp → Prop} (I : Inv X pins σ H s)
    (h : ta σ H fun x H1 => tb σ H1 fun y H2 => R x y H2) {Q : Value → Shared → Prop} {f : Value → Value → Sem Value}
    (hf : ∀ v u s2 x y H2, Inv X pins σ H2 s2 → RelV x v → RelV y u → R x y H2 → wpAny (model X.prog X.w) X.A (f v u) Q X.xe s2) :
    wpAny (model X.prog X.w) X.A (eval a X.env) (fun v s₁ => wpAny (model X.prog X.w) X.A (eval b X.env) (fun u s₂ => wpAny (model X.prog X.w) X.A (f v u) Q X.xe s₂) X.xe s₁) X.xe s := by
  refine thn (ha pins s σ H _ I h) fun v s1 ⟨x, H1, I1, r1, q1⟩ => ?_
  refine thn (hb pins s1 σ H1 _ I1 q1) fun u s2 ⟨y, H2, I2, r2, q2⟩ => ?_
  exact hf v u s2 x y H2 I2 r1 r2 q2

theorem pe_op {op : Operator} {r : R2} (ho : OpR X (binaryOp op) r) (ha : PE X a ta) (hb : PE X b tb) : PE X (.BinOp a op b pos) (tOp r ta tb) := by
  intro pins s σ H Q I h
  exact wpAny_BinOp (binT ha hb I h fun v u s2 x y H2 I2 rx ry q => ho pins s2 σ H2 x y v u Q I2 rx ry q)
theorem pe_un {op : UnaryOp} {r : V → Hp → VK → Prop} (ho : UnR X (unaryOp op) r) (ha : PE X a ta) : PE X (.UnaryOp op a pos) (tUn r ta) := by
  intro pins s σ H Q I h
  exact UnaryOp_ (thn (ha pins s σ H _ I h) fun v s1 ⟨x, H1, I1, r1, q1⟩ => ho pins s1 σ H1 x v Q I1 r1 q1)
/-- a op= e at a name: the name's slot i -/
theorem augR {op : Operator} {r : R2} (ho : OpR X (inplaceOp op) r) {pins : List (Addr × Obj)} {s : Shared} {σ : St} {H : Hp} {x y : V} {v u : Value} {Q : VK} (I : Inv X pins σ H s)
    (rx : RelV x v) (ry : RelV y u) (q : r x y H Q) : wpAny (model X.prog X.w) X.A (inplaceOp op v u) (EP X pins σ Q) X.xe s := ho pins s σ H x y v u Q I rx ry q

/-! ### ints -/
theorem opI {f : Value → Value → Sem Value} {C : Int → Int → Prop} {g : Int → Int → Int}
    (rule : ∀ (i j : Int) (t u : Tok) (s : Shared) (Q : Value → Shared → Prop) (E : Value → Shared → Prop), C i j → Q (.int (g i j) s.toks) { s with toks := s.toks + 1 } → wpAny (model X.prog X.w) X.A (f (.int i t) (.int j u)) Q E s) :
    OpR X f (rI C fun i j => .int (g i j)) := by
  intro pins s σ H x y v u Q I rx ry h
  obtain ⟨i, j, rfl, rfl, hc, q⟩ := h
  obtain ⟨t, rfl⟩ := rx
  obtain ⟨t', rfl⟩ := ry
  exact rule i j t t' s _ _ hc ⟨.int (g i j), H, I.tok _, ⟨_, rfl⟩, q⟩
theorem opI0 {f : Value → Value → Sem Value} {g : Int → Int → Int}
    (rule : ∀ (i j : Int) (t u : Tok) (s : Shared) (Q : Value → Shared → Prop) (E : Value → Shared → Prop), Q (.int (g i j) s.toks) { s with toks := s.toks + 1 } → wpAny (model X.prog X.w) X.A (f (.int i t) (.int j u)) Q E s) :
    OpR X f (rI0 fun i j => .int (g i j)) := by
  intro pins s σ H x y v u Q I rx ry h
  obtain ⟨i, j, rfl, rfl, q⟩ := h
  obtain ⟨t, rfl⟩ := rx
  obtain ⟨t', rfl⟩ := ry
  exact rule i j t t' s _ _ ⟨.int (g i j), H, I.tok _, ⟨_, rfl⟩, q⟩
theorem opB0 {f : Value → Value → Sem Value} {g : Int → Int → Bool}
    (rule : ∀ (i j : Int) (t u : Tok) (s : Shared) (Q : Value → Shared → Prop) (E : Value → Shared → Prop), Q (.bool (g i j)) s → wpAny (model X.prog X.w) X.A (f (.int i t) (.int j u)) Q E s) :
    OpR X f (rI0 fun i j => .bl (g i j)) := by
  intro pins s σ H x y v u Q I rx ry h
  obtain ⟨i, j, rfl, rfl, q⟩ := h
  obtain ⟨t, rfl⟩ := rx
  obtain ⟨t', rfl⟩ := ry
  exact rule i j t t' s _ _ ⟨.bl (g i j), H, I, rfl, q⟩

def CDiv (i j : Int) : Prop := 0 < j ∧ j < 1073741824
def CDivN (i j : Int) : Prop := j ≠ 0 ∧ j.natAbs < 1073741824
def CPow (i j : Int) : Prop := 0 ≤ j ∧ j ≤ 1000000 ∧ i.natAbs < 2 ^ 64
def CMul (i j : Int) : Prop := (-(2 ^ 64) < i ∧ i < 2 ^ 64) ∨ (-(2 ^ 64) < j ∧ j < 2 ^ 64)
theorem CMul.ok {i j : Int} (h : CMul i j) : IntMulOk i j := by
  rcases h with ⟨h1, h2⟩ | ⟨h1, h2⟩
  · exact .of_left (intBits_le_64 h1 h2)
  · exact .of_right (intBits_le_64 h1 h2)
theorem two_pow_nn (k : Nat) : (0 : Int) ≤ 2 ^ k := by
  rw [two_pow_cast]
  exact Int.natCast_nonneg _

theorem op_add : OpR X (binaryOp .Add) (rI0 fun i j => .int (i + j)) := opI0 fun _ _ _ _ _ _ _ q => add_int q
theorem op_sub : OpR X (binaryOp .Sub) (rI0 fun i j => .int (i - j)) := opI0 fun _ _ _ _ _ _ _ q => sub_int q
theorem op_mul : OpR X (binaryOp .Mult) (rI CMul fun i j => .int (i * j)) := opI fun _ _ _ _ _ _ _ hc q => mul_int q hc.ok
/-- // by a positive divisor -/
theorem op_fdiv : OpR X (binaryOp .FloorDiv) (rI CDiv fun i j => .int (i / j)) := opI fun i j _ _ _ _ _ hc q => by
  have h1 : (0 : Int) < j := hc.1
  have h2 : j < 1073741824 := hc.2
  exact floordiv_int (by omega) (by rw [Int.fdiv_eq_ediv_of_nonneg i (by omega)]; exact q) (.inl (PyProof.noPylong_small (by omega)))
theorem op_fdivN : OpR X (binaryOp .FloorDiv) (rI CDivN fun i j => .int (i.fdiv j)) := opI fun _ _ _ _ _ _ _ hc q => floordiv_int hc.1 q (.inl (PyProof.noPylong_small hc.2))
/-- % by a positive divisor of any size -/
theorem op_mod : OpR X (binaryOp .Mod) (rI (fun _ j => 0 < j) fun i j => .int (i % j)) := opI fun i j _ _ _ _ _ hc q => by
  have h1 : (0 : Int) < j := hc
  exact mod_int' (by omega) (by rw [Int.fmod_eq_emod_of_nonneg i (by omega)]; exact q)
theorem op_modN : OpR X (binaryOp .Mod) (rI (fun _ j => j ≠ 0) fun i j => .int (i.fmod j)) := opI fun _ _ _ _ _ _ _ hc q => mod_int' hc q
theorem op_pow : OpR X (binaryOp .Pow) (rI CPow fun i j => .int (i ^ j.toNat)) := opI fun _ _ _ _ _ _ _ hc q => pow_int_small hc.1 hc.2.1 hc.2.2 q
theorem op_shl : OpR X (binaryOp .LShift) (rI CPow fun i j => .int (i * 2 ^ j.toNat)) := opI fun _ _ _ _ _ _ _ hc q => lshift_int_small hc.1 hc.2.1 hc.2.2 q
theorem op_shr : OpR X (binaryOp .RShift) (rI (fun _ j => 0 ≤ j) fun i j => .int (i / 2 ^ j.toNat)) := opI fun i j _ _ _ _ _ hc q =>
  rshift_int hc (by rw [Int.fdiv_eq_ediv_of_nonneg i (two_pow_nn _)]; exact q)
theorem op_and : OpR X (binaryOp .BitAnd) (rI0 fun i j => .int (Builtin.bitAnd i j)) := opI0 fun _ _ _ _ _ _ _ q => and_int q
theorem op_or : OpR X (binaryOp .BitOr) (rI0 fun i j => .int (Builtin.bitOr i j)) := opI0 fun _ _ _ _ _ _ _ q => or_int q
theorem op_xor : OpR X (binaryOp .BitXor) (rI0 fun i j => .int (Builtin.bitXor i j)) := opI0 fun _ _ _ _ _ _ _ q => xor_int q

theorem iop_add : OpR X (inplaceOp .Add) (rI0 fun i j => .int (i + j)) := opI0 fun _ _ _ _ _ _ _ q => iadd_int q
theorem iop_sub : OpR X (inplaceOp .Sub) (rI0 fun i j => .int (i - j)) := opI0 fun _ _ _ _ _ _ _ q => isub_int q
theorem iop_mul : OpR X (inplaceOp .Mult) (rI CMul fun i j => .int (i * j)) := opI fun _ _ _ _ _ _ _ hc q => imul_int q hc.ok
theorem iop_fdiv : OpR X (inplaceOp .FloorDiv) (rI CDiv fun i j => .int (i / j)) := opI fun i j _ _ _ _ _ hc q => by
  have h1 : (0 : Int) < j := hc.1
  have h2 : j < 1073741824 := hc.2
  exact ifloordiv_int (by omega) (by rw [Int.fdiv_eq_ediv_of_nonneg i (by omega)]; exact q) (.inl (PyProof.noPylong_small (by omega)))
theorem iop_mod : OpR X (inplaceOp .Mod) (rI (fun _ j => 0 < j) fun i j => .int (i % j)) := opI fun i j _ _ _ _ _ hc q => by
  have h1 : (0 : Int) < j := hc
  exact imod_int (by omega) (by rw [Int.fmod_eq_emod_of_nonneg i (by omega)]; exact q)
theorem iop_shl : OpR X (inplaceOp .LShift) (rI CPow fun i j => .int (i * 2 ^ j.toNat)) := opI fun _ _ _ _ _ _ _ hc q => ilshift_int_small hc.1 hc.2.1 hc.2.2 q
theorem iop_shr : OpR X (inplaceOp .RShift) (rI (fun _ j => 0 ≤ j) fun i j => .int (i / 2 ^ j.toNat)) := opI fun i j _ _ _ _ _ hc q =>
  irshift_int hc (by rw [Int.fdiv_eq_ediv_of_nonneg i (two_pow_nn _)]; exact q)
theorem iop_and : OpR X (inplaceOp .BitAnd) (rI0 fun i j => .int (Builtin.bitAnd i j)) := opI0 fun _ _ _ _ _ _ _ q => iand_int q
theorem iop_or : OpR X (inplaceOp .BitOr) (rI0 fun i j => .int (Builtin.bitOr i j)) := opI0 fun _ _ _ _ _ _ _ q => ior_int q
theorem iop_xor : OpR X (inplaceOp .BitXor) (rI0 fun i j => .int (Builtin.bitXor i j)) := opI0 fun _ _ _ _ _ _ _ q => ixor_int q

theorem unI {f : Value → Sem Value} {g : Int → Int}
    (rule : ∀ (i : Int) (t : Tok) (s : Shared) (Q : Value → Shared → Prop) (E : Value → Shared → Prop), Q (.int (g i) s.toks) { s with toks := s.toks + 1 } → wpAny (model X.prog X.w) X.A (f (.int i t)) Q E s) :
    UnR X f (rU fun i => .int (g i)) := by
  intro pins s σ H x v Q I rx h
  obtain ⟨i, rfl, q⟩ := h
  obtain ⟨t, rfl⟩ := rx
  exact rule i t s _ _ ⟨.int (g i), H, I.tok _, ⟨_, rfl⟩, q⟩
theorem un_neg : UnR X (unaryOp .USub) (rU fun i => .int (-i)) := unI fun _ _ _ _ _ q => neg_int q
theorem un_inv : UnR X (unaryOp .Invert) (rU fun i => .int (Builtin.bitNot i)) := unI fun _ _ _ _ _ q => invert_int q

/-! ### bools among ints: n += (a < b) -/
theorem op_add_ib : OpR X (binaryOp .Add) (fun x y H Q => ∃ i k, x = .int i ∧ y = .bl k ∧ Q (.int (i + b2i k)) H) := by
  intro pins s σ H x y v u Q I rx ry h
  obtain ⟨i, k, rfl, rfl, q⟩ := h
  obtain ⟨t, rfl⟩ := rx
  cases ry
  exact add_int_bool ⟨.int (i + b2i k), H, I.tok _, ⟨_, rfl⟩, q⟩
end

/-! ### comparisons -/
/-- the scalars that == tells apart as data does -/
def scal : V → V → Bool
  | .non, .non => true | .non, .int _ => true | .int _, .non => true | .non, .bl _ => true | .bl _, .non => true | .non, .str _ => true | .str _, .non => true
  | .int _, .int _ => true | .bl _, .bl _ => true | .str _, .str _ => true | .byt _, .byt _ => true
  | .int _, .str _ => true | .str _, .int _ => true | .bl _, .str _ => true | .str _, .bl _ => true
  | _, _ => false
def rEq : R2 := fun x y H Q => scal x y = true ∧ Q (.bl (decide (x = y))) H
def rNe : R2 := fun x y H Q => scal x y = true ∧ Q (.bl (!decide (x = y))) H

theorem dec_int {i j : Int} : decide (V.int i = V.int j) = (i == j) := by
  rw [Bool.eq_iff_iff]
  simp
theorem dec_bl {i j : Bool} : decide (V.bl i = V.bl j) = (i == j) := by
  rw [Bool.eq_iff_iff]
  simp
theorem dec_str {i j : Str} : decide (V.str i = V.str j) = (i == j) := by
  rw [Bool.eq_iff_iff]
  simp
theorem dec_byt {i j : Array UInt8} : decide (V.byt i = V.byt j) = (i.toList == j.toList) := by
  rw [Bool.eq_iff_iff]
  cases i
  cases j
  simp

section
variable {X : Cx} {a b c : Expr} {ta tb tc : TE} {pos : Pos}
theorem fin_bl {pins : List (Addr × Obj)} {σ : St} {H : Hp} {s : Shared} {Q : VK} {k k' : Bool} (I : Inv X pins σ H s) (q : Q (.bl k) H) (e : k = k') : EP X pins σ Q (.bool k') s := by
  subst e
  exact ⟨.bl k, H, I, rfl, q⟩
theorem op_eq : OpR X (compareOp .Eq) rEq := by
  intro pins s σ H x y v u Q I rx ry h
  obtain ⟨hs, q⟩ := h
  cases x with
  | non =>
    cases rx
    cases y with
    | non => cases ry; exact PySem.EqNone.eq_none_none (fin_bl I q (by simp))
    | bl j => cases ry; exact PySem.EqNone.eq_none_bool (fin_bl I q (by simp))
    | int j => obtain ⟨t', rfl⟩ := ry; exact PySem.EqNone.eq_none_int (fin_bl I q (by simp))
    | str j => obtain ⟨t', rfl⟩ := ry; exact PySem.EqNone.eq_none_str (fin_bl I q (by simp))
    | _ => exact absurd (show false = true from hs) Bool.false_ne_true
  | bl i =>
    cases rx
    cases y with
    | non => cases ry; exact PySem.EqNone.eq_bool_none (fin_bl I q (by simp))
    | bl j => cases ry; exact eq_bool (fin_bl I q dec_bl)
    | str j => obtain ⟨t', rfl⟩ := ry; exact PySem.EqMixed.eq_bool_str (fin_bl I q (by simp))
    | _ => exact absurd (show false = true from hs) Bool.false_ne_true
  | int i =>
    obtain ⟨t, rfl⟩ := rx
    cases y with
    | non => cases ry; exact PySem.EqNone.eq_int_none (fin_bl I q (by simp))
    | int j => obtain ⟨t', rfl⟩ := ry; exact eq_int (fin_bl I q dec_int)
    | str j => obtain ⟨t', rfl⟩ := ry; exact PySem.EqMixed.eq_int_str (fin_bl I q (by simp))
    | _ => exact absurd (show false = true from hs) Bool.false_ne_true
  | str i =>
    obtain ⟨t, rfl⟩ := rx
    cases y with
    | non => cases ry; exact PySem.EqNone.eq_str_none (fin_bl I q (by simp))
    | bl j => cases ry; exact PySem.EqMixed.eq_str_bool (fin_bl I q (by simp))
    | int j => obtain ⟨t', rfl⟩ := ry; exact PySem.EqMixed.eq_str_int (fin_bl I q (by simp))
    | str j => obtain ⟨t', rfl⟩ := ry; exact eq_str (fin_bl I q dec_str)
    | _ => exact absurd (show false = true from hs) Bool.false_ne_true
  | byt i =>
    obtain ⟨t, rfl⟩ := rx
    cases y with
    | byt j => obtain ⟨t', rfl⟩ := ry; exact PySem.W.eq_bytes (fin_bl I q dec_byt)
    | _ => exact absurd (show false = true from hs) Bool.false_ne_true
  | _ => cases y <;> exact absurd (show false = true from hs) Bool.false_ne_true
theorem op_ne : OpR X (compareOp .NotEq) rNe := by
  intro pins s σ H x y v u Q I rx ry h
  obtain ⟨hs, q⟩ := h
  cases x with
  | non =>
    cases rx
    cases y with
    | non => cases ry; exact PySem.EqNone.ne_none_none (fin_bl I q (by simp))
    | bl j => cases ry; exact PySem.EqNone.ne_none_bool (fin_bl I q (by simp))
    | int j => obtain ⟨t', rfl⟩ := ry; exact PySem.EqNone.ne_none_int (fin_bl I q (by simp))
    | str j => obtain ⟨t', rfl⟩ := ry; exact PySem.EqNone.ne_none_str (fin_bl I q (by simp))
    | _ => exact absurd (show false = true from hs) Bool.false_ne_true
  | bl i =>
    cases rx
    cases y with
    | non => cases ry; exact PySem.EqNone.ne_bool_none (fin_bl I q (by simp))
    | bl j => cases ry; exact ne_bool (fin_bl I q (congrArg not dec_bl))
    | str j => obtain ⟨t', rfl⟩ := ry; exact PySem.EqMixed.ne_bool_str (fin_bl I q (by simp))
    | _ => exact absurd (show false = true from hs) Bool.false_ne_true
  | int i =>
    obtain ⟨t, rfl⟩ := rx
    cases y with
    | non => cases ry; exact PySem.EqNone.ne_int_none (fin_bl I q (by simp))
    | int j => obtain ⟨t', rfl⟩ := ry; exact ne_int (fin_bl I q (congrArg not dec_int))
    | str j => obtain ⟨t', rfl⟩ := ry; exact PySem.EqMixed.ne_int_str (fin_bl I q (by simp))
    | _ => exact absurd (show false = true from hs) Bool.false_ne_true
  | str i =>
    obtain ⟨t, rfl⟩ := rx
    cases y with
    | non => cases ry; exact PySem.EqNone.ne_str_none (fin_bl I q (by simp))
    | bl j => cases ry; exact PySem.EqMixed.ne_str_bool (fin_bl I q (by simp))
    | int j => obtain ⟨t', rfl⟩ := ry; exact PySem.EqMixed.ne_str_int (fin_bl I q (by simp))
    | str j => obtain ⟨t', rfl⟩ := ry; exact ne_str (fin_bl I q (congrArg not dec_str))
    | _ => exact absurd (show false = true from hs) Bool.false_ne_true
  | byt i =>
    obtain ⟨t, rfl⟩ := rx
    cases y with
    | byt j => obtain ⟨t', rfl⟩ := ry; exact PySem.W.ne_bytes (fin_bl I q (congrArg not dec_byt))
    | _ => exact absurd (show false = true from hs) Bool.false_ne_true
  | _ => cases y <;> exact absurd (show false = true from hs) Bool.false_ne_true

theorem op_lt : OpR X (compareOp .Lt) (rI0 fun i j => .bl (decide (i < j))) := opB0 fun _ _ _ _ _ _ _ q => lt_int q
theorem op_le : OpR X (compareOp .LtE) (rI0 fun i j => .bl (decide (i ≤ j))) := opB0 fun _ _ _ _ _ _ _ q => le_int q
theorem op_gt : OpR X (compareOp .Gt) (rI0 fun i j => .bl (decide (j < i))) := opB0 fun _ _ _ _ _ _ _ q => gt_int q
theorem op_ge : OpR X (compareOp .GtE) (rI0 fun i j => .bl (decide (j ≤ i))) := opB0 fun _ _ _ _ _ _ _ q => ge_int q
theorem op_lt_str : OpR X (compareOp .Lt) (fun x y H Q => ∃ i j, x = .str i ∧ y = .str j ∧ Q (.bl (decide (i.cps.toList < j.cps.toList))) H) := by
  intro pins s σ H x y v u Q I rx ry h
  obtain ⟨i, j, rfl, rfl, q⟩ := h
  obtain ⟨t, rfl⟩ := rx
  obtain ⟨t', rfl⟩ := ry
  exact lt_str (fin_bl I q rfl)
/-- the one string within the other -/
theorem op_in_str : OpR X (compareOp .In) (fun x y H Q => ∃ i j, x = .str i ∧ y = .str j ∧ Q (.bl (!(Builtin.Str.occurrences j i 0 j.length 1).isEmpty)) H) := by
  intro pins s σ H x y v u Q I rx ry h
  obtain ⟨i, j, rfl, rfl, q⟩ := h
  obtain ⟨t, rfl⟩ := rx
  obtain ⟨t', rfl⟩ := ry
  exact in_str (fin_bl I q rfl)

/-- is None, is not None: the right side a value none -/
theorem op_isN : OpR X (compareOp .Is) (fun x y H Q => y = .non ∧ Q (.bl (decide (x = .non))) H) := by
  intro pins s σ H x y v u Q I rx ry h
  obtain ⟨rfl, q⟩ := h
  cases ry
  refine is_none_gen (fin_bl I q ?_)
  cases x <;> first
    | (cases rx; rfl)
    | (obtain ⟨t, rfl⟩ := rx; rfl)
theorem op_notN : OpR X (compareOp .IsNot) (fun x y H Q => y = .non ∧ Q (.bl (!decide (x = .non))) H) := by
  intro pins s σ H x y v u Q I rx ry h
  obtain ⟨rfl, q⟩ := h
  cases ry
  refine isnot_none_gen (fin_bl I q ?_)
  cases x <;> first
    | (cases rx; rfl)
    | (obtain ⟨t, rfl⟩ := rx; rfl)

theorem op_notin_str : OpR X (compareOp .NotIn) (fun x y H Q => ∃ i j, x = .str i ∧ y = .str j ∧ Q (.bl (!(!(Builtin.Str.occurrences j i 0 j.length 1).isEmpty))) H) := by
  intro pins s σ H x y v u Q I rx ry h
  obtain ⟨i, j, rfl, rfl, q⟩ := h
  obtain ⟨t, rfl⟩ := rx
  obtain ⟨t', rfl⟩ := ry
  exact notIn_str (fin_bl I q rfl)
/-- is, is not of two objects that are tracked lists or instances -/
def isObj : HO → Bool
  | .lst _ => true
  | .ins _ _ _ => true
  | _ => false
theorem obj_there {pins : List (Addr × Obj)} {s : Shared} {σ : St} {H : Hp} {a : Addr} {o : HO} (I : Inv X pins σ H s) (h : H a = some o) (p : isObj o = true) : ∃ ob, s.heap.get? a = some ob ∧ ob.cls ≠ .type "tuple" := by
  cases o with
  | lst xs =>
    obtain ⟨_, its, n, _, e⟩ : xs.length ≤ sizeLine ∧ ∃ (its : List Value) (n : Nat), Vals xs its ∧ s.heap.get? a = some { cls := .type "list", data := .seq its.toArray n } := I.hok a _ h
    exact ⟨_, e, (by show Value.type "list" ≠ .type "tuple"; decide +kernel)⟩
  | ins C dx fs =>
    have x := I.hok a _ h
    obtain ⟨_, _, _, e, _⟩ := x
    exact ⟨_, e, (by show Value.ref C ≠ .type "tuple"; exact fun z => by cases z)⟩
  | _ => exact absurd (show false = true from p) Bool.false_ne_true
theorem op_is_ref : OpR X (compareOp .Is) (fun x y H Q => ∃ a b oa ob, x = .ref a ∧ y = .ref b ∧ H a = some oa ∧ isObj oa = true ∧ H b = some ob ∧ isObj ob = true ∧ Q (.bl (decide (a = b))) H) := by
  intro pins s σ H x y v u Q I rx ry h
  obtain ⟨a, b, oa, ob, rfl, rfl, ha, pa, hb, pb, q⟩ := h
  cases rx
  cases ry
  obtain ⟨o1, e1, n1⟩ := obj_there I ha pa
  obtain ⟨o2, e2, _⟩ := obj_there I hb pb
  by_cases z : a = b
  · subst z
    exact wpAny_is_ref_self (fin_bl I q (by simp))
  · exact wpAny_is_ref_other z e1 e2 n1 (fin_bl I q (by simp [z]))
theorem op_isnot_ref : OpR X (compareOp .IsNot) (fun x y H Q => ∃ a b oa ob, x = .ref a ∧ y = .ref b ∧ H a = some oa ∧ isObj oa = true ∧ H b = some ob ∧ isObj ob = true ∧ Q (.bl (!decide (a = b))) H) := by
  intro pins s σ H x y v u Q I rx ry h
  obtain ⟨a, b, oa, ob, rfl, rfl, ha, pa, hb, pb, q⟩ := h
  cases rx
  cases ry
  obtain ⟨o1, e1, n1⟩ := obj_there I ha pa
  obtain ⟨o2, e2, _⟩ := obj_there I hb pb
  by_cases z : a = b
  · subst z
    exact wpAny_isNot_ref_self (fin_bl I q (by simp))
  · exact wpAny_isNot_ref_other z e1 e2 n1 (fin_bl I q (by simp [z]))

/-- two rules for one operation: by cases -/
theorem OpR.or {f : Value → Value → Sem Value} {r r' : R2} (h : OpR X f r) (h' : OpR X f r') : OpR X f (fun x y H Q => r x y H Q ∨ r' x y H Q) := by
  intro pins s σ H x y v u Q I rx ry q
  rcases q with q | q
  · exact h pins s σ H x y v u Q I rx ry q
  · exact h' pins s σ H x y v u Q I rx ry q

theorem nomark (b : Expr) {op : CmpOp} (h : op ≠ .In := by decide) (h2 : op ≠ .NotIn := by decide) : behindInMarks op b = false := by
  have e1 : (op == CmpOp.In) = false := by cases op <;> first | rfl | exact absurd rfl h
  have e2 : (op == CmpOp.NotIn) = false := by cases op <;> first | rfl | exact absurd rfl h2
  cases b <;> simp [behindInMarks, e1, e2]
/-- a comparison as a value; hm: nomark b, or (for in, not in) by with_unfolding_all rfl -/
theorem pe_cmpR {op : CmpOp} {r : R2} (ho : OpR X (compareOp op) r) (ha : PE X a ta) (hb : PE X b tb) (hm : behindInMarks op b = false) : PE X (.Compare a [op] [b] pos) (tOp r ta tb) := by
  intro pins s σ H Q I h
  exact wpAny_Compare1 (binT ha hb I h fun v u s2 x y H2 I2 rx ry q => ho pins s2 σ H2 x y v u Q I2 rx ry q) hm
/-- a reading of a value as a test -/
def tTest (t : TE) : TT := fun σ H Q => t σ H fun x H' => ∃ k, x = .bl k ∧ Q k H'
theorem pt_cmpR {op : CmpOp} {r : R2} (ho : OpR X (compareOp op) r) (ha : PE X a ta) (hb : PE X b tb) (hm : behindInMarks op b = false) : PT X (.Compare a [op] [b] pos) (tTest (tOp r ta tb)) := by
  intro pins s σ H Q I h
  refine wpAny_isTrue_Compare1 (thn (ha pins s σ H _ I h) fun v s1 ⟨x, H1, I1, r1, q1⟩ => thn (hb pins s1 σ H1 _ I1 q1) fun u s2 ⟨y, H2, I2, r2, q2⟩ =>
    thn (ho pins s2 σ H2 x y v u _ I2 r1 r2 q2) fun c s3 ⟨z, H3, I3, r3, k, e, q3⟩ => ?_) hm
  subst e
  cases r3
  exact wpAny_truthy_bool ⟨H3, I3, q3⟩
/-- a op1 b op2 c -/
def tChain (r r' : R2) (ta tb tc : TE) : TE := fun σ H Q => ta σ H fun x H1 => tb σ H1 fun y H2 => r x y H2 fun z H3 => ∃ k, z = .bl k ∧
  (if k = true then tc σ H3 fun w' H4 => r' y w' H4 Q else Q (.bl false) H3)
theorem pe_chain {op op' : CmpOp} {r r' : R2} (ho : OpR X (compareOp op) r) (ho' : OpR X (compareOp op') r') (ha : PE X a ta) (hb : PE X b tb) (hc : PE X c tc)
    (hm : lastMarks [op, op'] [b, c] = false := by with_unfolding_all rfl) : PE X (.Compare a [op, op'] [b, c] pos) (tChain r r' ta tb tc) := by
  intro pins s σ H Q I h
  refine Compare_chain (thn (ha pins s σ H _ I h) fun v s1 ⟨x, H1, I1, r1, q1⟩ => chain_link (thn (hb pins s1 σ H1 _ I1 q1) fun u s2 ⟨y, H2, I2, r2, q2⟩ =>
    thn (ho pins s2 σ H2 x y v u _ I2 r1 r2 q2) fun d s3 ⟨z, H3, I3, r3, k, e, q3⟩ => ?_)) hm
  subst e
  cases r3
  refine wpAny_truthy_bool ?_
  cases k with
  | false => exact ite_ff ⟨.bl false, H3, I3, rfl, q3⟩
  | true => exact ite_tt (chain_last (thn (hc pins s3 σ H3 _ I3 q3) fun w' s4 ⟨z', H4, I4, r4, q4⟩ => ho' pins s4 σ H4 y z' u w' Q I4 r2 r4 q4))
theorem pt_chain {op op' : CmpOp} {r r' : R2} (ho : OpR X (compareOp op) r) (ho' : OpR X (compareOp op') r') (ha : PE X a ta) (hb : PE X b tb) (hc : PE X c tc)
    (hm : lastMarks [op, op'] [b, c] = false := by with_unfolding_all rfl) : PT X (.Compare a [op, op'] [b, c] pos) (tTest (tChain r r' ta tb tc)) := by
  intro pins s σ H Q I h
  refine isTrue_chain (thn (ha pins s σ H _ I h) fun v s1 ⟨x, H1, I1, r1, q1⟩ => test_link (thn (hb pins s1 σ H1 _ I1 q1) fun u s2 ⟨y, H2, I2, r2, q2⟩ =>
    thn (ho pins s2 σ H2 x y v u _ I2 r1 r2 q2) fun d s3 ⟨z, H3, I3, r3, k, e, q3⟩ => ?_)) hm
  subst e
  cases r3
  refine wpAny_truthy_bool ?_
  cases k with
  | false =>
    obtain ⟨k', e', q'⟩ := q3
    cases e'
    exact ite_ff ⟨H3, I3, q'⟩
  | true =>
    refine ite_tt (test_last (thn (hc pins s3 σ H3 _ I3 q3) fun w' s4 ⟨z', H4, I4, r4, q4⟩ => thn (ho' pins s4 σ H4 y z' u w' _ I4 r2 r4 q4) fun d' s5 ⟨z2, H5, I5, r5, k2, e2, q5⟩ => ?_))
    subst e2
    cases r5
    exact wpAny_truthy_bool ⟨H5, I5, q5⟩

/-! ### truth -/
/-- a value's truth by the abstract heap -/
def TruV (K : PySem.W.Frag) (x : V) (H : Hp) (k : Bool) : Prop :=
  match x with
  | .non => k = false
  | .bl b => k = b
  | .int i => k = (i != 0)
  | .str y => y.length ≤ sizeLine ∧ k = ((y.length : Int) != 0)
  | .byt y => y.size ≤ sizeLine ∧ k = ((y.size : Int) != 0)
  | .ref p => (∃ xs, SqL K H p xs ∧ k = !xs.isEmpty) ∨ (∃ xs, SqT K H p xs ∧ k = !xs.isEmpty) ∨ ∃ kvs, H p = some (.dK kvs) ∧ k = !kvs.isEmpty
  | _ => False
theorem isEmpty_kv {κ : Type} {kvs : List (κ × V)} {vs : List (κ × Value)} (r : KV kvs vs) : (!vs.isEmpty) = !kvs.isEmpty := by
  cases r <;> rfl
theorem isEmpty_of {xs : List V} {its : List Value} (r : Vals xs its) : (!its.toArray.isEmpty) = !xs.isEmpty := by
  cases r <;> simp
theorem line63 : (sizeLine : Nat) < 2 ^ 63 := by rw [sizeLine_eq]; decide
theorem tru_ok : TruR X (fun x H Q => ∃ k, TruV X.K x H k ∧ Q k H) := by
  intro pins s σ H x v Q I rx h
  obtain ⟨k, e, q⟩ := h
  have hl := line63
  have hs : sizeLine = 16777216 := sizeLine_eq
  cases x with
  | non =>
    cases rx
    have e' : k = false := e
    subst e'
    exact truthy_none ⟨H, I, q⟩
  | bl b =>
    cases rx
    have e' : k = b := e
    subst e'
    exact wpAny_truthy_bool ⟨H, I, q⟩
  | int i =>
    obtain ⟨t, rfl⟩ := rx
    have e' : k = (i != 0) := e
    subst e'
    exact PySem.P.truthy_int ⟨H, I, q⟩
  | str y =>
    obtain ⟨t, rfl⟩ := rx
    obtain ⟨hy, e'⟩ : y.length ≤ sizeLine ∧ k = ((y.length : Int) != 0) := e
    subst e'
    exact PySem.P.truthy_str (by omega) ⟨H, I.tok _, q⟩
  | byt y =>
    obtain ⟨t, rfl⟩ := rx
    obtain ⟨hy, e'⟩ : y.size ≤ sizeLine ∧ k = ((y.size : Int) != 0) := e
    subst e'
    exact PySem.W.truthy_bytes (by omega) ⟨H, I.tok _, q⟩
  | ref p =>
    cases rx
    have e' : (∃ xs, SqL X.K H p xs ∧ k = !xs.isEmpty) ∨ (∃ xs, SqT X.K H p xs ∧ k = !xs.isEmpty) ∨ ∃ kvs, H p = some (.dK kvs) ∧ k = !kvs.isEmpty := e
    rcases e' with ⟨xs, hx, e'⟩ | ⟨xs, hx, e'⟩ | ⟨kvs, hx, e'⟩
    · subst e'
      obtain ⟨its, r, pl, hz⟩ := I.list hx
      have hlen := r.length
      exact wpAny_truthy_list pl.isList (by simp only [List.size_toArray]; omega) ⟨H, I.tok _, by rw [isEmpty_of r]; exact q⟩
    · subst e'
      obtain ⟨its, r, pl, hz⟩ := I.tuple hx
      have hlen := r.length
      exact truthy_tuple pl (by simp only [List.size_toArray]; omega) ⟨H, I.tok _, by rw [isEmpty_of r]; exact q⟩
    · subst e'
      obtain ⟨hz, hS, vs, r, m⟩ : kvs.length ≤ sizeLine ∧ (p == sysModules) = false ∧ ∃ vs, KV kvs vs ∧ s.heap.DictOf (mixKind X.prog X.w) p vs := I.hok p _ hx
      have hlen : kvs.length = vs.length := Paired.length r
      exact wpAny_truthy_dict hS m (by omega) ⟨H, I.tok _, by rw [isEmpty_kv r]; exact q⟩
  | _ => exact (show False from e).elim
/-- any expression whose test is its value's truth (a name, a call, a subscript, a field ..: he by fun _ => rfl) -/
theorem pt_truth (ha : PE X a ta) (he : ∀ whole, isTrue a X.env whole = (do let v ← whole; standAt a.pos; holding [v] (truthy v))) :
    PT X a (fun σ H Q => ta σ H fun x H' => ∃ k, TruV X.K x H' k ∧ Q k H') := by
  intro pins s σ H Q I h
  exact isTrue_plain (thn (ha pins s σ H _ I h) fun v s1 ⟨x, H1, I1, r1, q1⟩ => tru_ok pins s1 σ H1 x v Q I1 r1 q1) (he _)

/-! ### strs and bytes -/
theorem pe_byt {x : List UInt8} {k : Nat} : PE X (.Constant (.bytes x) k pos) (fun _ H Q => Q (.byt x.toArray) H) := fun _ _ _ H _ I h => PySem.W.Constant_bytes ⟨.byt x.toArray, H, I.tok _, ⟨_, rfl⟩, h⟩
theorem op_add_str : OpR X (binaryOp .Add) (fun x y H Q => ∃ i j, x = .str i ∧ y = .str j ∧ i.length + j.length ≤ sizeLine ∧ Q (.str (i ++ j)) H) := by
  intro pins s σ H x y v u Q I rx ry h
  obtain ⟨i, j, rfl, rfl, hz, q⟩ := h
  obtain ⟨t, rfl⟩ := rx
  obtain ⟨t', rfl⟩ := ry
  exact add_str (fun t' tk => ⟨.str (i ++ j), H, I.tok _, ⟨_, rfl⟩, q⟩) hz
theorem iop_add_str : OpR X (inplaceOp .Add) (fun x y H Q => ∃ i j, x = .str i ∧ y = .str j ∧ i.length + j.length ≤ sizeLine ∧ Q (.str (i ++ j)) H) := by
  intro pins s σ H x y v u Q I rx ry h
  obtain ⟨i, j, rfl, rfl, hz, q⟩ := h
  obtain ⟨t, rfl⟩ := rx
  obtain ⟨t', rfl⟩ := ry
  exact iadd_str (fun t' tk => ⟨.str (i ++ j), H, I.tok _, ⟨_, rfl⟩, q⟩) hz
theorem op_add_byt : OpR X (binaryOp .Add) (fun x y H Q => ∃ i j, x = .byt i ∧ y = .byt j ∧ i.size + j.size ≤ 16777216 ∧ Q (.byt (i ++ j)) H) := by
  intro pins s σ H x y v u Q I rx ry h
  obtain ⟨i, j, rfl, rfl, hz, q⟩ := h
  obtain ⟨t, rfl⟩ := rx
  obtain ⟨t', rfl⟩ := ry
  exact PySem.W.KBy.add_bytes hz (fun t' tk => ⟨.byt (i ++ j), H, I.tok _, ⟨_, rfl⟩, q⟩)

def PlainIxT (b : Expr) : Prop := ∀ o i, subscripted b false o i = operate [o, i] (getItem o i)
/-- s[i], 0 ≤ i < len -/
theorem pe_item_str (ha : PE X a ta) (hb : PE X b tb) (hs : PlainIxT b) :
    PE X (.Subscript a b pos) (tOp (fun x y H Q => ∃ z i c, x = .str z ∧ y = .int i ∧ 0 ≤ i ∧ i < 2 ^ 63 ∧ i < z.length ∧ z.cps[i.toNat]? = some c ∧ Q (.str ⟨#[c]⟩) H) ta tb) := by
  intro pins s σ H Q I h
  refine Subscript_ (binT ha hb I h fun v u s2 x y H2 I2 rx ry q => ?_)
  obtain ⟨z, i, c, rfl, rfl, h0, h63, h1, hc, q⟩ := q
  obtain ⟨t, rfl⟩ := rx
  obtain ⟨t', rfl⟩ := ry
  have e : seqIndex? i z.length = some i.toNat := PySem.StrLaws.seqIndex_nonneg h0 h1
  exact tail_any (typeIs_str s2 z t) slot_str_getitem.lookup (getItem_str (c := c) (by
    have e1 : decide (i < -(2 ^ 63 : Int)) = false := decide_eq_false (by omega)
    have e2 : decide (i ≥ 2 ^ 63) = false := decide_eq_false (by omega)
    rw [e1, e2] <;> rfl) (by rw [e]; exact hc) ⟨.str ⟨#[c]⟩, H2, I2.tok _, ⟨_, rfl⟩, q⟩) (hs _ _)
/-- b[i], 0 ≤ i < len -/
theorem pe_item_byt (ha : PE X a ta) (hb : PE X b tb) (hs : PlainIxT b) :
    PE X (.Subscript a b pos) (tOp (fun x y H Q => ∃ (z : List UInt8) (i : Int), x = .byt z.toArray ∧ y = .int i ∧ z.length ≤ sizeLine ∧ 0 ≤ i ∧ i < z.length ∧ Q (.int ((z.getD i.toNat 0).toNat : Nat)) H) ta tb) := by
  intro pins s σ H Q I h
  refine Subscript_ (binT ha hb I h fun v u s2 x y H2 I2 rx ry q => ?_)
  obtain ⟨z, i, rfl, rfl, hz, h0, h1, q⟩ := q
  obtain ⟨t, rfl⟩ := rx
  obtain ⟨t', rfl⟩ := ry
  have hl : sizeLine = 16777216 := sizeLine_eq
  exact tail_any (PySem.W.typeIs_bytes s2 z.toArray t) PySem.W.FB.slot_bytes_getitem.lookup (PySem.W.getItem_bytes (by omega) h0 h1 ⟨.int ((z.getD i.toNat 0).toNat : Nat), H2, I2.tok _, ⟨_, rfl⟩, q⟩) (hs _ _)

/-! ### scalar builtins, by CallR -/
theorem vals1 {x : V} {us : List Value} (r : Vals [x] us) : ∃ u, us = [u] ∧ RelV x u := by
  cases r with
  | cons r1 r2 => cases r2; exact ⟨_, rfl, r1⟩
theorem vals2 {x y : V} {us : List Value} (r : Vals [x, y] us) : ∃ u w', us = [u, w'] ∧ RelV x u ∧ RelV y w' := by
  cases r with
  | cons r1 r2 =>
    cases r2 with
    | cons r3 r4 => cases r4; exact ⟨_, _, rfl, r1, r3⟩
theorem call_abs : CallR X (.builtin "abs") (fun xs H Q => ∃ i, xs = [.int i] ∧ Q (.int (if i < 0 then -i else i)) H) := by
  intro pins s σ H xs us Q I r h
  obtain ⟨i, rfl, q⟩ := h
  obtain ⟨u, rfl, t, rfl⟩ := vals1 r
  exact call_abs_int fun u tk => ⟨.int (if i < 0 then -i else i), H, I.tok _, ⟨_, rfl⟩, q⟩
theorem call_max2 (hc : X.calm = true) : CallR X (.builtin "max") (fun xs H Q => ∃ i j, xs = [.int i, .int j] ∧ Q (.int (if j > i then j else i)) H) := by
  intro pins s σ H xs us Q I r h
  obtain ⟨i, j, rfl, q⟩ := h
  obtain ⟨u, w', rfl, ⟨t, rfl⟩, ⟨t', rfl⟩⟩ := vals2 r
  refine max_two_ints (I.ok.hd hc) fun h' tk k => ⟨_, H, I.kept k, ?_, q⟩
  by_cases hj : j > i
  · rw [if_pos hj, if_pos hj]; exact ⟨_, rfl⟩
  · rw [if_neg hj, if_neg hj]; exact ⟨_, rfl⟩
theorem call_min2 (hc : X.calm = true) : CallR X (.builtin "min") (fun xs H Q => ∃ i j, xs = [.int i, .int j] ∧ Q (.int (if j < i then j else i)) H) := by
  intro pins s σ H xs us Q I r h
  obtain ⟨i, j, rfl, q⟩ := h
  obtain ⟨u, w', rfl, ⟨t, rfl⟩, ⟨t', rfl⟩⟩ := vals2 r
  refine min_two_ints (I.ok.hd hc) fun h' tk k => ⟨_, H, I.kept k, ?_, q⟩
  by_cases hj : j < i
  · rw [if_pos hj, if_pos hj]; exact ⟨_, rfl⟩
  · rw [if_neg hj, if_neg hj]; exact ⟨_, rfl⟩
theorem call_int1 : CallR X (.type "int") (fun xs H Q => (∃ i, xs = [.int i] ∧ Q (.int i) H) ∨ ∃ k, xs = [.bl k] ∧ Q (.int (if k then 1 else 0)) H) := by
  intro pins s σ H xs us Q I r h
  rcases h with ⟨i, rfl, q⟩ | ⟨k, rfl, q⟩
  · obtain ⟨u, rfl, t, rfl⟩ := vals1 r
    exact call_int_int ⟨.int i, H, I, ⟨_, rfl⟩, q⟩
  · obtain ⟨u, rfl, r1⟩ := vals1 r
    cases r1
    exact call_int_bool ⟨.int (if k then 1 else 0), H, I.tok _, ⟨_, rfl⟩, q⟩
theorem call_bool1 : CallR X (.type "bool") (fun xs H Q => (∃ i, xs = [.int i] ∧ Q (.bl (i != 0)) H) ∨ ∃ k, xs = [.bl k] ∧ Q (.bl k) H) := by
  intro pins s σ H xs us Q I r h
  rcases h with ⟨i, rfl, q⟩ | ⟨k, rfl, q⟩
  · obtain ⟨u, rfl, t, rfl⟩ := vals1 r
    exact call_bool_int ⟨.bl (i != 0), H, I, rfl, q⟩
  · obtain ⟨u, rfl, r1⟩ := vals1 r
    cases r1
    exact call_bool_bool ⟨.bl k, H, I, rfl, q⟩
theorem call_str_int : CallR X (.type "str") (fun xs H Q => ∃ i, xs = [.int i] ∧ i.natAbs.log2 < 1920 ∧ Q (.str (toString i)) H) := by
  intro pins s σ H xs us Q I r h
  obtain ⟨i, rfl, hz, q⟩ := h
  obtain ⟨u, rfl, t, rfl⟩ := vals1 r
  exact PySem.P.str_of_int hz ⟨.str _, H, I.tok _, ⟨_, rfl⟩, q⟩
theorem call_ord : CallR X (.builtin "ord") (fun xs H Q => ∃ x, xs = [.str x] ∧ x.length = 1 ∧ Q (.int (x.cps.getD 0 0 : Nat)) H) := by
  intro pins s σ H xs us Q I r h
  obtain ⟨x, rfl, hz, q⟩ := h
  obtain ⟨u, rfl, t, rfl⟩ := vals1 r
  exact ord_of_one hz ⟨.int _, H, I.tok _, ⟨_, rfl⟩, q⟩
theorem call_chr : CallR X (.builtin "chr") (fun xs H Q => ∃ i, xs = [.int i] ∧ 0 ≤ i ∧ i ≤ 1114111 ∧ Q (.str ⟨#[i.toNat]⟩) H) := by
  intro pins s σ H xs us Q I r h
  obtain ⟨i, rfl, h0, h1, q⟩ := h
  obtain ⟨u, rfl, t, rfl⟩ := vals1 r
  exact chr_of_range h0 h1 ⟨.str _, H, I.tok _, ⟨_, rfl⟩, q⟩
/-- len of a str, a bytes, a list, a tuple -/
def LenV (K : PySem.W.Frag) (x : V) (H : Hp) (n : Nat) : Prop :=
  match x with
  | .str y => y.length ≤ sizeLine ∧ n = y.length
  | .byt y => y.size ≤ sizeLine ∧ n = y.size
  | .ref p => (∃ xs, SqL K H p xs ∧ n = xs.length) ∨ ∃ xs, SqT K H p xs ∧ n = xs.length
  | _ => False
theorem call_len : CallR X (.builtin "len") (fun xs H Q => ∃ x n, xs = [x] ∧ LenV X.K x H n ∧ Q (.int n) H) := by
  intro pins s σ H xs us Q I r h
  obtain ⟨x, n, rfl, e, q⟩ := h
  obtain ⟨u, rfl, rx⟩ := vals1 r
  have hl := line63
  have hs : sizeLine = 16777216 := sizeLine_eq
  cases x with
  | str y =>
    obtain ⟨t, rfl⟩ := rx
    obtain ⟨hy, e'⟩ : y.length ≤ sizeLine ∧ n = y.length := e
    subst e'
    exact len_str (by omega) ⟨.int _, H, I.tok _, ⟨_, rfl⟩, q⟩
  | byt y =>
    obtain ⟨t, rfl⟩ := rx
    obtain ⟨hy, e'⟩ : y.size ≤ sizeLine ∧ n = y.size := e
    subst e'
    exact PySem.W.len_bytes (by omega) ⟨.int _, H, I.tok _, ⟨_, rfl⟩, q⟩
  | ref p =>
    cases rx
    have e' : (∃ xs, SqL X.K H p xs ∧ n = xs.length) ∨ ∃ xs, SqT X.K H p xs ∧ n = xs.length := e
    rcases e' with ⟨xs, hx, e'⟩ | ⟨xs, hx, e'⟩
    · subst e'
      obtain ⟨its, r', pl, hz⟩ := I.list hx
      have hlen := r'.length
      exact Calls.call_len_list pl.isList (by simp only [List.size_toArray]; omega) ⟨.int xs.length, H, I.tok _, ⟨_, by simp only [List.size_toArray]; rw [hlen]⟩, q⟩
    · subst e'
      obtain ⟨its, r', pl, hz⟩ := I.tuple hx
      have hlen := r'.length
      exact len_tuple pl (by simp only [List.size_toArray]; omega) ⟨.int xs.length, H, I.tok _, ⟨_, by simp only [List.size_toArray]; rw [hlen]⟩, q⟩
  | _ => exact (show False from e).elim
/-- divmod: a new tuple -/
theorem call_divmod : CallR X (.builtin "divmod") (fun xs H Q => ∃ i j, xs = [.int i, .int j] ∧ CDiv i j ∧ ∀ p, H p = none → Q (.ref p) (upd H p (.tup [.int (i / j), .int (i % j)]))) := by
  intro pins s σ H xs us Q I r h
  obtain ⟨i, j, rfl, ⟨h1, h2⟩, q⟩ := h
  obtain ⟨u, w', rfl, ⟨t, rfl⟩, ⟨t', rfl⟩⟩ := vals2 r
  refine divmod_int (by omega) ?_ (.inl (PyProof.noPylong_small (by omega)))
  rw [Int.fdiv_eq_ediv_of_nonneg i (by omega), Int.fmod_eq_emod_of_nonneg i (by omega)]
  have hn : H s.heap.objs.size = none := I.hok.fresh (Nat.le_refl _)
  refine ⟨.ref s.heap.objs.size, _, ?_, rfl, q _ hn⟩
  refine I.laid (fun b o e => Heap.get?_push_of_some _ e) (Nat.le_refl _) ⟨by simp only [List.length_cons, List.length_nil]; rw [sizeLine_eq]; decide, [.int (i / j) s.toks, .int (i % j) (s.toks + 1)], .cons ⟨_, rfl⟩ (.cons ⟨_, rfl⟩ .nil), ?_⟩
  exact ⟨_, Heap.get?_push_size s.heap rfl, rfl, 0, rfl⟩
end
end L2

namespace L2
open PySem PySem.Spec PyProof.Rows

/-! ### an instance, its attributes a map -/
structure ObjM (h : Heap) (x dx C : Addr) (mA : Str → Option Value) : Prop where
  obj : h.get? x = some (PySem.W.instObj C dx)
  ns : h.Ns1 dx mA
  ne : dx ≠ x

theorem lookIn_ns {h : Heap} {dx : Addr} {mA : Str → Option Value} (n : h.Ns1 dx mA) : ∃ od, h.get? dx = some od ∧ ∀ name, PySem.W.lookIn name od = some (mA name) := by
  obtain ⟨o, es, ep, ho, hd, hk, _, hm⟩ := n
  refine ⟨o, ho, fun name => ?_⟩
  have e := hm name
  unfold nsFind findBy at e
  rw [← Array.find?_toList] at e
  unfold PySem.W.lookIn
  rw [hd]
  dsimp only
  split
  · rename_i y q
    rw [q] at e
    exact congrArg some e
  · rename_i q
    rw [q] at e
    have a : es.toList.any (·.refKey) = false := by
      rw [List.any_eq_false]
      intro y hy
      obtain ⟨z, t, hkey⟩ := hk y (Array.mem_toList_iff.mp hy)
      simp [DictEntry.refKey, hkey]
    have a' : ¬ es.toList.any (·.refKey) = true := by rw [a]; exact Bool.false_ne_true
    rw [if_neg a']
    exact congrArg some e

theorem ObjM.look {h : Heap} {x dx C : Addr} {mA : Str → Option Value} (I : ObjM h x dx C mA) : ∃ od, PySem.W.InstAt h x (PySem.W.instObj C dx) C (some od) ∧ ∀ name, PySem.W.lookIn name od = some (mA name) :=
  let ⟨od, ho, hl⟩ := lookIn_ns I.ns
  ⟨od, ⟨I.obj, rfl, rfl, ho⟩, hl⟩

section
variable {prog : Program} {w : World} {A : Around} {E : Value → Shared → Prop} {s : Shared} {K : PySem.W.Frag} {x dx C f : Addr} {mA : Str → Option Value} {name : Str} {v : Value}

theorem get_map {expr : Bool} {Q : Value → Shared → Prop} (X : K.In s.heap) (I : ObjM s.heap x dx C mA) (hg : PySem.W.plainGet K C name = true) (hh : PySem.W.hasDictIn K C = true)
    (ha : PySem.W.findIn K (.ref C) name = some none) (hv : mA name = some v) (hv' : PySem.W.handedIn v = true) (h : Q v { s with toks := s.toks + 1 }) :
    wpAny (model prog w) A (getAttr (.ref x) name expr) Q E s := by
  obtain ⟨od, J, hl⟩ := I.look
  exact PySem.W.get_value X J (PySem.W.plainGet_of hg).1 (PySem.W.findObj_own hh ha rfl (by rw [hl, hv])) hv' h

theorem get_const {expr : Bool} {a : Value} {Q : Value → Shared → Prop} (X : K.In s.heap) (I : ObjM s.heap x dx C mA) (hg : PySem.W.plainGet K C name = true) (hh : PySem.W.hasDictIn K C = true)
    (ha : PySem.W.findIn K (.ref C) name = some (some a)) (hn : PySem.W.specialIn K a "__get__" = some none) (hc : PySem.W.copiedNames.contains name = false) (hv : mA name = none) (hv' : PySem.W.handedIn a = true)
    (h : Q a { s with toks := s.toks + 1 }) : wpAny (model prog w) A (getAttr (.ref x) name expr) Q E s := by
  obtain ⟨od, J, hl⟩ := I.look
  exact PySem.W.get_value X J (PySem.W.plainGet_of hg).1 (PySem.W.findObj_cls hh ha hn hv' hc (by rw [hl, hv])) hv' h

theorem get_meth {pl : Sem Bool} {Q : Value × List Value → Shared → Prop} (X : K.In s.heap) (I : ObjM s.heap x dx C mA) (hg : PySem.W.plainGet K C name = true)
    (hf : PySem.W.findIn K (.ref C) name = some (some (.ref f))) (ht : PySem.W.isFn K (.ref f) = true) (hv : mA name = none) (h : Q (.ref f, [.ref x]) s) :
    wpAny (model prog w) A (getMethod (.ref x) name pl) Q E s := by
  obtain ⟨od, J, hl⟩ := I.look
  exact PySem.W.method_fn X J (PySem.W.plainGet_of hg).1 (PySem.W.plainGet_of hg).2 hf (beq_iff_eq.mp ht) (by show (PySem.W.lookIn name od).map (·.isSome) = some false; rw [hl, hv]; rfl) h

theorem set_map {ns : List Str} {Q : Unit → Shared → Prop} (X : K.In s.heap) (I : ObjM s.heap x dx C mA)
    (hs : PySem.W.findIn K (.ref C) "__setattr__" = some (some (.builtin "object.__setattr__"))) (hp : PySem.W.plainOver K C = true) (ht : PySem.W.takerIn K C name = some none) (hh : PySem.W.hasDictIn K C = true)
    (hw : PySem.Within mA ns) (hsz : ns.length ≤ sizeLine)
    (h : ∀ h', ObjM h' x dx C (fun y => if y = name then some v else mA y) → Heap.SameBut dx s.heap h' → Q () { s with heap := h', toks := s.toks + 2 }) :
    wpAny (model prog w) A (setAttr (.ref x) name v) Q E s := by
  obtain ⟨od, J, hl⟩ := I.look
  refine PySem.W.set_plain X J hs (PySem.W.osa_open (s := { s with toks := s.toks + 1 }) (r := none) X J hp ht fun b => ?_)
  obtain ⟨cd, hc, hd'⟩ := PySem.W.any_some hh
  have hx : s.heap.get? x = some ⟨.ref C, some dx, .plain, #[]⟩ := I.obj
  refine wpAny_bind (wpAny_pure (wpAny_bind (wpAny_bind (wpAny_loadPart hx (wpAny_bind (PySem.W.Looks.here (s := { s with toks := s.toks + 1 }) (PySem.W.looks_clsIn X hc) ?_))))))
  rw [hd']
  refine wpAny_pure (a := some dx) (wpAny_bind (wpAny_pure (wpAny_bind ?_)))
  refine wpAny_nsSet1 (s := { s with toks := s.toks + 1 }) I.ns fun h' hn2 hs2 => ?_
  obtain ⟨oD, esD, epD, hoD, hdD, hcD⟩ := hn2.count (PySem.Within.cons name v hw)
  refine wpAny_bind (wpAny_lookBehind hoD (by rw [hdD]; exact pastItsLine_dict (Nat.le_trans hcD (by rw [List.length_cons]; omega))) ?_)
  exact wpAny_pure (h _ ⟨(hs2.2 _ (Ne.symm I.ne)).trans I.obj, hn2, I.ne⟩ hs2)

/-- C(..): the dict at the heap's end, the instance behind it; then its __init__ -/
theorem make_map {R : Result → Shared → Prop} {vs : List Value} {kw : List (Str × Value)} (X : K.In s.heap) (hm : PySem.W.makesIn K C = true)
    (hi : PySem.W.findIn K (.ref C) "__init__" = some (some (.ref f))) (hf : PySem.W.typeIn K (.ref f) = some (.type "function"))
    (h : codeAny (model prog w) (A.under (.builtin "type.__call__" ⟨.ref C :: vs, kw⟩)) (.call (.ref f) ⟨.ref (s.heap.objs.size + 1) :: vs, kw⟩) (PySem.W.InitBack (s.heap.objs.size + 1) R)
      { s with heap := (s.heap.push PySem.W.emptyDict).push (PySem.W.instObj C s.heap.objs.size) }) :
    codeAny (model prog w) A (.call (.ref C) ⟨vs, kw⟩) R s := by
  obtain ⟨hh, g, d, t, os⟩ := s
  exact PySem.W.make_core (PySem.W.makes_of X hm) (PySem.W.looks_findIn X hi) (fun self => PySem.W.bind_fn X self hf) (.inl rfl) h
/-- C() where there is no __init__ but object's -/
theorem make_map0 {R : Result → Shared → Prop} (X : K.In s.heap) (hm : PySem.W.makesIn K C = true)
    (hi : PySem.W.findIn K (.ref C) "__init__" = some (some (.builtin "object.__init__")))
    (hb : ∀ self, PySem.W.Looks (model prog w) s.heap (bindSpecial (.builtin "object.__init__") self) (.builtin "object.__init__", [self]))
    (h : codeAny (model prog w) (A.under (.builtin "type.__call__" ⟨[.ref C], []⟩)) (.call (.builtin "object.__init__") ⟨[.ref (s.heap.objs.size + 1)], []⟩) (PySem.W.InitBack (s.heap.objs.size + 1) R)
      { s with heap := (s.heap.push PySem.W.emptyDict).push (PySem.W.instObj C s.heap.objs.size) }) :
    codeAny (model prog w) A (.call (.ref C) ⟨[], []⟩) R s := by
  obtain ⟨hh, g, d, t, os⟩ := s
  exact PySem.W.make_core (PySem.W.makes_of X hm) (PySem.W.looks_findIn X hi) hb (.inr ⟨rfl, rfl⟩) h
end

/-! ### the attributes as a list of pairs -/
def putF (f : Str) (v : V) : List (Str × V) → List (Str × V)
  | [] => [(f, v)]
  | (g, x) :: r => if g = f then (g, v) :: r else (g, x) :: putF f v r
theorem lookup_putF (f g : Str) (v : V) : ∀ fs : List (Str × V), (putF f v fs).lookup g = if g = f then some v else fs.lookup g
  | [] => by
    show List.lookup g [(f, v)] = _
    by_cases h : g = f
    · have hb : (g == f) = true := beq_iff_eq.mpr h
      simp only [List.lookup, hb, if_pos h]
    · have hb : (g == f) = false := beq_eq_false_iff_ne.mpr h
      simp only [List.lookup, hb, if_neg h]
  | (k, x) :: r => by
    have ih := lookup_putF f g v r
    rw [show putF f v ((k, x) :: r) = (if k = f then (k, v) :: r else (k, x) :: putF f v r) from rfl]
    by_cases hk : k = f
    · rw [if_pos hk]
      by_cases h : g = k
      · have hb : (g == k) = true := beq_iff_eq.mpr h
        simp only [List.lookup, hb, if_pos (h.trans hk)]
      · have hb : (g == k) = false := beq_eq_false_iff_ne.mpr h
        simp only [List.lookup, hb, if_neg (fun e : g = f => h (e.trans hk.symm))]
    · rw [if_neg hk]
      by_cases h : g = k
      · have hb : (g == k) = true := beq_iff_eq.mpr h
        simp only [List.lookup, hb, if_neg (fun e : g = f => hk (h.symm.trans e))]
      · have hb : (g == k) = false := beq_eq_false_iff_ne.mpr h
        simp only [List.lookup, hb]
        exact ih
theorem keys_putF (f : Str) (v : V) : ∀ fs : List (Str × V), f ∈ (putF f v fs).map (·.1) ∧ ∀ g, g ∈ fs.map (·.1) → g ∈ (putF f v fs).map (·.1)
  | [] => ⟨by simp [putF], fun g h => by simp at h⟩
  | (k, x) :: r => by
    obtain ⟨i1, i2⟩ := keys_putF f v r
    rw [show putF f v ((k, x) :: r) = (if k = f then (k, v) :: r else (k, x) :: putF f v r) from rfl]
    by_cases hk : k = f
    · rw [if_pos hk]
      subst hk
      exact ⟨by simp, fun g h => by simpa using h⟩
    · rw [if_neg hk]
      refine ⟨?_, fun g h => ?_⟩
      · rw [List.map_cons]
        exact List.mem_cons_of_mem _ i1
      · rw [List.map_cons] at h ⊢
        rcases List.mem_cons.mp h with e | e
        · exact List.mem_cons.mpr (.inl e)
        · exact List.mem_cons_of_mem _ (i2 g e)
theorem length_putF (f : Str) (v : V) : ∀ fs : List (Str × V), (putF f v fs).length ≤ fs.length + 1
  | [] => by simp [putF]
  | (k, x) :: r => by
    have ih := length_putF f v r
    rw [show putF f v ((k, x) :: r) = (if k = f then (k, v) :: r else (k, x) :: putF f v r) from rfl]
    by_cases hk : k = f
    · rw [if_pos hk, List.length_cons, List.length_cons]; omega
    · rw [if_neg hk, List.length_cons, List.length_cons]; omega

theorem RelO.some_of {v : V} {o : Option Value} (r : RelO (some v) o) : ∃ u, o = some u ∧ RelV v u := by
  cases o with
  | none => exact (show False from r).elim
  | some u => exact ⟨u, rfl, r⟩
theorem RelO.none_of {o : Option Value} (r : RelO none o) : o = none := by
  cases o with
  | none => rfl
  | some u => exact (show False from r).elim
theorem handed_of {v : V} {u : Value} (r : RelV v u) : PySem.W.handedIn u = true := by
  cases v with
  | non => cases (show u = Value.none from r); rfl
  | bl b => cases (show u = Value.bool b from r); rfl
  | int i => obtain ⟨t, e⟩ := (show ∃ t, u = Value.int i t from r); cases e; rfl
  | str x => obtain ⟨t, e⟩ := (show ∃ t, u = Value.str x t from r); cases e; rfl
  | byt b => obtain ⟨t, e⟩ := (show ∃ t, u = Value.bytes b t from r); cases e; rfl
  | flt b => obtain ⟨t, e⟩ := (show ∃ t, u = Value.float b t from r); cases e; rfl
  | ref a => cases (show u = Value.ref a from r); rfl
  | ty n => cases (show u = Value.type n from r); rfl

section
variable {P : Program} {w : World} {H H' : Hp} {h h' : Heap} {a C dx : Addr} {fs fs' : List (Str × V)}
theorem ins_get (hok : HOk P w H h) (e : H a = some (.ins C dx fs)) : ∃ mA, ObjM h a dx C mA ∧ (∀ f, RelO (fs.lookup f) (mA f)) ∧ PySem.Within mA (fs.map (·.1)) ∧ fs.length ≤ 1000 ∧ H dx = some (.own a) := by
  obtain ⟨d, z, ne, ob, mA, n, r, q⟩ := (show ObjOk P w H h a (.ins C dx fs) from hok a _ e)
  exact ⟨mA, ⟨ob, n, ne⟩, r, q, z, d⟩
end

/-! ### what of the text a class must have -/
structure Cls (K : PySem.W.Frag) (C : Addr) : Prop where
  pg : PySem.W.plainGet K C Str.empty = true
  hd : PySem.W.hasDictIn K C = true
  po : PySem.W.plainOver K C = true
  sa : PySem.W.findIn K (.ref C) "__setattr__" = some (some (.builtin "object.__setattr__"))
theorem Cls.get {K : PySem.W.Frag} {C : Addr} (c : Cls K C) (f : Str) : PySem.W.plainGet K C f = true := c.pg
/-- no class of it has the name -/
def NoAttr (K : PySem.W.Frag) (C : Addr) (f : Str) : Prop := PySem.W.findIn K (.ref C) f = some none
theorem NoAttr.taker {K : PySem.W.Frag} {C : Addr} {f : Str} (n : NoAttr K C f) : PySem.W.takerIn K C f = some none := by
  unfold PySem.W.takerIn
  rw [show PySem.W.findIn K (.ref C) f = some none from n]
  rfl
/-- a constant of the class -/
structure Con (K : PySem.W.Frag) (C : Addr) (f : Str) (v : V) (u : Value) : Prop where
  at_ : PySem.W.findIn K (.ref C) f = some (some u)
  rel : RelV v u
  get : PySem.W.specialIn K u "__get__" = some none
  cp : PySem.W.copiedNames.contains f = false
/-- a method: a plain def of the class or of one above it -/
structure Meth (K : PySem.W.Frag) (C : Addr) (m : Str) (f : Addr) : Prop where
  at_ : PySem.W.findIn K (.ref C) m = some (some (.ref f))
  fn : PySem.W.isFn K (.ref f) = true
  kp : PySem.W.keepIn K (.ref f) = true

section
variable {X : Cx} {pins : List (Addr × Obj)} {σ : St} {H : Hp} {s : Shared} {a C dx : Addr} {fs : List (Str × V)} {f : Str} {v : V} {A : Around} {E : Value → Shared → Prop}

theorem getattr_ok {b : Bool} {Q : Value → Shared → Prop} (I : Inv X pins σ H s) (e : H a = some (.ins C dx fs)) (c : Cls X.K C) (n : NoAttr X.K C f) (l : fs.lookup f = some v)
    (h : ∀ u s', Inv X pins σ H s' → RelV v u → Q u s') : wpAny (model X.prog X.w) A (getAttr (.ref a) f b) Q E s := by
  obtain ⟨mA, O, r, _, _, _⟩ := ins_get I.hok e
  obtain ⟨u, hu, ru⟩ := RelO.some_of (v := v) (o := mA f) (by rw [← l]; exact r f)
  exact get_map I.kIn O (c.get f) c.hd n hu (handed_of ru) (h u _ (I.tok _) ru)

theorem getcon_ok {b : Bool} {u : Value} {Q : Value → Shared → Prop} (I : Inv X pins σ H s) (e : H a = some (.ins C dx fs)) (c : Cls X.K C) (k : Con X.K C f v u) (l : fs.lookup f = none)
    (h : ∀ s', Inv X pins σ H s' → Q u s') : wpAny (model X.prog X.w) A (getAttr (.ref a) f b) Q E s := by
  obtain ⟨mA, O, r, _, _, _⟩ := ins_get I.hok e
  have hn : mA f = none := RelO.none_of (by rw [← l]; exact r f)
  exact get_const I.kIn O (c.get f) c.hd k.at_ k.get k.cp hn (handed_of k.rel) (h _ (I.tok _))

theorem getmeth_ok {m : Str} {g : Addr} {pl : Sem Bool} {Q : Value × List Value → Shared → Prop} (I : Inv X pins σ H s) (e : H a = some (.ins C dx fs)) (c : Cls X.K C) (k : Meth X.K C m g) (l : fs.lookup m = none)
    (h : Q (.ref g, [.ref a]) s) : wpAny (model X.prog X.w) A (getMethod (.ref a) m pl) Q E s := by
  obtain ⟨mA, O, r, _, _, _⟩ := ins_get I.hok e
  have hn : mA m = none := RelO.none_of (by rw [← l]; exact r m)
  exact get_meth I.kIn O (c.get m) k.at_ k.fn hn h

theorem setattr_ok {y : V} {u : Value} {Q : Unit → Shared → Prop} (I : Inv X pins σ H s) (e : H a = some (.ins C dx fs)) (c : Cls X.K C) (n : NoAttr X.K C f) (hl : fs.length < 1000) (ry : RelV y u)
    (h : ∀ s', Inv X pins σ (upd H a (.ins C dx (putF f y fs))) s' → Q () s') : wpAny (model X.prog X.w) A (setAttr (.ref a) f u) Q E s := by
  obtain ⟨mA, O, r, wi, _, ho⟩ := ins_get I.hok e
  have hz : (fs.map (·.1)).length ≤ sizeLine := by rw [List.length_map, sizeLine_eq]; omega
  refine set_map I.kIn O c.sa c.po n.taker c.hd wi hz fun h' O' sb => h _ ?_
  have hd : ∃ o, h'.get? dx = some o := let ⟨o, _, _, e', _⟩ := O'.ns; ⟨o, e'⟩
  refine I.write (x := a) (e := dx) (by rw [e]; exact True.intro) (.inr ho) (fun b q hb z => (sb.2 b hb).trans z) hd ?_
  refine ⟨by rw [upd_ne O.ne]; exact ho, ?_, O.ne, O'.obj, _, O'.ns, fun g => ?_, fun g hg => ?_⟩
  · have := length_putF f y fs; omega
  · show RelO ((putF f y fs).lookup g) (if g = f then some u else mA g)
    rw [lookup_putF]
    by_cases q : g = f
    · rw [if_pos q, if_pos q]; exact ry
    · rw [if_neg q, if_neg q]; exact r g
  · by_cases q : g = f
    · rw [q]; exact (keys_putF f y fs).1
    · refine (keys_putF f y fs).2 g (wi g fun z => hg ?_)
      show (if g = f then some u else mA g) = none
      rw [if_neg q]; exact z

/-- a new instance, tracked, without attributes -/
theorem Inv.made (I : Inv X pins σ H s) : Inv X pins σ (upd (upd H s.heap.objs.size (.own (s.heap.objs.size + 1))) (s.heap.objs.size + 1) (.ins C s.heap.objs.size []))
    { s with heap := (s.heap.push PySem.W.emptyDict).push (PySem.W.instObj C s.heap.objs.size) } := by
  have e1 : (s.heap.push PySem.W.emptyDict).get? s.heap.objs.size = some PySem.W.emptyDict := Heap.get?_push_size s.heap rfl
  have e2 : ((s.heap.push PySem.W.emptyDict).push (PySem.W.instObj C s.heap.objs.size)).get? (s.heap.objs.size + 1) = some (PySem.W.instObj C s.heap.objs.size) := by
    have := Heap.get?_push_size (s.heap.push PySem.W.emptyDict) (o := PySem.W.instObj C s.heap.objs.size) rfl
    rwa [Heap.size_push] at this
  have e3 : (s.heap.push PySem.W.emptyDict).Ns s.heap.objs.size (fun _ => none) := ⟨PySem.W.emptyDict, #[], _, e1, rfl, (fun e he => absurd he (by simp)), fun _ => rfl⟩
  have I1 := I.laid (a := s.heap.objs.size) (o := .own (s.heap.objs.size + 1)) (h' := s.heap.push PySem.W.emptyDict) (t' := s.toks) (fun b u q => Heap.get?_push_of_some _ q) (Nat.le_refl _) ⟨_, e1⟩
  refine I1.laid (a := s.heap.objs.size + 1) (o := .ins C s.heap.objs.size []) (t' := s.toks) (fun b u q => Heap.get?_push_of_some _ q) (Nat.le_of_eq (Heap.size_push _ _)) ?_
  have ne : s.heap.objs.size ≠ s.heap.objs.size + 1 := Nat.ne_of_lt (Nat.lt_succ_self _)
  refine ⟨by rw [upd_ne ne, upd_same], Nat.zero_le _, ne, e2, fun _ => none, (Heap.Ns1.of_empty e3).at fun o q => Heap.get?_push_of_some _ q, fun _ => True.intro, fun y hy => absurd rfl hy⟩

/-- e.f where nothing but the object is asked: through attributeBase (super) and the last hold -/
theorem attr_of {prog : Program} {w : World} {env : Env} {e : Expr} {f : Str} {pos : Pos} {s : Shared} {Q : Value → Shared → Prop} (hb : attributeBase e f env (eval e env) = eval e env)
    (h : wpAny (model prog w) A (eval e env) (fun o s₁ => wpAny (model prog w) A (getAttr o f true) Q E s₁) E s) : wpAny (model prog w) A (eval (.Attribute e f pos) env) Q E s :=
  Attribute_any_ h (by rw [arm_eval_Attribute, hb])
end

/-! ### readings and rules -/
/-- e.f, an attribute of the instance -/
def tFld (K : PySem.W.Frag) (ta : TE) (f : Str) : TE := fun σ H Q => ta σ H fun x H1 => ∃ a C dx fs v, x = .ref a ∧ H1 a = some (.ins C dx fs) ∧ Cls K C ∧ NoAttr K C f ∧ fs.lookup f = some v ∧ Q v H1
/-- e.f, a constant of the class -/
def tCon (K : PySem.W.Frag) (ta : TE) (f : Str) : TE := fun σ H Q => ta σ H fun x H1 => ∃ a C dx fs v u, x = .ref a ∧ H1 a = some (.ins C dx fs) ∧ Cls K C ∧ Con K C f v u ∧ fs.lookup f = none ∧ Q v H1
/-- e.f = value -/
def sFld (K : PySem.W.Frag) (ta tv : TE) (f : Str) : TS := fun D σ H => tv σ H fun y H1 => ta σ H1 fun x H2 => ∃ a C dx fs, x = .ref a ∧ H2 a = some (.ins C dx fs) ∧ Cls K C ∧ NoAttr K C f ∧ fs.length < 1000 ∧
  D.nx σ (upd H2 a (.ins C dx (putF f y fs)))
/-- an augmented operator on two values -/
def InOp (X : Cx) (op : Operator) (rd : V → V → Hp → VK → Prop) : Prop :=
  ∀ (pins : List (Addr × Obj)) (s : Shared) (σ : St) (H : Hp) (x y : V) (u v : Value) (Q : VK), Inv X pins σ H s → RelV x u → RelV y v → rd x y H Q → wpAny (model X.prog X.w) X.A (inplaceOp op u v) (EP X pins σ Q) X.xe s
/-- e.f op= value -/
def sFldAug (K : PySem.W.Frag) (ta tv : TE) (rd : V → V → Hp → VK → Prop) (f : Str) : TS := fun D σ H => ta σ H fun x H1 => ∃ a C dx fs v, x = .ref a ∧ H1 a = some (.ins C dx fs) ∧ Cls K C ∧ NoAttr K C f ∧ fs.lookup f = some v ∧
  tv σ H1 fun y H2 => rd v y H2 fun z H3 => ∃ dx' fs', H3 a = some (.ins C dx' fs') ∧ fs'.length < 1000 ∧ D.nx σ (upd H3 a (.ins C dx' (putF f z fs')))

section
variable {X : Cx} {o e value : Expr} {f : Str} {pos pos' tpos : Pos} {ta tv : TE}
theorem pe_fld (he : PE X e ta) (hb : attributeBase e f X.env (eval e X.env) = eval e X.env) : PE X (.Attribute e f pos) (tFld X.K ta f) := by
  intro pins s σ H Q I h
  refine attr_of hb (thn (he pins s σ H _ I h) fun u s1 ⟨x, H1, I1, rx, a, C, dx, fs, v, ex, ea, c, n, l, q⟩ => ?_)
  subst ex
  obtain rfl : u = Value.ref a := rx
  exact getattr_ok I1 ea c n l fun u' s2 I2 ru => ⟨v, H1, I2, ru, q⟩
theorem pe_con (he : PE X e ta) (hb : attributeBase e f X.env (eval e X.env) = eval e X.env) : PE X (.Attribute e f pos) (tCon X.K ta f) := by
  intro pins s σ H Q I h
  refine attr_of hb (thn (he pins s σ H _ I h) fun u s1 ⟨x, H1, I1, rx, a, C, dx, fs, v, u0, ex, ea, c, k, l, q⟩ => ?_)
  subst ex
  obtain rfl : u = Value.ref a := rx
  exact getcon_ok I1 ea c k l fun s2 I2 => ⟨v, H1, I2, k.rel, q⟩
theorem ps_fld (ha : PE X o ta) (hv : PE X value tv) (hs : swapsWith value (some (.Attribute o f pos')) pos.line X.env = pure false) : PS X (.Assign [.Attribute o f pos'] value pos) (sFld X.K ta tv f) := by
  intro pins s σ H D I h
  refine plainObj_wpAny_Assign_Attribute (thn (hv pins s σ H _ I h) fun u s1 ⟨y, H1, I1, ry, q⟩ => thn (ha pins s1 σ H1 _ I1 q) fun ov s2 ⟨x, H2, I2, rx, a, C, dx, fs, ex, ea, c, n, l, q2⟩ => ?_) hs
  subst ex
  obtain rfl : ov = Value.ref a := rx
  exact setattr_ok I2 ea c n l ry fun s3 I3 => ⟨σ, _, I3, q2⟩
theorem ps_fldaug {op : Operator} {rd : V → V → Hp → VK → Prop} (ha : PE X o ta) (hv : PE X value tv) (hop : InOp X op rd) : PS X (.AugAssign (.Attribute o f tpos) op value pos) (sFldAug X.K ta tv rd f) := by
  intro pins s σ H D I h
  refine wpAny_AugAssign_AttributeAny (thn (ha pins s σ H _ I h) fun ov s1 ⟨x, H1, I1, rx, a, C, dx, fs, v, ex, ea, c, n, l, q⟩ => ?_)
  subst ex
  obtain rfl : ov = Value.ref a := rx
  refine getattr_ok I1 ea c n l fun u s2 I2 ru => thn (hv pins s2 σ H1 _ I2 q) fun w3 s3 ⟨y, H2, I3, ry, q3⟩ => thn (hop pins s3 σ H2 v y u w3 _ I3 ru ry q3) fun w4 s4 ⟨z, H3, I4, rz, dx', fs', ea', l', q4⟩ => ?_
  exact setattr_ok I4 ea' c n l' rz fun s5 I5 => ⟨σ, _, I5, q4⟩
def rAdd : V → V → Hp → VK → Prop := fun x y H Q => ∃ i j, x = .int i ∧ y = .int j ∧ Q (.int (i + j)) H
def rSub : V → V → Hp → VK → Prop := fun x y H Q => ∃ i j, x = .int i ∧ y = .int j ∧ Q (.int (i - j)) H
theorem in_add : InOp X .Add rAdd := by
  rintro pins s σ H x y u v Q I rx ry ⟨i, j, rfl, rfl, q⟩
  obtain ⟨t, rfl⟩ := (show ∃ t, u = Value.int i t from rx)
  obtain ⟨t', rfl⟩ := (show ∃ t', v = Value.int j t' from ry)
  exact PyProof.Rows.iadd_int ⟨.int (i + j), H, I.tok _, ⟨_, rfl⟩, q⟩
theorem in_sub : InOp X .Sub rSub := by
  rintro pins s σ H x y u v Q I rx ry ⟨i, j, rfl, rfl, q⟩
  obtain ⟨t, rfl⟩ := (show ∃ t, u = Value.int i t from rx)
  obtain ⟨t', rfl⟩ := (show ∃ t', v = Value.int j t' from ry)
  exact PyProof.Rows.isub_int ⟨.int (i - j), H, I.tok _, ⟨_, rfl⟩, q⟩

/-- what is between an instance and its method: the tree of a method call -/
theorem methcall_of {pl : Sem Bool} {m : Str} {apos : Pos} {args : List Expr} {pins : List (Addr × Obj)} {s : Shared} {σ : St} {H : Hp} {Q : Value → Shared → Prop} {te : TE} (he : PE X e te) (I : Inv X pins σ H s)
    (h : te σ H fun x H1 => ∃ a C dx fs g, x = .ref a ∧ H1 a = some (.ins C dx fs) ∧ Cls X.K C ∧ Meth X.K C m g ∧ fs.lookup m = none ∧
      ∀ s1, Inv X pins σ H1 s1 → wpAny (model X.prog X.w) X.A (callWith pos (.ref g) [.ref a] (backTo pos (starEach args X.env)) (backToKw pos (keywordEach [] X.env))) Q X.xe s1)
    (ht : eval (.Call (.Attribute e m apos) args [] pos) X.env = (do
      let ov ← eval e X.env
      standAt apos.atName
      let (f, first) ← holding [ov] (getMethod ov m pl)
      callWith pos f first (backTo pos (starEach args X.env)) (backToKw pos (keywordEach [] X.env)))) :
    wpAny (model X.prog X.w) X.A (eval (.Call (.Attribute e m apos) args [] pos) X.env) Q X.xe s := by
  refine PySem.W.methodCall_KW (pl := pl) (thn (he pins s σ H _ I h) fun u s1 ⟨x, H1, I1, rx, a, C, dx, fs, g, ex, ea, c, k, l, q⟩ => ?_) ht
  subst ex
  obtain rfl : u = Value.ref a := rx
  exact getmeth_ok I1 ea c k l (q s1 I1)
end

/-! ### isinstance -/
section
variable {X : Cx} {pins : List (Addr × Obj)} {σ : St} {H : Hp} {s : Shared} {A : Around} {E : Value → Shared → Prop} {Q : Value → Shared → Prop} {c : Value} {b : Bool}
/-- the type of a value, as the fragment's deciders take it; for an instance its class -/
inductive TyOf (K : PySem.W.Frag) (H : Hp) : V → Value → Prop where
  | non : TyOf K H .non (.type "NoneType")
  | bl (x : Bool) : TyOf K H (.bl x) (.type "bool")
  | int (i : Int) : TyOf K H (.int i) (.type "int")
  | str (x : Str) : TyOf K H (.str x) (.type "str")
  | flt (x : UInt64) : TyOf K H (.flt x) (.type "float")
  | lst {a : Addr} {xs : List V} (e : H a = some (.lst xs)) : TyOf K H (.ref a) (.type "list")
  | frz {a : Addr} {o : Obj} {xs : List V} (e : H a = some (.frz o (.lst xs))) : TyOf K H (.ref a) (.type "list")
  | tup {a : Addr} {xs : List V} (e : H a = some (.tup xs)) : TyOf K H (.ref a) (.type "tuple")
  | dK {a : Addr} {kvs : List (Key × V)} (e : H a = some (.dK kvs)) : TyOf K H (.ref a) (.type "dict")
  | dT {a : Addr} {kvs : List (List Key × V)} (e : H a = some (.dT kvs)) : TyOf K H (.ref a) (.type "dict")
  | ins {a C dx : Addr} {fs : List (Str × V)} (e : H a = some (.ins C dx fs)) (cl : Cls K C) (ha : PySem.W.findIn K (.ref C) "__class__" = some (some (.builtin "object.__class__")))
      (hn : PySem.W.specialIn K (.builtin "object.__class__") "__get__" = some (some (.builtin "getset_descriptor.__get__"))) (htk : PySem.W.takesIn K (.builtin "object.__class__") = some true)
      (hm : PySem.W.mroIn K C (.type "object") = some true) : TyOf K H (.ref a) (.ref C)
/-- isinstance(x, c) for one class c, a built-in or an own one: kitOne's answer -/
theorem isinst_ok {x : V} {u t : Value} (I : Inv X pins σ H s) (rx : RelV x u) (ty : TyOf X.K H x t) (e : PySem.W.kitOne X.K t c = some b) (h : ∀ tk, Q (.bool b) { s with toks := tk }) :
    wpAny (model X.prog X.w) A (call (.builtin "isinstance") [u, c]) Q E s := by
  cases ty with
  | non => cases (show u = Value.none from rx); exact PySem.W.kia_one PySem.W.kitx_none I.kIn True.intro e (fun z => nomatch z) h
  | bl y => cases (show u = Value.bool y from rx); exact PySem.W.kia_one PySem.W.kitx_bool I.kIn True.intro e (fun z => nomatch z) h
  | int i => obtain ⟨t, q⟩ := (show ∃ t, u = Value.int i t from rx); cases q; exact PySem.W.kia_one PySem.W.kitx_int I.kIn True.intro e (fun z => nomatch z) h
  | str y => obtain ⟨t, q⟩ := (show ∃ t, u = Value.str y t from rx); cases q; exact PySem.W.kia_one PySem.W.kitx_str I.kIn True.intro e (fun z => nomatch z) h
  | flt y => obtain ⟨t, q⟩ := (show ∃ t, u = Value.float y t from rx); cases q; exact PySem.W.kia_one PySem.W.kitx_float I.kIn True.intro e (fun z => nomatch z) h
  | @lst a xs ea =>
    cases (show u = Value.ref a from rx)
    obtain ⟨_, _, n, _, h1⟩ := (show ObjOk X.prog X.w H s.heap a (.lst xs) from I.hok a _ ea)
    exact PySem.W.kia_one PySem.W.kitx_list I.kIn ⟨_, h1, rfl⟩ e (fun z => nomatch z) h
  | @frz a ob xs ea =>
    cases (show u = Value.ref a from rx)
    obtain ⟨_, _, _, n, _, h1⟩ := (show ObjOk X.prog X.w H s.heap a (.frz ob (.lst xs)) from I.hok a _ ea)
    exact PySem.W.kia_one PySem.W.kitx_list I.kIn ⟨_, h1, rfl⟩ e (fun z => nomatch z) h
  | @tup a xs ea =>
    cases (show u = Value.ref a from rx)
    obtain ⟨_, _, _, p⟩ := (show ObjOk X.prog X.w H s.heap a (.tup xs) from I.hok a _ ea)
    obtain ⟨o, h1, h2, _⟩ := p
    exact PySem.W.kia_one PySem.W.kitx_tuple I.kIn ⟨o, h1, h2⟩ e (fun z => nomatch z) h
  | @dK a kvs ea =>
    cases (show u = Value.ref a from rx)
    obtain ⟨_, _, vs, _, p⟩ := (show ObjOk X.prog X.w H s.heap a (.dK kvs) from I.hok a _ ea)
    obtain ⟨o, es, ep, h1, h2, _⟩ := p
    exact PySem.W.kia_one PySem.W.kitx_dict I.kIn ⟨o, h1, h2.1⟩ e (fun z => nomatch z) h
  | @dT a kvs ea =>
    cases (show u = Value.ref a from rx)
    obtain ⟨_, _, xs, _, o, es, ep, h1, h2, _⟩ := (show ObjOk X.prog X.w H s.heap a (.dT kvs) from I.hok a _ ea)
    exact PySem.W.kia_one PySem.W.kitx_dict I.kIn ⟨o, h1, h2.1⟩ e (fun z => nomatch z) h
  | @ins a C dx fs ea cl ha hn htk hm =>
    cases (show u = Value.ref a from rx)
    obtain ⟨mA, O, _⟩ := ins_get I.hok ea
    obtain ⟨od, J, _⟩ := O.look
    exact PySem.W.kia_one (PySem.W.kitx_own (cl.get _) cl.hd ha hn htk hm) I.kIn J e (fun z => nomatch z) h
end
end L2

namespace L2
open PySem PySem.Spec PyProof.Rows

/-! ### room -/
structure Room (k : Nat) (A : Around) : Prop where
  hd : A.handled = none
  dp : A.depth + 3 * k + 5 < recursionLimit
  un : A.units + 16 * k + 200 < cLine
theorem Room.mono {j k : Nat} {A : Around} (r : Room k A) (h : j ≤ k) : Room j A := ⟨r.hd, by have := r.dp; omega, by have := r.un; omega⟩
theorem Room.deeper {k : Nat} {A : Around} (r : Room (k + 1) A) (env : Env) : Room k (A.deeper env) :=
  ⟨r.hd, by have := r.dp; show A.depth + 1 + 3 * k + 5 < _; omega, by have := r.un; show A.units + 3 + 16 * k + 200 < _; omega⟩
theorem Room.in1 {k : Nat} {A : Around} (r : Room (k + 1) A) : Room k A.in1 :=
  ⟨r.hd, by have := r.dp; show A.depth + 3 * k + 5 < _; omega, by have := r.un; show A.units + 1 + 16 * k + 200 < _; omega⟩
theorem make_depth {A : Around} {C : Addr} {us : List Value} {kw : List (Str × Value)} : (A.under (.builtin "type.__call__" ⟨.ref C :: us, kw⟩)).depth = A.depth + 1 := by
  first | rfl | simp [Around.under, Code.weight, Code.isCreation, Code.isGuard, Code.isCaller, Code.frames, Code.isFrame, guardIds]
theorem make_units {A : Around} {C : Addr} {us : List Value} {kw : List (Str × Value)} : (A.under (.builtin "type.__call__" ⟨.ref C :: us, kw⟩)).units = A.units + 1 := by
  first | rfl | simp [Around.under, Code.cUnits, Code.frames, Code.isFrame]
theorem Room.make {k : Nat} {A : Around} (r : Room (k + 1) A) (C : Addr) (us : List Value) (kw : List (Str × Value)) : Room k (A.under (.builtin "type.__call__" ⟨.ref C :: us, kw⟩)) :=
  ⟨r.hd, by have := r.dp; rw [make_depth]; omega, by have := r.un; rw [make_units]; omega⟩
theorem Room.depth {k : Nat} {A : Around} (r : Room k A) : A.depth < recursionLimit := by have := r.dp; omega
theorem Room.units {k : Nat} {A : Around} (r : Room k A) : A.units + 64 < cLine := by have := r.un; omega
theorem Room.units0 {k : Nat} {A : Around} (r : Room k A) : A.units < cLine := by have := r.un; omega

/-! ### argument lists and displays -/
def tNil : TA := fun _ H Q => Q [] H
def tCons (ta : TE) (tr : TA) : TA := fun σ H Q => ta σ H fun x H1 => tr σ H1 fun xs H2 => Q (x :: xs) H2
section
variable {X : Cx} {e : Expr} {es : List Expr} {te : TE} {t : TA} {pos : Pos}
theorem pa_nil : PA X [] tNil := fun _ _ _ _ H Q I h => Calls.spliced_nil ⟨[], H, I, .nil, h⟩
theorem pa_cons (ha : PE X e te) (hr : PA X es t) (hs : starEach (e :: es) X.env = (false, eval e X.env) :: starEach es X.env := by rfl) : PA X (e :: es) (tCons te t) := by
  intro pos pins s σ H Q I h
  rw [hs]
  show wpAny _ _ (spliced ((false, eval e X.env) :: backTo pos (starEach es X.env))) _ _ s
  refine Calls.spliced_cons (thn (ha pins s σ H _ I h) fun u s1 ⟨x, H1, I1, r1, q1⟩ => ?_)
  exact thn (hr pos pins s1 σ H1 _ I1 q1) fun us s2 ⟨xs, H2, I2, r2, q2⟩ => ⟨x :: xs, H2, I2, .cons r1 r2, q2⟩

/-- a tuple, a list of written items -/
def tTup (t : TA) : TE := fun σ H Q => t σ H fun xs H1 => xs.length ≤ sizeLine ∧ ∀ p, H1 p = none → Q (.ref p) (upd H1 p (.tup xs))
def tLst (t : TA) : TE := fun σ H Q => t σ H fun xs H1 => xs.length ≤ sizeLine ∧ ∀ p, H1 p = none → Q (.ref p) (upd H1 p (.lst xs))
theorem pe_tup {x1} (h : PA X es t) : PE X (.Tuple es x1 pos) (tTup t) := by
  intro pins s σ H Q I hq
  refine wpAny_Tuple_spliced (thn (h pos pins s σ H _ I hq) fun us s1 ⟨xs, H1, I1, r, z, q⟩ => ⟨by rw [← r.length]; exact z, ?_⟩)
  have hf : H1 s1.heap.objs.size = none := I1.hok.fresh (Nat.le_refl _)
  refine ⟨.ref s1.heap.objs.size, upd H1 s1.heap.objs.size (.tup xs), I1.laid (t' := s1.toks) (fun b u e => Heap.get?_push_of_some _ e) (Nat.le_refl _) ?_, rfl, q _ hf⟩
  exact ⟨z, us, r, ⟨_, Heap.get?_push_size _ rfl, rfl, _, rfl⟩⟩
theorem pe_lst (h : PA X es t) : PE X (.List es pos) (tLst t) := by
  intro pins s σ H Q I hq
  refine wpAny_List_spliced (thn (h pos pins s σ H _ I hq) fun us s1 ⟨xs, H1, I1, r, z, q⟩ => ⟨by rw [← r.length]; exact z, ?_⟩)
  have hf : H1 s1.heap.objs.size = none := I1.hok.fresh (Nat.le_refl _)
  refine ⟨.ref s1.heap.objs.size, upd H1 s1.heap.objs.size (.lst xs), I1.laid (t' := s1.toks) (fun b u e => Heap.get?_push_of_some _ e) (Nat.le_refl _) ?_, rfl, q _ hf⟩
  exact ⟨z, us, 0, r, Heap.get?_push_size _ rfl⟩
end

/-! ### what a def promises -/
/-- a def's promise: the bound arguments in the parameters' order, the heap, the wanted end, the wanted exception -/
abbrev Sp := List V → Hp → VK → XK → Prop
/-- how an exception lies behind a call (file 08 gives it): the callers' frames, abstract heap and state ahead of the call, the wish, the exception, the state -/
abbrev CXT := List Env → Hp → Shared → XK → Value → Shared → Prop

/-- the state at a call -/
structure Env0 (P : Program) (w : World) (K : PySem.W.Frag) (mg : Str → Option Value) (base : Heap) (A : Around) (outer : List Env) (s : Shared) (H : Hp) : Prop where
  frames : A.frames = some outer
  mod : Mod K mg base
  bs : ∀ b o, base.get? b = some o → s.heap.get? b = some o ∧ H b = none
  bsz : base.objs.size ≤ s.heap.objs.size
  funs : s.heap.FunFrames base outer
  frf : ∀ b ∈ frs outer, H b = none
  hok : HOk P w H s.heap
  bare : AllBare s.gens
/-- a call's end -/
def CE (outer : List Env) (P : Program) (w : World) (H : Hp) (s : Shared) (Q : VK) (u : Value) (s' : Shared) : Prop :=
  ∃ v H', s'.os = s.os ∧ AllBare s'.gens ∧ Un (frs outer) [] H H' s.heap s'.heap ∧ HOk P w H' s'.heap ∧ RelV v u ∧ Q v H'
def CR (CX : CXT) (outer : List Env) (P : Program) (w : World) (H : Hp) (s : Shared) (Q : VK) (E : XK) (r : Result) (s' : Shared) : Prop :=
  match r with
  | .ok (.ret u) => CE outer P w H s Q u s'
  | .ok _ => False
  | .error e => CX outer H s E e s'
structure FnOk (P : Program) (w : World) (K : PySem.W.Frag) (mg : Str → Option Value) (base : Heap) (CX : CXT) (k : Nat) (f : Addr) (fd : FuncData) (ps : List Str) (sp : Sp) : Prop where
  len : ∀ vs H Q E, sp vs H Q E → vs.length = ps.length
  run : ∀ (A : Around) (outer : List Env) (s : Shared) (H : Hp) (args : Args) (us : List Value) (vs : List V) (Q : VK) (E : XK), Room k A → Env0 P w K mg base A outer s H → BindsTo s fd args (ps.zip us) → Vals vs us → sp vs H Q E →
    codeAny (model P w) A (.call (.ref f) args) (CR CX outer P w H s Q E) s
theorem FnOk.mono {P : Program} {w : World} {K : PySem.W.Frag} {mg : Str → Option Value} {base : Heap} {CX : CXT} {j k : Nat} {f : Addr} {fd : FuncData} {ps : List Str} {sp : Sp} (F : FnOk P w K mg base CX j f fd ps sp) (h : j ≤ k) :
    FnOk P w K mg base CX k f fd ps sp := ⟨F.len, fun A outer s H args us vs Q E hr => F.run A outer s H args us vs Q E (hr.mono h)⟩
/-- a weaker promise -/
theorem FnOk.imp {P : Program} {w : World} {K : PySem.W.Frag} {mg : Str → Option Value} {base : Heap} {CX : CXT} {k : Nat} {f : Addr} {fd : FuncData} {ps : List Str} {sp sp' : Sp} (F : FnOk P w K mg base CX k f fd ps sp)
    (h : ∀ vs H Q E, sp' vs H Q E → sp vs H Q E) : FnOk P w K mg base CX k f fd ps sp' :=
  ⟨fun vs H Q E q => F.len vs H Q E (h _ _ _ _ q), fun A outer s H args us vs Q E hr he hb hv hs => F.run A outer s H args us vs Q E hr he hb hv (h _ _ _ _ hs)⟩

theorem Env0.make {P : Program} {w : World} {K : PySem.W.Frag} {mg : Str → Option Value} {base : Heap} {A : Around} {outer : List Env} {s : Shared} {H : Hp} (e : Env0 P w K mg base A outer s H) (C : Addr) (us : List Value) (kw : List (Str × Value)) :
    Env0 P w K mg base (A.under (.builtin "type.__call__" ⟨.ref C :: us, kw⟩)) outer s H := ⟨by first | exact e.frames | (simpa [Around.under, Code.envs, Code.isFrame, pushEnvs] using e.frames), e.mod, e.bs, e.bsz, e.funs, e.frf, e.hok, e.bare⟩
theorem Env0.in1 {P : Program} {w : World} {K : PySem.W.Frag} {mg : Str → Option Value} {base : Heap} {A : Around} {outer : List Env} {s : Shared} {H : Hp} (e : Env0 P w K mg base A outer s H) :
    Env0 P w K mg base A.in1 outer s H := ⟨e.frames, e.mod, e.bs, e.bsz, e.funs, e.frf, e.hok, e.bare⟩

section
variable {X : Cx} {pins : List (Addr × Obj)} {σ : St} {H : Hp} {s s' : Shared}
/-- from a body: what a callee wants -/
theorem Inv.env0 (I : Inv X pins σ H s) : Env0 X.prog X.w X.K X.mg X.base X.A X.stack s H :=
  ⟨I.ok.frames, I.ok.mod, I.bs, Nat.le_trans I.ok.bsz I.sz, I.stack, I.stkFree, I.hok, I.bare⟩
/-- behind a call -/
theorem Inv.after {Q : VK} {u : Value} (I : Inv X pins σ H s) (h : CE X.stack X.prog X.w H s Q u s') : EP X pins σ Q u s' := by
  obtain ⟨v, H', os, bare, un, hok, r, q⟩ := h
  obtain ⟨hh, g, d, t, os'⟩ := s'
  obtain rfl : os' = s.os := os
  exact ⟨v, H', I.call (h' := hh) (g' := g) (d' := d) (t' := t) (ch := []) un hok bare (fun b z => absurd z (by simp)), r, q⟩
end

/-! ### calls -/
/-- f(..): the written arguments, then the defaults dvs; E: what is wanted of an exception -/
def tCall (sp : Sp) (dvs : List V) (E : XK) (t : TA) : TE := fun σ H Q => t σ H fun vs H1 => sp (vs ++ dvs) H1 Q E
/-- o.m(..) of an instance of the class at C -/
def tMeth (C : Addr) (m : Str) (sp : Sp) (dvs : List V) (E : XK) (ta : TE) (t : TA) : TE := fun σ H Q => ta σ H fun x H1 => ∃ a dx fs, x = .ref a ∧ H1 a = some (.ins C dx fs) ∧ fs.lookup m = none ∧
  t σ H1 fun vs H2 => sp (x :: (vs ++ dvs)) H2 Q E
/-- C(..): a new instance and its dict, then __init__ -/
def tMake (C : Addr) (sp : Sp) (dvs : List V) (E : XK) (t : TA) : TE := fun σ H Q => t σ H fun vs H1 => ∀ x dx, H1 x = none → H1 dx = none → dx ≠ x →
  sp (.ref x :: (vs ++ dvs)) (upd (upd H1 dx (.own x)) x (.ins C dx [])) (fun v H2 => v = .non ∧ Q (.ref x) H2) E

/-- how the parameters are bound: us the positional arguments, kw the keywords' values by name, ds the defaults that fill up -/
def Binds (K : PySem.W.Frag) (fd : FuncData) (ps : List Str) (ds : List Value) : Prop :=
  ∀ (s : Shared) (us : List Value), K.In s.heap → (us ++ ds).length = ps.length → BindsTo s fd ⟨us, []⟩ (ps.zip (us ++ ds))
/-- every parameter is given -/
theorem Binds.all {K : PySem.W.Frag} {fd : FuncData} {ps : List Str} (h : ∀ us : List Value, us.length = ps.length → bindArgs fd ⟨us, []⟩ = pure (ps.zip us)) : Binds K fd ps [] := fun s us _ hl => by
  rw [List.append_nil] at hl ⊢
  exact .of_eq (h us hl)

/-- an exception of a callee reaches what this body wants of exceptions -/
def Passes (CX : CXT) (X : Cx) (E : XK) : Prop := ∀ (pins : List (Addr × Obj)) (σ : St) (H : Hp) (s : Shared) (e : Value) (s' : Shared), Inv X pins σ H s → CX X.stack H s E e s' → X.xe e s'

section
variable {X : Cx} {CX : CXT} {k : Nat} {f C : Addr} {fd : FuncData} {ps : List Str} {sp : Sp} {dvs : List V} {ds : List Value} {E : XK} {x m : Str} {p pos apos : Pos} {e o : Expr} {es : List Expr} {ta : TE} {t : TA}

/-- the callee runs -/
theorem run_fn {pins : List (Addr × Obj)} {σ : St} {H : Hp} {s : Shared} {Q : VK} {us : List Value} {vs : List V} (F : FnOk X.prog X.w X.K X.mg X.base CX k f fd ps sp) (hr : Room k X.A) (hb : Binds X.K fd ps ds) (hd : Vals dvs ds) (hx : Passes CX X E)
    (I : Inv X pins σ H s) (r : Vals vs us) (h : sp (vs ++ dvs) H Q E) : wpAny (model X.prog X.w) X.A (call (.ref f) us) (EP X pins σ Q) X.xe s := by
  have r2 : Vals (vs ++ dvs) (us ++ ds) := r.append hd
  have hl : (us ++ ds).length = ps.length := by rw [← r2.length]; exact F.len _ _ _ _ h
  refine wpAny_call (codeAny_mono (F.run X.A X.stack s H ⟨us, []⟩ (us ++ ds) (vs ++ dvs) Q E hr I.env0 (hb s us I.kIn hl) r2 h) fun r s' hq => ?_)
  cases r with
  | error e => exact hx pins σ H s e s' I hq
  | ok fl =>
    cases fl with
    | ret u => exact I.after hq
    | next => exact False.elim hq
    | brk => exact False.elim hq
    | cont => exact False.elim hq

theorem pe_call (F : FnOk X.prog X.w X.K X.mg X.base CX k f fd ps sp) (hr : Room k X.A) (hg : Gl X x) (hm : X.mg x = some (.ref f)) (hk : PySem.W.keepIn X.K (.ref f) = true) (hb : Binds X.K fd ps ds) (hd : Vals dvs ds) (hx : Passes CX X E)
    (ha : PA X (e :: es) t) (hdb : (x == ("__debug__" : Str)) = false := by decide) (he : starEach (e :: es) X.env = (false, eval e X.env) :: starEach es X.env := by rfl) (hpl : (backTo pos (starEach es X.env)).any (·.1) = false := by rfl) :
    PE X (.Call (.Name x p) (e :: es) [] pos) (tCall sp dvs E t) := by
  intro pins s σ H Q I h
  refine wpAny_Call_Name_kw (ld_glob I hg hm ?_ hdb)
  refine PySem.W.callWith_K (h₀ := X.base) I.ok.mod.kin hk (thn (ha pos pins s σ H _ I h) fun us s1 ⟨vs, H1, I1, r, q⟩ => ⟨I1.kIn, ?_⟩) he hpl
  exact run_fn F hr hb hd hx I1 r q
theorem pe_call0 (F : FnOk X.prog X.w X.K X.mg X.base CX k f fd ps sp) (hr : Room k X.A) (hg : Gl X x) (hm : X.mg x = some (.ref f)) (hk : PySem.W.keepIn X.K (.ref f) = true) (hb : Binds X.K fd ps ds) (hd : Vals dvs ds) (hx : Passes CX X E)
    (hdb : (x == ("__debug__" : Str)) = false := by decide) : PE X (.Call (.Name x p) [] [] pos) (tCall sp dvs E tNil) := by
  intro pins s σ H Q I h
  refine wpAny_Call_Name_kw (ld_glob I hg hm ?_ hdb)
  exact PySem.W.callWith_K0 I.kIn hk (run_fn (us := []) F hr hb hd hx I .nil h)

/-- o.m(e, ..) -/
theorem pe_meth {pl : Sem Bool} (he : PE X o ta) (c : Cls X.K C) (hm : Meth X.K C m f) (F : FnOk X.prog X.w X.K X.mg X.base CX k f fd ps sp) (hr : Room k X.A) (hb : Binds X.K fd ps ds) (hd : Vals dvs ds) (hx : Passes CX X E) (ha : PA X (e :: es) t)
    (hst : starEach (e :: es) X.env = (false, eval e X.env) :: starEach es X.env := by rfl) (hpl : (backTo pos (starEach es X.env)).any (·.1) = false := by rfl)
    (ht : eval (.Call (.Attribute o m apos) (e :: es) [] pos) X.env = (do
      let ov ← eval o X.env
      standAt apos.atName
      let (f, first) ← holding [ov] (getMethod ov m pl)
      callWith pos f first (backTo pos (starEach (e :: es) X.env)) (backToKw pos (keywordEach [] X.env))) := by rfl) :
    PE X (.Call (.Attribute o m apos) (e :: es) [] pos) (tMeth C m sp dvs E ta t) := by
  intro pins s σ H Q I h
  refine PySem.W.methodCall_KW (pl := pl) (thn (he pins s σ H _ I h) fun u s1 ⟨x, H1, I1, rx, a, dx, fs, ex, ea, l, q⟩ => ?_) ht
  subst ex
  obtain rfl : u = Value.ref a := rx
  refine getmeth_ok I1 ea c hm l ?_
  refine PySem.W.callWith_K (first := [.ref a]) (h₀ := X.base) I.ok.mod.kin hm.kp (thn (ha pos pins s1 σ H1 _ I1 q) fun us s2 ⟨vs, H2, I2, r, q2⟩ => ⟨I2.kIn, ?_⟩) hst hpl
  exact run_fn (us := .ref a :: us) (vs := .ref a :: vs) F hr hb hd hx I2 (.cons rfl r) q2
/-- o.m() -/
theorem pe_meth0 {pl : Sem Bool} (he : PE X o ta) (c : Cls X.K C) (hm : Meth X.K C m f) (F : FnOk X.prog X.w X.K X.mg X.base CX k f fd ps sp) (hr : Room k X.A) (hb : Binds X.K fd ps ds) (hd : Vals dvs ds) (hx : Passes CX X E)
    (ht : eval (.Call (.Attribute o m apos) [] [] pos) X.env = (do
      let ov ← eval o X.env
      standAt apos.atName
      let (f, first) ← holding [ov] (getMethod ov m pl)
      callWith pos f first (backTo pos (starEach [] X.env)) (backToKw pos (keywordEach [] X.env))) := by rfl) :
    PE X (.Call (.Attribute o m apos) [] [] pos) (tMeth C m sp dvs E ta tNil) := by
  intro pins s σ H Q I h
  refine PySem.W.methodCall_KW (pl := pl) (thn (he pins s σ H _ I h) fun u s1 ⟨x, H1, I1, rx, a, dx, fs, ex, ea, l, q⟩ => ?_) ht
  subst ex
  obtain rfl : u = Value.ref a := rx
  refine getmeth_ok I1 ea c hm l ?_
  exact PySem.W.callWith_K0 (first := [.ref a]) I1.kIn hm.kp (run_fn (us := [.ref a]) (vs := [.ref a]) F hr hb hd hx I1 (.cons rfl .nil) q)

/-- what a class must have to be made -/
structure Mk (K : PySem.W.Frag) (C f : Addr) : Prop where
  makes : PySem.W.makesIn K C = true
  init : PySem.W.findIn K (.ref C) "__init__" = some (some (.ref f))
  fn : PySem.W.isFn K (.ref f) = true
  kp : PySem.W.keepIn K (.ref C) = true

theorem run_make {pins : List (Addr × Obj)} {σ : St} {H : Hp} {s : Shared} {Q : VK} {us : List Value} {vs : List V} (M : Mk X.K C f) (F : FnOk X.prog X.w X.K X.mg X.base CX k f fd ps sp) (hr : Room (k + 1) X.A) (hb : Binds X.K fd ps ds) (hd : Vals dvs ds)
    (hx : Passes CX X E) (I : Inv X pins σ H s) (r : Vals vs us)
    (h : ∀ x dx, H x = none → H dx = none → dx ≠ x → sp (.ref x :: (vs ++ dvs)) (upd (upd H dx (.own x)) x (.ins C dx [])) (fun v H2 => v = .non ∧ Q (.ref x) H2) E) :
    wpAny (model X.prog X.w) X.A (call (.ref C) us) (EP X pins σ Q) X.xe s := by
  have hq := h (s.heap.objs.size + 1) s.heap.objs.size (I.hok.fresh (Nat.le_succ _)) (I.hok.fresh (Nat.le_refl _)) (Nat.ne_of_lt (Nat.lt_succ_self _))
  have I2 := Inv.made (C := C) I
  have r2 : Vals (V.ref (s.heap.objs.size + 1) :: (vs ++ dvs)) (Value.ref (s.heap.objs.size + 1) :: (us ++ ds)) := .cons rfl (r.append hd)
  have hl : (Value.ref (s.heap.objs.size + 1) :: us ++ ds).length = ps.length := by
    have e := r2.length
    rw [F.len _ _ _ _ hq] at e
    exact e.symm
  refine wpAny_call (make_map (f := f) I.kIn M.makes M.init (beq_iff_eq.mp M.fn) (codeAny_mono (F.run _ X.stack _ _ ⟨Value.ref (s.heap.objs.size + 1) :: us, []⟩ (Value.ref (s.heap.objs.size + 1) :: (us ++ ds)) _ _ E (hr.make C us [])
    (I2.env0.make C us []) (hb _ (Value.ref (s.heap.objs.size + 1) :: us) I2.kIn hl) r2 hq) fun r s' hq' => ?_))
  cases r with
  | error e => exact hx pins σ _ _ e s' I2 hq'
  | ok fl =>
    cases fl with
    | ret u =>
      obtain ⟨v, H', I3, rv, ev, q3⟩ := I2.after hq'
      subst ev
      exact ⟨rv, ⟨V.ref (s.heap.objs.size + 1), H', I3, rfl, q3⟩⟩
    | next => exact False.elim hq'
    | brk => exact False.elim hq'
    | cont => exact False.elim hq'
theorem pe_make (M : Mk X.K C f) (F : FnOk X.prog X.w X.K X.mg X.base CX k f fd ps sp) (hr : Room (k + 1) X.A) (hg : Gl X x) (hm : X.mg x = some (.ref C)) (hb : Binds X.K fd ps ds) (hd : Vals dvs ds) (hx : Passes CX X E)
    (ha : PA X (e :: es) t) (hdb : (x == ("__debug__" : Str)) = false := by decide) (he : starEach (e :: es) X.env = (false, eval e X.env) :: starEach es X.env := by rfl) (hpl : (backTo pos (starEach es X.env)).any (·.1) = false := by rfl) :
    PE X (.Call (.Name x p) (e :: es) [] pos) (tMake C sp dvs E t) := by
  intro pins s σ H Q I h
  refine wpAny_Call_Name_kw (ld_glob I hg hm ?_ hdb)
  refine PySem.W.callWith_K (h₀ := X.base) I.ok.mod.kin M.kp (thn (ha pos pins s σ H _ I h) fun us s1 ⟨vs, H1, I1, r, q⟩ => ⟨I1.kIn, ?_⟩) he hpl
  exact run_make M F hr hb hd hx I1 r q
theorem pe_make0 (M : Mk X.K C f) (F : FnOk X.prog X.w X.K X.mg X.base CX k f fd ps sp) (hr : Room (k + 1) X.A) (hg : Gl X x) (hm : X.mg x = some (.ref C)) (hb : Binds X.K fd ps ds) (hd : Vals dvs ds) (hx : Passes CX X E)
    (hdb : (x == ("__debug__" : Str)) = false := by decide) : PE X (.Call (.Name x p) [] [] pos) (tMake C sp dvs E tNil) := by
  intro pins s σ H Q I h
  refine wpAny_Call_Name_kw (ld_glob I hg hm ?_ hdb)
  exact PySem.W.callWith_K0 I.kIn M.kp (run_make (us := []) M F hr hb hd hx I .nil h)
end

/-! ### keywords -/
/-- the values of the keywords, from the left -/
def PK (X : Cx) (kws : List Keyword) (t : TA) : Prop :=
  ∀ (pos : Pos) (pins : List (Addr × Obj)) (s : Shared) (σ : St) (H : Hp) (Q : List V → Hp → Prop), Inv X pins σ H s → t σ H Q → wpAny (model X.prog X.w) X.A (evalAll ((backToKw pos (keywordEach kws X.env)).map (·.2))) (AP X pins σ Q) X.xe s
section
variable {X : Cx} {CX : CXT} {k : Nat} {f C : Addr} {fd : FuncData} {ps ks : List Str} {sp : Sp} {E : XK} {x m : Str} {p pos apos kpos : Pos} {e o : Expr} {es : List Expr} {kws : List Keyword} {te ta : TE} {t tk : TA} {nm : Option Str}
theorem pk_nil : PK X [] tNil := fun _ _ _ _ H Q I h => wpAny_evalAll_nil ⟨[], H, I, .nil, h⟩
theorem pk_cons (ha : PE X e te) (hr : PK X kws t) : PK X (⟨nm, e, kpos⟩ :: kws) (tCons te t) := by
  intro pos pins s σ H Q I h
  show wpAny _ _ (evalAll ((do let v ← eval e X.env; standAt pos; pure v) :: (backToKw pos (keywordEach kws X.env)).map (·.2))) _ _ s
  refine wpAny_evalAll_cons (wpAny_bind (thn (ha pins s σ H _ I h) fun u s1 ⟨x, H1, I1, r1, q1⟩ => wpAny_bind (wpAny_standAt (wpAny_pure ?_))))
  exact thn (hr pos pins s1 σ H1 _ I1 q1) fun us s2 ⟨xs, H2, I2, r2, q2⟩ => ⟨x :: xs, H2, I2, .cons r1 r2, q2⟩

/-- how a call with keywords binds: g puts the positional values us and the keywords' values ws (names ks) in the parameters' order, defaults among them -/
structure KBinds (K : PySem.W.Frag) (fd : FuncData) (ps ks : List Str) (g : List Value → List Value → List Value) (gV : List V → List V → List V) : Prop where
  to : ∀ (s : Shared) (us ws : List Value), K.In s.heap → (g us ws).length = ps.length → BindsTo s fd ⟨us, ks.zip ws⟩ (ps.zip (g us ws))
  rel : ∀ {vs : List V} {us : List Value} {zs : List V} {ws : List Value}, Vals vs us → Vals zs ws → Vals (gV vs zs) (g us ws)
def tCallK (sp : Sp) (gV : List V → List V → List V) (E : XK) (t tk : TA) : TE := fun σ H Q => t σ H fun vs H1 => tk σ H1 fun zs H2 => sp (gV vs zs) H2 Q E
variable {g : List Value → List Value → List Value} {gV : List V → List V → List V}
theorem run_fnk {pins : List (Addr × Obj)} {σ : St} {H : Hp} {s : Shared} {Q : VK} {us ws : List Value} {vs zs : List V} (F : FnOk X.prog X.w X.K X.mg X.base CX k f fd ps sp) (hr : Room k X.A) (hb : KBinds X.K fd ps ks g gV) (hx : Passes CX X E)
    (I : Inv X pins σ H s) (r : Vals vs us) (rz : Vals zs ws) (h : sp (gV vs zs) H Q E) : wpAny (model X.prog X.w) X.A (call (.ref f) us (ks.zip ws)) (EP X pins σ Q) X.xe s := by
  have r2 := hb.rel r rz
  have hl : (g us ws).length = ps.length := by rw [← r2.length]; exact F.len _ _ _ _ h
  refine wpAny_call (codeAny_mono (F.run X.A X.stack s H ⟨us, ks.zip ws⟩ (g us ws) (gV vs zs) Q E hr I.env0 (hb.to s us ws I.kIn hl) r2 h) fun r s' hq => ?_)
  cases r with
  | error e => exact hx pins σ H s e s' I hq
  | ok fl =>
    cases fl with
    | ret u => exact I.after hq
    | next => exact False.elim hq
    | brk => exact False.elim hq
    | cont => exact False.elim hq
/-- f(e, .., k = v, ..) -/
theorem pe_callK (F : FnOk X.prog X.w X.K X.mg X.base CX k f fd ps sp) (hr : Room k X.A) (hg : Gl X x) (hm : X.mg x = some (.ref f)) (hk : PySem.W.keepIn X.K (.ref f) = true) (hb : KBinds X.K fd ps ks g gV) (hx : Passes CX X E)
    (ha : PA X (e :: es) t) (hkw : PK X kws tk) (hall : (backToKw pos (keywordEach kws X.env)).all (·.1.isSome) = true := by rfl) (hks : (backToKw pos (keywordEach kws X.env)).filterMap (·.1) = ks := by rfl)
    (hdb : (x == ("__debug__" : Str)) = false := by decide) (he : starEach (e :: es) X.env = (false, eval e X.env) :: starEach es X.env := by rfl)
    (hpl : ((backTo pos (starEach (e :: es) X.env)).any (·.1) || (backToKw pos (keywordEach kws X.env)).any (·.1.isNone)) = false := by rfl) :
    PE X (.Call (.Name x p) (e :: es) kws pos) (tCallK sp gV E t tk) := by
  intro pins s σ H Q I h
  refine wpAny_Call_Name_kw (ld_glob I hg hm ?_ hdb)
  refine PySem.W.callWith_KW (h₀ := X.base) I.ok.mod.kin hk hall (thn (ha pos pins s σ H _ I h) fun us s1 ⟨vs, H1, I1, r, q⟩ => ?_) hpl he
  refine thn (hkw pos pins s1 σ H1 _ I1 q) fun ws s2 ⟨zs, H2, I2, rz, q2⟩ => ⟨I2.kIn, ?_⟩
  rw [hks]
  exact run_fnk F hr hb hx I2 r rz q2
end

/-! ### a def's body keeps its promise -/
/-- names: the parameters first -/
structure FnScope (N P : List Str) (sc : Scope) : Prop where
  kind : sc.kind = .function
  co : sc.isCoroutine = false
  gen : sc.isGenerator = false
  nd : N.Nodup
  pre : N.take P.length = P
  par : ∀ x ∈ P, sc.names.lookup x = some .local ∨ sc.names.lookup x = some .cell
  nofree : ∀ y ∈ sc.names, y.2 ≠ .free

theorem bindL_out {kindOf : Str → Option NameKind} {x : Str} : ∀ {binds : List (Str × Value)} {m : Str → Option Value}, (∀ v, (x, v) ∉ binds) → bindL kindOf binds m x = m x
  | [], _, _ => rfl
  | (n, v) :: r, m, h => by
    unfold bindL
    rw [bindL_out fun w hw => h w (List.mem_cons_of_mem _ hw)]
    split
    · have : x ≠ n := by rintro rfl; exact h v List.mem_cons_self
      simp [this]
    · rfl
theorem bindC_out {kindOf : Str → Option NameKind} {x : Str} : ∀ {binds : List (Str × Value)} {m : Str → Option Value}, (∀ v, (x, v) ∉ binds) → bindC kindOf binds m x = m x
  | [], _, _ => rfl
  | (n, v) :: r, m, h => by
    unfold bindC
    rw [bindC_out fun w hw => h w (List.mem_cons_of_mem _ hw)]
    split
    · rfl
    · have : x ≠ n := by rintro rfl; exact h v List.mem_cons_self
      simp [this]
theorem bindL_get {kindOf : Str → Option NameKind} {x : Str} {v : Value} : ∀ {P : List Str} {vs : List Value} {i : Nat} {m : Str → Option Value}, P.Nodup → P[i]? = some x → vs[i]? = some v → kindOf x = some .local →
    bindL kindOf (P.zip vs) m x = some v
  | [], _, _, _, _, h, _, _ => by simp at h
  | _ :: _, [], _, _, _, _, h, _ => by simp at h
  | p :: P, w :: vs, 0, m, nd, h1, h2, hk => by
    simp at h1 h2; subst h1; subst h2
    show bindL kindOf ((p, w) :: P.zip vs) m p = _
    unfold bindL
    rw [bindL_out fun v hv => (List.nodup_cons.mp nd).1 (List.of_mem_zip hv).1, if_pos hk]
    simp
  | p :: P, w :: vs, i + 1, m, nd, h1, h2, hk => by
    show bindL kindOf ((p, w) :: P.zip vs) m x = _
    unfold bindL
    exact bindL_get (i := i) (List.nodup_cons.mp nd).2 (by simpa using h1) (by simpa using h2) hk
theorem bindC_get {kindOf : Str → Option NameKind} {x : Str} {v : Value} : ∀ {P : List Str} {vs : List Value} {i : Nat} {m : Str → Option Value}, P.Nodup → P[i]? = some x → vs[i]? = some v → kindOf x ≠ some .local →
    bindC kindOf (P.zip vs) m x = some v
  | [], _, _, _, _, h, _, _ => by simp at h
  | _ :: _, [], _, _, _, _, h, _ => by simp at h
  | p :: P, w :: vs, 0, m, nd, h1, h2, hk => by
    simp at h1 h2; subst h1; subst h2
    show bindC kindOf ((p, w) :: P.zip vs) m p = _
    unfold bindC
    rw [bindC_out fun v hv => (List.nodup_cons.mp nd).1 (List.of_mem_zip hv).1, if_neg hk]
    simp
  | p :: P, w :: vs, i + 1, m, nd, h1, h2, hk => by
    show bindC kindOf ((p, w) :: P.zip vs) m x = _
    unfold bindC
    exact bindC_get (i := i) (List.nodup_cons.mp nd).2 (by simpa using h1) (by simpa using h2) hk

/-- the names' values at the entry -/
def start (N : List Str) (vs : List V) : St := vs.map some ++ List.replicate (N.length - vs.length) none

/-- the context of a def's body, at its entry; an exception leaves the frame, then lies as CX says -/
def cxOf (CX : CXT) (P : Program) (w : World) (K : PySem.W.Frag) (mg : Str → Option Value) (base : Heap) (N : List Str) (qual : Str) (scope : Scope) (f : Addr) (cd : Value) (A : Around) (outer : List Env) (s : Shared) (H : Hp) (E : XK) : Cx where
  prog := P
  w := w
  K := K
  mg := mg
  base := base
  A := A.deeper (envOfC qual scope s.heap.objs.size f cd)
  N := N
  s₀ := s
  H₀ := H
  env := envOfC qual scope s.heap.objs.size f cd
  outer := outer
  stack := envOfC qual scope s.heap.objs.size f cd :: outer
  ex := []
  calm := true
  fn := fun _ => true
  pn := []
  xe := fun e s' => wpAny (model P w) (A.deeper (envOfC qual scope s.heap.objs.size f cd)) (leaving (envOfC qual scope s.heap.objs.size f cd) e) (fun _ s'' => CX outer H s E e s'') (fun e' s'' => CX outer H s E e' s'') s'

theorem cell_has {sc : Scope} {n : Nat} {x : Str} (h : sc.names.lookup x = some .cell) : ∃ c, (cellsFrom n sc.names []).lookup x = some c := by
  have q := PySem.W.cellsFrom_some sc.names n [] (.inl h)
  exact Option.isSome_iff_exists.mp q

theorem inv_start {CX : CXT} {P : Program} {w : World} {K : PySem.W.Frag} {mg : Str → Option Value} {base : Heap} {N ps : List Str} {qual : Str} {scope : Scope} {f : Addr} {cd : Value} {A : Around} {outer : List Env} {s s1 : Shared} {H : Hp} {E : XK} {us : List Value} {vs : List V}
    (S : FnScope N ps scope) (hd : A.handled = none) (e0 : Env0 P w K mg base A outer s H) (hl : vs.length = ps.length) (r : Vals vs us)
    (x : InCallC s s.heap.objs.size (bindL (envOfC qual scope s.heap.objs.size f cd).kindOf (ps.zip us) fun _ => none) (cellsFrom (s.heap.objs.size + 1) scope.names []) (bindC (envOfC qual scope s.heap.objs.size f cd).kindOf (ps.zip us) fun _ => none) s1) :
    Inv (cxOf CX P w K mg base N qual scope f cd A outer s H E) [] (start N vs) H s1 := by
  have hpl : ps.length ≤ N.length := by have := congrArg List.length S.pre; rw [List.length_take] at this; omega
  obtain ⟨h1, tk, rfl, hk⟩ := x.done
  have noA : ∀ b : Addr, b ∉ (cxOf CX P w K mg base N qual scope f cd A outer s H E).ex := fun b z => absurd (show b ∈ ([] : List Addr) from z) (by simp)
  refine ⟨⟨e0.mod, S.kind, rfl, rfl, Nat.le_refl _, fun y z c h1 h2 => ?_, fun y hy => ?_, fun y c _ h => ?_, fun _ => hd, Around.frames_deeper e0.frames, .inr ⟨rfl, rfl⟩, fun b z => absurd z (noA b), e0.bs, e0.bsz, fun b _ _ => noA b, fun b z => absurd z (noA b), e0.funs, e0.frf⟩,
    rfl, e0.bare, Un.kept hk, ⟨_, x.toInCall.ns, fun i y v h1 h2 h3 => ?_⟩, fun y c h => ⟨_, x.cell y c h⟩, e0.hok.fresh (Nat.le_refl _), fun y c h => ?_, fun p hp => absurd (show p ∈ ([] : List (Addr × Obj)) from hp) (by simp), e0.hok.kept hk, ?_⟩
  · exact name_of_addr x.apart (PySem.mem_of_lookup h1) (PySem.mem_of_lookup h2)
  · have hy : scope.names.lookup y = some .cell ∨ scope.names.lookup y = some .free := hy
    rcases hy with hy | hy
    · exact cell_has hy
    · exact absurd rfl (S.nofree _ (PySem.mem_of_lookup hy))
  · exact Nat.le_of_lt (x.above y c (PySem.mem_of_lookup h))
  · have hi : i < vs.length := by
      unfold start at h2
      by_cases hi : i < vs.length
      · exact hi
      · rw [List.getElem?_append_right (by simpa using hi)] at h2
        rw [List.getElem?_replicate] at h2
        split at h2 <;> cases h2
    have ha : vs[i]? = some v := by
      unfold start at h2
      rw [List.getElem?_append_left (by simpa using hi), List.getElem?_map] at h2
      cases e : vs[i]? with
      | none => rw [e] at h2; cases h2
      | some a => rw [e] at h2; cases h2; rfl
    obtain ⟨u, hu, rv⟩ := r.get ha
    have hp : ps[i]? = some y := by
      rw [← S.pre, List.getElem?_take_of_lt (by omega)]; exact h1
    have ndP : ps.Nodup := by rw [← S.pre]; exact S.nd.sublist (List.take_sublist _ _)
    refine ⟨u, rv, ?_⟩
    rcases S.par y (List.mem_of_getElem? hp) with k | k
    · exact .inl ⟨k, bindL_get ndP hp hu k⟩
    · obtain ⟨c, e⟩ := cell_has (n := s.heap.objs.size + 1) k
      refine .inr ⟨.inl k, c, e, ?_⟩
      have q := x.cell y c e
      rw [bindC_get ndP hp hu (by show scope.names.lookup y ≠ _; rw [k]; decide)] at q
      exact q
  · exact e0.hok.fresh (Nat.le_of_lt (x.above y c (PySem.mem_of_lookup h)))
  · unfold start
    show _ = N.length
    rw [List.length_append, List.length_map, List.length_replicate]
    omega

/-- THE RULE: a def (or a method) of the text, by its body. The body's reading t is chosen for each entry; it is run at the parameters' values -/
theorem fn_of {CX : CXT} {P : Program} {w : World} {K : PySem.W.Frag} {mg : Str → Option Value} {base : Heap} {k : Nat} {f : Addr} {name qual : Str} {params : Arguments} {body : List Stmt} {scope : Scope} {dV kV doc pm cdv ct oc : Value} {an od : Option Addr}
    {osl : Array (Option Value)} {N ps : List Str} {sp : Sp} (lk : K.lookup f = some ⟨oc, od, .func (PySem.W.fnOf name qual params body scope dV kV doc pm an cdv ct), osl⟩) (hcd : PySem.W.codeIn K cdv qual = true) (S : FnScope N ps scope)
    (len : ∀ vs H Q E, sp vs H Q E → vs.length = ps.length)
    (hbody : ∀ (A : Around) (outer : List Env) (s : Shared) (H : Hp) (vs : List V) (Q : VK) (E : XK), Room k (A.deeper (envOfC qual scope s.heap.objs.size f cdv)) → sp vs H Q E →
      ∃ t, PSs (cxOf CX P w K mg base N qual scope f cdv A outer s H E) body t ∧ t { nx := fun _ H' => Q .non H', rt := Q } (start N vs) H) :
    FnOk P w K mg base CX (k + 1) f (PySem.W.fnOf name qual params body scope dV kV doc pm an cdv ct) ps sp := by
  refine ⟨len, fun A outer s H args us vs Q E hr e0 hb r hsp => ?_⟩
  have hl := len _ _ _ _ hsp
  have KX : K.In s.heap := e0.mod.kin.keeps fun b o e => (e0.bs b o e).1
  have lim : s.heap.NoLimit := e0.mod.nolimit.keeps fun b o e => (e0.bs b o e).1
  have hkind : ∀ y ∈ ps.zip us, scope.names.lookup y.1 = some .local ∨ (scope.names.lookup y.1 = some .cell ∧ ((cellsFrom (s.heap.objs.size + 1) scope.names []).lookup y.1).isSome = true) := fun ⟨n, v⟩ hy => by
    rcases S.par n (List.of_mem_zip hy).1 with q | q
    · exact .inl q
    · exact .inr ⟨q, PySem.W.cellsFrom_some _ _ _ (.inl q)⟩
  refine codeAny_call_function hr.depth (KX _ _ lk) rfl S.co S.gen rfl (PySem.W.codeRec_of KX hcd) (hb _ _ _ _ ?_)
  refine wpAny_newFunctionEnv_cells S.kind hkind fun env he s1 x => ?_
  subst he
  refine ⟨lim.keeps x.toInCall.keep, codeAny_func ?_⟩
  obtain ⟨t, ht, hq⟩ := hbody A outer s H vs Q E (hr.deeper _) hsp
  have I : Inv (cxOf CX P w K mg base N qual scope f cdv A outer s H E) [] (start N vs) H s1 := inv_start S hr.hd e0 hl r x
  refine wpAny_mono (ht [] s1 (start N vs) H _ I hq) (fun fl s' hs => ?_) fun e s' hs => hs
  have fin : ∀ {σ' : St} {H' : Hp} {v : V} {u : Value}, Inv (cxOf CX P w K mg base N qual scope f cdv A outer s H E) [] σ' H' s' → RelV v u → Q v H' → CE outer P w H s Q u s' :=
    fun {σ' H' v u} J rv q => ⟨v, H', J.os, J.bare, J.base, J.hok, rv, q⟩
  cases fl with
  | ret u =>
    obtain ⟨v, σ', H', J, rv, q⟩ := hs
    exact fin J rv q
  | next =>
    obtain ⟨σ', H', J, q⟩ := hs
    exact fin (v := V.non) (u := Value.none) J rfl q
  | brk =>
    obtain ⟨_, _, _, q⟩ := hs
    exact False.elim q
  | cont =>
    obtain ⟨_, _, _, q⟩ := hs
    exact False.elim q
end L2

namespace L2
open PySem PySem.Spec PyProof.Rows
section
variable {X : Cx} {x : Str} {p pos : Pos} {e : Expr} {es : List Expr} {t : TA} {id T : String} {r : List V → Hp → VK → Prop}

def tCB (r : List V → Hp → VK → Prop) (t : TA) : TE := fun σ H Q => t σ H fun vs H1 => r vs H1 Q
/-- f(e, ..), f a built-in function -/
theorem pe_callB (hc : CallR X (.builtin id) r) (hg : Gl X x) (hm : X.mg x = none) (hv : bootBuiltins x = some (.builtin id)) (ha : PA X (e :: es) t) (hn : x ≠ "__name__" := by decide) (hdb : (x == ("__debug__" : Str)) = false := by decide)
    (he : starEach (e :: es) X.env = (false, eval e X.env) :: starEach es X.env := by rfl) (hpl : (backTo pos (starEach es X.env)).any (·.1) = false := by rfl) : PE X (.Call (.Name x p) (e :: es) [] pos) (tCB r t) := by
  intro pins s σ H Q I h
  refine wpAny_Call_Name_kw (ld_blt I hg hm hv ?_ hn hdb)
  exact PyProof.Rows.callWith_builtin1 (thn (ha pos pins s σ H _ I h) fun us s1 ⟨vs, H1, I1, r1, q1⟩ => hc pins s1 σ H1 vs us Q I1 r1 q1) he hpl
/-- T(e, ..), T a built-in type -/
theorem pe_callTy (hc : CallR X (.type T) r) (hg : Gl X x) (hm : X.mg x = none) (hv : bootBuiltins x = some (.type T)) (ha : PA X (e :: es) t) (hn : x ≠ "__name__" := by decide) (hdb : (x == ("__debug__" : Str)) = false := by decide)
    (he : starEach (e :: es) X.env = (false, eval e X.env) :: starEach es X.env := by rfl) (hpl : (backTo pos (starEach es X.env)).any (·.1) = false := by rfl) : PE X (.Call (.Name x p) (e :: es) [] pos) (tCB r t) := by
  intro pins s σ H Q I h
  refine wpAny_Call_Name_kw (ld_blt I hg hm hv ?_ hn hdb)
  exact PyProof.Rows.callWith_type1 (thn (ha pos pins s σ H _ I h) fun us s1 ⟨vs, H1, I1, r1, q1⟩ => hc pins s1 σ H1 vs us Q I1 r1 q1) he hpl
/-- T() -/
theorem pe_callTy0 (hc : CallR X (.type T) r) (hg : Gl X x) (hm : X.mg x = none) (hv : bootBuiltins x = some (.type T)) (hn : x ≠ "__name__" := by decide) (hdb : (x == ("__debug__" : Str)) = false := by decide) :
    PE X (.Call (.Name x p) [] [] pos) (tCB r tNil) := by
  intro pins s σ H Q I h
  refine wpAny_Call_Name_kw (ld_blt I hg hm hv ?_ hn hdb)
  exact PyProof.Rows.callWith_type0 (hc pins s σ H [] [] Q I .nil h)
end
end L2

namespace L2
open PySem PySem.Spec PyProof.Rows

/-! ### lists of pairs as tables -/
section
variable {κ : Type} [DecidableEq κ]
def valV (kvs : List (κ × V)) (k : κ) : Option V := (kvs.find? fun kv => decide (kv.1 = k)).map (·.2)
/-- in its place, or at the end -/
def putK (kvs : List (κ × V)) (k : κ) (v : V) : List (κ × V) :=
  if (kvs.any fun kv => decide (kv.1 = k)) = true then kvs.map (fun kv => if kv.1 = k then (kv.1, v) else kv) else kvs ++ [(k, v)]
def dropK (kvs : List (κ × V)) (k : κ) : List (κ × V) := kvs.filter fun kv => decide (kv.1 ≠ k)

theorem valV_nil {k : κ} : valV ([] : List (κ × V)) k = none := rfl
theorem valV_pos {p : κ × V} {r : List (κ × V)} {k : κ} (e : p.1 = k) : valV (p :: r) k = some p.2 := by simp [valV, List.find?_cons, e]
theorem valV_neg {p : κ × V} {r : List (κ × V)} {k : κ} (e : ¬ p.1 = k) : valV (p :: r) k = valV r k := by simp [valV, List.find?_cons, e]
theorem valV_any (k : κ) : ∀ kvs : List (κ × V), (kvs.any fun kv => decide (kv.1 = k)) = (valV kvs k).isSome
  | [] => rfl
  | p :: r => by
    rw [List.any_cons]
    by_cases e : p.1 = k
    · simp only [valV_pos e, decide_eq_true e, Bool.true_or, Option.isSome_some]
    · rw [valV_neg e, decide_eq_false e, Bool.false_or]; exact valV_any k r
theorem valV_map (k j : κ) (y : V) : ∀ kvs : List (κ × V), valV (kvs.map fun kv => if kv.1 = k then (kv.1, y) else kv) j = (valV kvs j).map fun x => if j = k then y else x
  | [] => rfl
  | p :: r => by
    have ih := valV_map k j y r
    rw [List.map_cons]
    by_cases h : p.1 = k
    · rw [if_pos h]
      by_cases e : p.1 = j
      · rw [valV_pos (p := (p.1, y)) e, valV_pos e, Option.map_some, if_pos (e.symm.trans h)]
      · rw [valV_neg (p := (p.1, y)) e, valV_neg e, ih]
    · rw [if_neg h]
      by_cases e : p.1 = j
      · rw [valV_pos (p := p) e, valV_pos e, Option.map_some, if_neg (fun z => h (e.trans z))]
      · rw [valV_neg (p := p) e, valV_neg e, ih]
theorem valV_snoc (k j : κ) (y : V) : ∀ kvs : List (κ × V), valV kvs k = none → valV (kvs ++ [(k, y)]) j = if j = k then some y else valV kvs j
  | [], _ => by
    by_cases e : k = j
    · rw [if_pos e.symm]; exact valV_pos (p := (k, y)) e
    · rw [if_neg (fun z => e z.symm)]; exact valV_neg (p := (k, y)) e
  | p :: r, hn => by
    rw [List.cons_append]
    have hk : ¬ p.1 = k := fun z => by rw [valV_pos z] at hn; cases hn
    rw [valV_neg hk] at hn
    have ih := valV_snoc k j y r hn
    by_cases e : p.1 = j
    · rw [valV_pos e, valV_pos e, if_neg (fun z => hk (e.trans z))]
    · rw [valV_neg e, valV_neg e, ih]
theorem valV_put (kvs : List (κ × V)) (k j : κ) (y : V) : valV (putK kvs k y) j = if j = k then some y else valV kvs j := by
  unfold putK
  by_cases a : (kvs.any fun kv => decide (kv.1 = k)) = true
  · rw [if_pos a, valV_map]
    rw [valV_any] at a
    by_cases e : j = k
    · obtain ⟨x, hx⟩ := Option.isSome_iff_exists.mp a
      rw [if_pos e, e, hx, Option.map_some, if_pos rfl]
    · rw [if_neg e]
      cases valV kvs j with
      | none => rfl
      | some x => rw [Option.map_some, if_neg e]
  · rw [if_neg a]
    refine valV_snoc k j y kvs ?_
    rw [valV_any] at a
    cases q : valV kvs k with
    | none => rfl
    | some x => rw [q] at a; exact (a rfl).elim
theorem length_putK (kvs : List (κ × V)) (k : κ) (v : V) : (putK kvs k v).length ≤ kvs.length + 1 := by
  unfold putK
  split
  · rw [List.length_map]; omega
  · rw [List.length_append, List.length_cons, List.length_nil]; omega
theorem putK_new {kvs : List (κ × V)} {k : κ} (v : V) (h : valV kvs k = none) : putK kvs k v = kvs ++ [(k, v)] := by
  unfold putK
  rw [valV_any, h]
  exact if_neg (by decide)

theorem RelO.isSome_eq {o : Option V} {u : Option Value} (r : RelO o u) : o.isSome = u.isSome := by
  cases o with
  | none => cases u with
    | none => rfl
    | some _ => exact (show False from r).elim
  | some _ => cases u with
    | none => exact (show False from r).elim
    | some _ => rfl
theorem RelO.getD {o : Option V} {u : Option Value} {d : V} {d' : Value} (r : RelO o u) (rd : RelV d d') : RelV (o.getD d) (u.getD d') := by
  cases o with
  | none => cases u with
    | none => exact rd
    | some _ => exact (show False from r).elim
  | some _ => cases u with
    | none => exact (show False from r).elim
    | some _ => exact r

/-- raw tables of the same keys -/
theorem KV.val {kvs : List (κ × V)} {vs : List (κ × Value)} (r : KV kvs vs) (k : κ) : RelO (valV kvs k) (valueAt vs k) := by
  unfold KV at r
  induction r with
  | nil => exact True.intro
  | @cons p q ps qs h t ih =>
    obtain ⟨h1, h2⟩ := h
    by_cases e : p.1 = k
    · have e' : q.1 = k := h1.symm.trans e
      have b : valueAt (q :: qs) k = some q.2 := by simp [valueAt, List.find?_cons, e']
      rw [valV_pos e, b]; exact h2
    · have e' : ¬ q.1 = k := fun z => e (h1.trans z)
      have b : valueAt (q :: qs) k = valueAt qs k := by simp [valueAt, List.find?_cons, e']
      rw [valV_neg e, b]; exact ih
theorem KV.any {kvs : List (κ × V)} {vs : List (κ × Value)} (r : KV kvs vs) (k : κ) : (kvs.any fun kv => decide (kv.1 = k)) = vs.any fun kv => decide (kv.1 = k) := by
  unfold KV at r
  induction r with
  | nil => rfl
  | cons h t ih => rw [List.any_cons, List.any_cons, ih, h.1]
theorem KV.repl {kvs : List (κ × V)} {vs : List (κ × Value)} (r : KV kvs vs) (k : κ) {y : V} {u : Value} (ry : RelV y u) :
    KV (kvs.map fun kv => if kv.1 = k then (kv.1, y) else kv) (vs.map fun kv => if kv.1 = k then (kv.1, u) else kv) := by
  unfold KV at r ⊢
  induction r with
  | nil => exact .nil
  | @cons p q ps qs h t ih =>
    rw [List.map_cons, List.map_cons]
    refine .cons ?_ ih
    obtain ⟨h1, h2⟩ := h
    by_cases e : p.1 = k
    · rw [if_pos e, if_pos (h1.symm.trans e)]; exact ⟨h1, ry⟩
    · rw [if_neg e, if_neg (fun z => e (h1.trans z))]; exact ⟨h1, h2⟩
theorem KV.put {kvs : List (κ × V)} {vs : List (κ × Value)} (r : KV kvs vs) (k : κ) {y : V} {u : Value} (ry : RelV y u) : KV (putK kvs k y) (stored vs k u) := by
  unfold putK stored
  rw [r.any k]
  by_cases e : (vs.any fun kv => decide (kv.1 = k)) = true
  · rw [if_pos e, if_pos e]; exact r.repl k ry
  · rw [if_neg e, if_neg e]; exact Paired.snoc r ⟨rfl, ry⟩
theorem KV.drop {kvs : List (κ × V)} {vs : List (κ × Value)} (r : KV kvs vs) (k : κ) : KV (dropK kvs k) (without vs k) := by
  unfold KV at r ⊢
  unfold dropK without
  induction r with
  | nil => exact .nil
  | @cons p q ps qs h t ih =>
    obtain ⟨h1, h2⟩ := h
    rw [List.filter_cons, List.filter_cons]
    by_cases e : p.1 = k
    · have a : ¬ decide (p.1 ≠ k) = true := by simp [e]
      have b : ¬ decide (q.1 ≠ k) = true := by simp [h1.symm.trans e]
      rw [if_neg a, if_neg b]; exact ih
    · have e' : ¬ q.1 = k := fun z => e (h1.trans z)
      have a : decide (p.1 ≠ k) = true := by simp [e]
      have b : decide (q.1 ≠ k) = true := by simp [e']
      rw [if_pos a, if_pos b]; exact .cons ⟨h1, h2⟩ ih
theorem KV.keys {kvs : List (κ × V)} {vs : List (κ × Value)} (r : KV kvs vs) : kvs.map (·.1) = vs.map (·.1) := by
  unfold KV at r
  induction r with
  | nil => rfl
  | cons h t ih => rw [List.map_cons, List.map_cons, ih, h.1]
theorem KV.length {kvs : List (κ × V)} {vs : List (κ × Value)} (r : KV kvs vs) : kvs.length = vs.length := Paired.length r
theorem dropK_le (kvs : List (κ × V)) (k : κ) : (dropK kvs k).length ≤ kvs.length := List.length_filter_le _ _
end


/-! ### a tracked dict, its keys ints and texts or tuples of these -/
theorem kV_is {P : Program} {w : World} {k : Key} {u : Value} (r : RelV (kV k) u) : (mixKind P w).is k u = true := by
  cases k with
  | inl i => obtain ⟨t, e⟩ := (show ∃ t, u = Value.int i t from r); subst e; exact mixKind_int P w i t
  | inr x => obtain ⟨t, e⟩ := (show ∃ t, u = Value.str x t from r); subst e; exact mixKind_str P w x t
theorem kV_inj {a b : Key} (e : kV a = kV b) : a = b := by
  cases a with
  | inl i => cases b with
    | inl j => have e' : V.int i = V.int j := e; injection e' with e'; rw [e']
    | inr y => exact nomatch (show V.int i = V.str y from e)
  | inr x => cases b with
    | inl j => exact nomatch (show V.str x = V.int j from e)
    | inr y => have e' : V.str x = V.str y := e; injection e' with e'; rw [e']
theorem kVs_inj : ∀ {a b : List Key}, a.map kV = b.map kV → a = b
  | [], [], _ => rfl
  | [], _ :: _, e => by simp at e
  | _ :: _, [], e => by simp at e
  | x :: xs, y :: ys, e => by
    rw [List.map_cons, List.map_cons] at e
    injection e with e1 e2
    rw [kV_inj e1, kVs_inj e2]
theorem items_are {P : Program} {w : World} : ∀ {ks : List Key} {us : List Value}, Vals (ks.map kV) us → ItemsAre (mixKind P w) ks us
  | [], _, r => by rw [List.map_nil] at r; cases r; exact .nil
  | k :: ks, _, r => by
    rw [List.map_cons] at r
    cases r with
    | cons h t => exact .cons (kV_is h) (items_are t)

/-- raw entries of a dict with tuple keys -/
abbrev KT (H : Hp) : List (List Key × V) → List (List Key × Addr × Value) → Prop := Paired fun p q => p.1 = q.1 ∧ H q.2.1 = some (.tup (p.1.map kV)) ∧ RelV p.2 q.2.2
theorem KT.val {H : Hp} {kvs : List (List Key × V)} {xs : List (List Key × Addr × Value)} (r : KT H kvs xs) (k : List Key) : RelO (valV kvs k) ((atKey xs k).map (·.2)) := by
  induction r with
  | nil => exact True.intro
  | @cons p q ps qs h t ih =>
    obtain ⟨h1, _, h2⟩ := h
    by_cases e : p.1 = k
    · have e' : q.1 = k := h1.symm.trans e
      have b : atKey (q :: qs) k = some q.2 := by simp [atKey, List.find?_cons, e']
      rw [valV_pos e, b]; exact h2
    · have e' : ¬ q.1 = k := fun z => e (h1.trans z)
      have b : atKey (q :: qs) k = atKey qs k := by simp [atKey, List.find?_cons, e']
      rw [valV_neg e, b]; exact ih
theorem KT.repl {H : Hp} {kvs : List (List Key × V)} {xs : List (List Key × Addr × Value)} (r : KT H kvs xs) (k : List Key) {y : V} {u : Value} (ry : RelV y u) :
    KT H (kvs.map fun kv => if kv.1 = k then (kv.1, y) else kv) (xs.map (putAt k u)) := by
  induction r with
  | nil => exact .nil
  | @cons p q ps qs h t ih =>
    rw [List.map_cons, List.map_cons]
    refine .cons ?_ ih
    obtain ⟨h1, h2, h3⟩ := h
    unfold putAt
    by_cases e : p.1 = k
    · rw [if_pos e, if_pos (h1.symm.trans e)]; exact ⟨h1, h2, ry⟩
    · rw [if_neg e, if_neg (fun z => e (h1.trans z))]; exact ⟨h1, h2, h3⟩
theorem KT.put {H : Hp} {kvs : List (List Key × V)} {xs : List (List Key × Addr × Value)} (r : KT H kvs xs) (k : List Key) {b : Addr} {y : V} {u : Value} (hb : H b = some (.tup (k.map kV))) (ry : RelV y u) :
    KT H (putK kvs k y) (storedH xs k b u) := by
  have e : (kvs.any fun kv => decide (kv.1 = k)) = (atKey xs k).isSome := by
    rw [valV_any, (r.val k).isSome_eq, Option.isSome_map]
  unfold putK storedH
  rw [e]
  by_cases q : (atKey xs k).isSome = true
  · rw [if_pos q, if_pos q]; exact r.repl k ry
  · rw [if_neg q, if_neg q]; exact Paired.snoc r ⟨rfl, hb, ry⟩
theorem KT.keeps {H H' : Hp} {kvs : List (List Key × V)} {xs : List (List Key × Addr × Value)} (r : KT H kvs xs) (ht : ∀ b ys, H b = some (.tup ys) → H' b = some (.tup ys)) : KT H' kvs xs :=
  Paired.mapP r fun _ _ z => ⟨z.1, ht _ _ z.2.1, z.2.2⟩

section
variable {P : Program} {w : World} {H : Hp} {h : Heap} {a : Addr}
theorem rd_of {u : HO} (ok : HOk P w H h) (e : Rd H a u) : ObjOk P w H h a u := e.ok ok
theorem dk_rd {kvs : List (Key × V)} (ok : HOk P w H h) (e : Rd H a (.dK kvs)) : kvs.length ≤ sizeLine ∧ (a == sysModules) = false ∧ ∃ vs, KV kvs vs ∧ h.DictOf (mixKind P w) a vs :=
  show ObjOk P w H h a (.dK kvs) from rd_of ok e
theorem dk_of {kvs : List (Key × V)} (ok : HOk P w H h) (e : H a = some (.dK kvs)) : kvs.length ≤ sizeLine ∧ (a == sysModules) = false ∧ ∃ vs, KV kvs vs ∧ h.DictOf (mixKind P w) a vs := dk_rd ok (.inl e)
/-- a tracked tuple of ints and texts is a key -/
theorem key_of {ks : List Key} (ok : HOk P w H h) (e : H a = some (.tup (ks.map kV))) : (tupleKind (mixKind P w)).is h ks a := by
  obtain ⟨_, its, r, o, h1, h2, n, h3⟩ := (show ObjOk P w H h a (.tup (ks.map kV)) from ok a _ e)
  exact ⟨o, its.toArray, n, h1, h2, h3, by simpa using items_are r⟩
theorem dt_rd {kvs : List (List Key × V)} (ok : HOk P w H h) (e : Rd H a (.dT kvs)) : kvs.length ≤ sizeLine ∧ (a == sysModules) = false ∧
    ∃ xs, KT H kvs xs ∧ h.DictOfH (tupleKind (mixKind P w)) a xs := by
  obtain ⟨z, y, xs, r, o, es, ep, h1, h2, h3, h4, h5⟩ := (show ObjOk P w H h a (.dT kvs) from rd_of ok e)
  refine ⟨z, y, xs, r, o, es, ep, h1, h2, h3, h4, fun x hx => ?_, h5⟩
  have all : ∀ {l : List (List Key × V)} {m : List (List Key × Addr × Value)}, KT H l m → ∀ x ∈ m, (tupleKind (mixKind P w)).is h x.1 x.2.1 := by
    intro l m q
    induction q with
    | nil => intro x hx; exact nomatch hx
    | @cons p q ps qs hq t ih =>
      intro x hx
      rcases List.mem_cons.mp hx with e | hx
      · subst e
        exact key_of ok (by rw [← hq.1]; exact hq.2.1)
      · exact ih x hx
  exact all r x hx
theorem dt_of {kvs : List (List Key × V)} (ok : HOk P w H h) (e : H a = some (.dT kvs)) : kvs.length ≤ sizeLine ∧ (a == sysModules) = false ∧
    ∃ xs, KT H kvs xs ∧ h.DictOfH (tupleKind (mixKind P w)) a xs := dt_rd ok (.inl e)
end

/-- what the dict at a holds at the key y -/
def DGet (H : Hp) (a : Addr) (y : V) (r : Option V) : Prop :=
  (∃ kvs k, Rd H a (.dK kvs) ∧ y = kV k ∧ r = valV kvs k) ∨ ∃ kvs k b, Rd H a (.dT kvs) ∧ y = .ref b ∧ H b = some (.tup (k.map kV)) ∧ r = valV kvs k
/-- the heap behind a[y] = v -/
def DPut (H : Hp) (a : Addr) (y v : V) (H' : Hp) : Prop :=
  (∃ kvs k, H a = some (.dK kvs) ∧ y = kV k ∧ kvs.length < sizeLine ∧ H' = upd H a (.dK (putK kvs k v))) ∨
  ∃ kvs k b, H a = some (.dT kvs) ∧ y = .ref b ∧ H b = some (.tup (k.map kV)) ∧ kvs.length < sizeLine ∧ H' = upd H a (.dT (putK kvs k v))
theorem DGet.k {H : Hp} {a : Addr} {kvs : List (Key × V)} {k : Key} (e : H a = some (.dK kvs)) : DGet H a (kV k) (valV kvs k) := .inl ⟨kvs, k, .inl e, rfl, rfl⟩
theorem DGet.t {H : Hp} {a b : Addr} {kvs : List (List Key × V)} {k : List Key} (e : H a = some (.dT kvs)) (eb : H b = some (.tup (k.map kV))) : DGet H a (.ref b) (valV kvs k) := .inr ⟨kvs, k, b, .inl e, rfl, eb, rfl⟩
theorem DPut.k {H : Hp} {a : Addr} {kvs : List (Key × V)} {k : Key} {v : V} (e : H a = some (.dK kvs)) (hl : kvs.length < sizeLine) : DPut H a (kV k) v (upd H a (.dK (putK kvs k v))) := .inl ⟨kvs, k, e, rfl, hl, rfl⟩
theorem DPut.t {H : Hp} {a b : Addr} {kvs : List (List Key × V)} {k : List Key} {v : V} (e : H a = some (.dT kvs)) (eb : H b = some (.tup (k.map kV))) (hl : kvs.length < sizeLine) :
    DPut H a (.ref b) v (upd H a (.dT (putK kvs k v))) := .inr ⟨kvs, k, b, e, rfl, eb, hl, rfl⟩


section
variable {X : Cx} {pins : List (Addr × Obj)} {σ : St} {H : Hp} {s : Shared} {a : Addr} {y v : V} {u r : Value} {o : Option V} {A : Around} {E : Value → Shared → Prop}

theorem Inv.big (I : Inv X pins σ H s) : sysModules < s.heap.objs.size := by
  have h : mainGlobals < s.heap.objs.size := (I.mod.glob.keeps I.bk).lt
  exact Nat.lt_trans (by decide) h

/-- d[y], there -/
theorem d_getItem {Q : Value → Shared → Prop} (hu : A.units + 1 < cLine) (I : Inv X pins σ H s) (g : DGet H a y (some v)) (ry : RelV y u) (h : ∀ w' s', Inv X pins σ H s' → RelV v w' → Q w' s') :
    wpAny (model X.prog X.w) A (getItem (.ref a) u) Q E s := by
  rcases g with ⟨kvs, k, e, ey, l⟩ | ⟨kvs, k, b, e, ey, eb, l⟩
  · subst ey
    obtain ⟨z, hd, vs, rel, dd⟩ := dk_rd I.hok e
    obtain ⟨w', hw, rw'⟩ := RelO.some_of (v := v) (o := valueAt vs k) (by rw [l]; exact rel.val k)
    exact wpAny_getItem_of (kV_is ry) dd.mapOf hw (h w' _ (I.tok _) rw')
  · subst ey
    cases (show u = Value.ref b from ry)
    obtain ⟨z, hd, xs, rel, dd⟩ := dt_rd I.hok e
    obtain ⟨w', hw, rw'⟩ := RelO.some_of (v := v) (o := (atKey xs k).map (·.2)) (by rw [l]; exact rel.val k)
    obtain ⟨p, hp, hp2⟩ := Option.map_eq_some_iff.mp hw
    refine wpAny_getItem_heap (tupleKind_room_in1 hu) (key_of I.hok eb) dd hp ?_
    rw [hp2]
    exact h w' _ (I.tok _) rw'
/-- y in d -/
theorem d_in {Q : Value → Shared → Prop} (hu : A.units + 1 < cLine) (I : Inv X pins σ H s) (g : DGet H a y o) (ry : RelV y u) (h : ∀ s', Inv X pins σ H s' → Q (.bool o.isSome) s') :
    wpAny (model X.prog X.w) A (compareOp .In u (.ref a)) Q E s := by
  rcases g with ⟨kvs, k, e, ey, l⟩ | ⟨kvs, k, b, e, ey, eb, l⟩
  · subst ey
    obtain ⟨z, hd, vs, rel, dd⟩ := dk_rd I.hok e
    refine wpAny_in_of (kV_is ry) hd dd.mapOf ?_
    rw [← (rel.val k).isSome_eq, ← l]
    exact h _ (I.tok _)
  · subst ey
    cases (show u = Value.ref b from ry)
    obtain ⟨z, hd, xs, rel, dd⟩ := dt_rd I.hok e
    refine wpAny_in_heap (tupleKind_room_in1 hu) (key_of I.hok eb) hd dd ?_
    have q := (rel.val k).isSome_eq
    rw [Option.isSome_map] at q
    rw [← q, ← l]
    exact h _ (I.tok _)
theorem d_notIn {Q : Value → Shared → Prop} (hu : A.units + 1 < cLine) (I : Inv X pins σ H s) (g : DGet H a y o) (ry : RelV y u) (h : ∀ s', Inv X pins σ H s' → Q (.bool (!o.isSome)) s') :
    wpAny (model X.prog X.w) A (compareOp .NotIn u (.ref a)) Q E s := by
  rcases g with ⟨kvs, k, e, ey, l⟩ | ⟨kvs, k, b, e, ey, eb, l⟩
  · subst ey
    obtain ⟨z, hd, vs, rel, dd⟩ := dk_rd I.hok e
    refine wpAny_notIn_of (kV_is ry) hd dd.mapOf ?_
    rw [← (rel.val k).isSome_eq, ← l]
    exact h _ (I.tok _)
  · subst ey
    cases (show u = Value.ref b from ry)
    obtain ⟨z, hd, xs, rel, dd⟩ := dt_rd I.hok e
    refine wpAny_notIn_heap (tupleKind_room_in1 hu) (key_of I.hok eb) hd dd ?_
    have q := (rel.val k).isSome_eq
    rw [Option.isSome_map] at q
    rw [← q, ← l]
    exact h _ (I.tok _)
/-- a dict's object is replaced -/
theorem d_write {h' : Heap} {t' : Nat} {ob : HO} (I : Inv X pins σ H s) (mu : Mut (H a)) (hs : Heap.SameBut a s.heap h') (he : ∃ q, h'.get? a = some q) (new : ObjOk X.prog X.w (upd H a ob) h' a ob) :
    Inv X pins σ (upd H a ob) { s with heap := h', toks := t' } :=
  I.write (x := a) (e := a) mu (.inl rfl) (fun b q hb z => (hs.2 b hb).trans z) he new
theorem dk_new {P : Program} {w : World} {H' : Hp} {h' : Heap} {kvs : List (Key × V)} {vs : List (Key × Value)} (z : kvs.length ≤ sizeLine) (hd : (a == sysModules) = false) (rel : KV kvs vs) (dd : h'.DictOf (mixKind P w) a vs) :
    ObjOk P w H' h' a (.dK kvs) := ⟨z, hd, vs, rel, dd⟩
/-- d[y] = v -/
theorem d_setItem {H' : Hp} {Q : Unit → Shared → Prop} (hu : A.units + 1 < cLine) (I : Inv X pins σ H s) (g : DPut H a y v H') (ry : RelV y u) (rv : RelV v r) (h : ∀ s', Inv X pins σ H' s' → Q () s') :
    wpAny (model X.prog X.w) A (setItem (.ref a) u r) Q E s := by
  rcases g with ⟨kvs, k, e, ey, l, eH⟩ | ⟨kvs, k, b, e, ey, eb, l, eH⟩
  · subst ey eH
    obtain ⟨z, hd, vs, rel, dd⟩ := dk_of I.hok e
    have hz : vs.length ≤ sizeLine := by rw [← rel.length]; exact z
    have hl : (putK kvs k v).length ≤ sizeLine := by have := length_putK kvs k v; omega
    refine wpAny_setItem_pairs (hsz := hz) (kV_is ry) dd fun h' dd' hs => h _ ?_
    have he : ∃ q, h'.get? a = some q := let ⟨q, _, _, hq, _⟩ := dd'; ⟨q, hq⟩
    exact d_write I (by rw [e]; exact True.intro) hs he (dk_new hl hd (rel.put k rv) dd')
  · subst ey eH
    cases (show u = Value.ref b from ry)
    obtain ⟨z, hd, xs, rel, dd⟩ := dt_of I.hok e
    have hz : xs.length ≤ sizeLine := by rw [← Paired.length rel]; exact z
    have hl : (putK kvs k v).length ≤ sizeLine := by have := length_putK kvs k v; omega
    refine wpAny_setItem_heap (hsz := hz) (tupleKind_room_in1 hu) (key_of I.hok eb) dd fun h' dd' hs => h _ ?_
    obtain ⟨q, es, ep, hq, h2, h3, h4, _, h5⟩ := dd'
    refine d_write I (by rw [e]; exact True.intro) hs ⟨q, hq⟩ ⟨hl, hd, _, (rel.put k eb rv).keeps fun c ys ec => ?_, q, es, ep, hq, h2, h3, h4, h5⟩
    rw [upd_ne (ne_of ec e (fun z => nomatch z))]
    exact ec
end

section
variable {X : Cx} {pins : List (Addr × Obj)} {σ : St} {H : Hp} {s : Shared} {a : Addr} {kvs : List (Key × V)} {k : Key} {u : Value} {A : Around} {E : Value → Shared → Prop}
/-- del d[k] -/
theorem d_delItem {Q : Unit → Shared → Prop} (I : Inv X pins σ H s) (e : H a = some (.dK kvs)) (ry : RelV (kV k) u) (l : (valV kvs k).isSome = true) (h : ∀ s', Inv X pins σ (upd H a (.dK (dropK kvs k))) s' → Q () s') :
    wpAny (model X.prog X.w) A (delItem (.ref a) u) Q E s := by
  obtain ⟨z, hd, vs, rel, dd⟩ := dk_of I.hok e
  refine wpAny_delItem_slot dd.typeIs (by decide) PySem.F.slot_dict_delitem
    (call_meetsIn PySem.F.slot_dict_delitem dd.typeIs PySem.F.entry_dict_delitem (PySem.F.args_dict_delitem_2 _ _) (meets_dict_delitem_pairs (mixKind X.prog X.w) a (kV_is ry)) ⟨vs, dd, by rw [← rel.length]; exact z, by rw [← (rel.val k).isSome_eq]; exact l, fun h' dd' hs => h _ ?_⟩)
  have he : ∃ q, h'.get? a = some q := let ⟨q, _, _, hq, _⟩ := dd'; ⟨q, hq⟩
  exact d_write I (by rw [e]; exact True.intro) hs he (dk_new (Nat.le_trans (dropK_le kvs k) z) hd (rel.drop k) dd')
/-- d.pop(k[, x]), there -/
theorem d_pop {v : V} {more : List Value} {Q : Value → Shared → Prop} (I : Inv X pins σ H s) (e : H a = some (.dK kvs)) (ry : RelV (kV k) u) (l : valV kvs k = some v) (hm : more = [] ∨ ∃ x, more = [x])
    (h : ∀ w' s', Inv X pins σ (upd H a (.dK (dropK kvs k))) s' → RelV v w' → Q w' s') : wpAny (model X.prog X.w) A (call (.builtin "dict.pop") (.ref a :: u :: more)) Q E s := by
  obtain ⟨z, hd, vs, rel, dd⟩ := dk_of I.hok e
  obtain ⟨w', hw, rw'⟩ := RelO.some_of (v := v) (o := valueAt vs k) (by rw [← l]; exact rel.val k)
  have hp : (keyPart u).isSome = true := by
    cases k with
    | inl i => obtain ⟨t, q⟩ := (show ∃ t, u = Value.int i t from ry); subst q; rfl
    | inr x => obtain ⟨t, q⟩ := (show ∃ t, u = Value.str x t from ry); subst q; rfl
  have ha : argsOk "dict.pop" ⟨.ref a :: u :: more, []⟩ := by
    rcases hm with q | ⟨x, q⟩
    · subst q; exact PySem.F.args_dict_pop_2 _ _
    · subst q; exact PySem.F.args_dict_pop_3 _ _ _
  refine call_meetsIn PySem.F.slot_dict_pop dd.typeIs PySem.F.entry_dict_pop ha (meets_dict_pop_there (mixKind X.prog X.w) a (kV_is ry) more hm hp)
    ⟨vs, w', dd, by rw [← rel.length]; exact z, hw, fun h' dd' hs => h w' _ ?_ rw'⟩
  have he : ∃ q, h'.get? a = some q := let ⟨q, _, _, hq, _⟩ := dd'; ⟨q, hq⟩
  exact d_write I (by rw [e]; exact True.intro) hs he (dk_new (Nat.le_trans (dropK_le kvs k) z) hd (rel.drop k) dd')
/-- d.pop(k, x), not there -/
theorem d_popD {r : Value} {Q : Value → Shared → Prop} (I : Inv X pins σ H s) (e : H a = some (.dK kvs)) (ry : RelV (kV k) u) (l : valV kvs k = none) (h : ∀ s', Inv X pins σ H s' → Q r s') :
    wpAny (model X.prog X.w) A (call (.builtin "dict.pop") [.ref a, u, r]) Q E s := by
  obtain ⟨z, hd, vs, rel, dd⟩ := dk_of I.hok e
  have hn : valueAt vs k = none := RelO.none_of (by rw [← l]; exact rel.val k)
  have hp : (keyPart u).isSome = true := by
    cases k with
    | inl i => obtain ⟨t, q⟩ := (show ∃ t, u = Value.int i t from ry); subst q; rfl
    | inr x => obtain ⟨t, q⟩ := (show ∃ t, u = Value.str x t from ry); subst q; rfl
  exact call_meetsIn PySem.F.slot_dict_pop dd.typeIs PySem.F.entry_dict_pop (PySem.F.args_dict_pop_3 _ _ _) (meets_dict_pop_default (mixKind X.prog X.w) a (kV_is ry) hd hp r) ⟨vs, dd, hn, h _ (I.tok _)⟩
/-- d.clear() -/
theorem d_clear {Q : Value → Shared → Prop} (I : Inv X pins σ H s) (e : H a = some (.dK kvs)) (h : ∀ s', Inv X pins σ (upd H a (.dK [])) s' → Q .none s') : wpAny (model X.prog X.w) A (call (.builtin "dict.clear") [.ref a]) Q E s := by
  obtain ⟨z, hd, vs, rel, dd⟩ := dk_of I.hok e
  refine call_meetsIn PySem.F.slot_dict_clear dd.typeIs PySem.F.entry_dict_clear (PySem.F.args_dict_clear_1 _) (meets_dict_clear (mixKind X.prog X.w) a) ⟨vs, dd, by rw [← rel.length]; exact z, fun h' dd' hs => h _ ?_⟩
  have he : ∃ q, h'.get? a = some q := let ⟨q, _, _, hq, _⟩ := dd'; ⟨q, hq⟩
  exact d_write (t' := s.toks) I (by rw [e]; exact True.intro) hs he (dk_new (Nat.zero_le _) hd .nil dd')
/-- len(d) -/
theorem d_len {Q : Value → Shared → Prop} (I : Inv X pins σ H s) (e : Rd H a (.dK kvs)) (h : ∀ t s', Inv X pins σ H s' → Q (.int kvs.length t) s') : wpAny (model X.prog X.w) A (call (.builtin "len") [.ref a]) Q E s := by
  obtain ⟨z, hd, vs, rel, dd⟩ := dk_rd I.hok e
  refine call_len_dict hd dd (by rw [← rel.length]; rw [sizeLine_eq] at z; omega) ?_
  rw [← rel.length]
  exact h _ _ (I.tok _)
/-- if d -/
theorem d_truth {Q : Bool → Shared → Prop} (I : Inv X pins σ H s) (e : Rd H a (.dK kvs)) (h : ∀ s', Inv X pins σ H s' → Q (!kvs.isEmpty) s') : wpAny (model X.prog X.w) A (truthy (.ref a)) Q E s := by
  obtain ⟨z, hd, vs, rel, dd⟩ := dk_rd I.hok e
  refine wpAny_truthy_dict hd dd (by rw [← rel.length]; rw [sizeLine_eq] at z; omega) ?_
  have q : kvs.isEmpty = vs.isEmpty := by cases rel <;> rfl
  rw [← q]
  exact h _ (I.tok _)
end


/-! ### readings and rules -/
/-- the element of a subscription, not a slice -/
def NoSl (i : Expr) : Prop := ∀ ov iv, subscripted i false ov iv = operate [ov, iv] (getItem ov iv)
theorem subD_of {prog : Program} {w : World} {A : Around} {E : Value → Shared → Prop} {s : Shared} {env : Env} {value slice : Expr} {pos : Pos} {T id : String} {Q : Value → Shared → Prop}
    (hl : typeLookup (.type T) "__getitem__" = pure (some (.builtin id))) (hs : NoSl slice)
    (h : wpAny (model prog w) A (eval value env) (fun o s₁ => wpAny (model prog w) A (eval slice env) (fun i s₂ => s₂.TypeIs o T ∧ wpAny (model prog w) A (getItem o i) Q E s₂) E s₁) E s) :
    wpAny (model prog w) A (eval (.Subscript value slice pos) env) Q E s := by
  refine Subscript_ (wpAny_mono h (fun o s₁ h₁ => wpAny_mono h₁ (fun i s₂ h₂ => ?_) fun _ _ x => x) fun _ _ x => x)
  obtain ⟨hT, h₂⟩ := h₂
  unfold subscriptTail
  refine wpAny_bind ?_
  rw [getitemInPython_of_ne hT.not_modules]
  refine wpAny_bind (wpAny_specialOf hT hl ?_)
  have fin : wpAny (model prog w) A (subscripted slice false o i) (fun r s₃ => wpAny (model prog w) A (letTemporaryGo value o r >>= fun _ => pure r) Q E s₃) E s₂ := by
    rw [hs o i]
    exact wpAny_operating (wpAny_mono h₂ (fun r s₃ h₃ => wpAny_bind (wpAny_letTemporaryGo (wpAny_pure h₃))) fun _ _ x => x)
  first
    | exact wpAny_pure (wpAny_bind fin)
    | exact wpAny_bind (wpAny_pure (wpAny_bind fin))
    | exact wpAny_bind fin

theorem dict_typeIs {X : Cx} {pins : List (Addr × Obj)} {σ : St} {H : Hp} {s : Shared} {a : Addr} {y : V} {o : Option V} (I : Inv X pins σ H s) (g : DGet H a y o) : s.TypeIs (.ref a) "dict" := by
  rcases g with ⟨kvs, k, e, _, _⟩ | ⟨kvs, k, b, e, _, _, _⟩
  · obtain ⟨_, _, vs, _, dd⟩ := dk_rd I.hok e
    exact dd.typeIs
  · obtain ⟨_, _, xs, _, dd⟩ := dt_rd I.hok e
    exact dd.typeIs
theorem dict_noDict {X : Cx} {pins : List (Addr × Obj)} {σ : St} {H : Hp} {s : Shared} {a : Addr} {y : V} {o : Option V} (I : Inv X pins σ H s) (g : DGet H a y o) :
    ∀ b, Value.ref a = .ref b → ∃ ob, s.heap.get? b = some ob ∧ ob.dict = none := fun b q => by
  cases q
  rcases g with ⟨kvs, k, e, _, _⟩ | ⟨kvs, k, b, e, _, _, _⟩
  · obtain ⟨_, _, vs, _, ob, _, _, h1, h2, _⟩ := dk_rd I.hok e
    exact ⟨ob, h1, h2.2.1⟩
  · obtain ⟨_, _, xs, _, ob, _, _, h1, h2, _⟩ := dt_rd I.hok e
    exact ⟨ob, h1, h2.2.1⟩

/-- d[y] -/
def tDGet (td ty : TE) : TE := fun σ H Q => td σ H fun x H1 => ty σ H1 fun y H2 => ∃ a v, x = .ref a ∧ DGet H2 a y (some v) ∧ Q v H2
/-- y in d, y not in d -/
def tDIn (ty td : TE) : TE := fun σ H Q => ty σ H fun y H1 => td σ H1 fun x H2 => ∃ a o, x = .ref a ∧ DGet H2 a y o ∧ Q (.bl o.isSome) H2
def tDNotIn (ty td : TE) : TE := fun σ H Q => ty σ H fun y H1 => td σ H1 fun x H2 => ∃ a o, x = .ref a ∧ DGet H2 a y o ∧ Q (.bl (!o.isSome)) H2
/-- d[y] = v -/
def sDPut (td ty tv : TE) : TS := fun D σ H => tv σ H fun v H1 => td σ H1 fun x H2 => ty σ H2 fun y H3 => ∃ a H4, x = .ref a ∧ DPut H3 a y v H4 ∧ D.nx σ H4
/-- d[y] op= v -/
def sDAug (td ty tv : TE) (rd : V → V → Hp → VK → Prop) : TS := fun D σ H => td σ H fun x H1 => ty σ H1 fun y H2 => ∃ a v, x = .ref a ∧ DGet H2 a y (some v) ∧
  tv σ H2 fun y2 H3 => rd v y2 H3 fun z H4 => ∃ H5, DPut H4 a y z H5 ∧ D.nx σ H5
/-- del d[y] -/
def sDDel (td ty : TE) : TS := fun D σ H => td σ H fun x H1 => ty σ H1 fun y H2 => ∃ a kvs k, x = .ref a ∧ H2 a = some (.dK kvs) ∧ y = kV k ∧ (valV kvs k).isSome = true ∧ D.nx σ (upd H2 a (.dK (dropK kvs k)))

section
variable {X : Cx} {o i e value : Expr} {pos pos' tpos : Pos} {td ty tv : TE}
theorem pe_dget (hu : X.A.units + 1 < cLine) (ho : PE X o td) (hi : PE X i ty) (hs : NoSl i) : PE X (.Subscript o i pos) (tDGet td ty) := by
  intro pins s σ H Q I h
  refine subD_of PySem.F.slot_dict_getitem.lookup hs (thn (ho pins s σ H _ I h) fun u s1 ⟨x, H1, I1, rx, q1⟩ => thn (hi pins s1 σ H1 _ I1 q1) fun iv s2 ⟨y, H2, I2, ry, a, v, ex, g, q2⟩ => ?_)
  subst ex
  obtain rfl : u = Value.ref a := rx
  exact ⟨dict_typeIs I2 g, d_getItem hu I2 g ry fun w' s3 I3 rw' => ⟨v, H2, I3, rw', q2⟩⟩
theorem pc_din (hu : X.A.units + 1 < cLine) (hi : PE X i ty) (ho : PE X o td) : PC X .In i o (tDIn ty td) := by
  intro pins s σ H Q I h
  refine thn (hi pins s σ H _ I h) fun iv s1 ⟨y, H1, I1, ry, q1⟩ => thn (ho pins s1 σ H1 _ I1 q1) fun u s2 ⟨x, H2, I2, rx, a, ov, ex, g, q2⟩ => ?_
  subst ex
  obtain rfl : u = Value.ref a := rx
  exact d_in hu I2 g ry fun s3 I3 => ⟨.bl ov.isSome, H2, I3, rfl, q2⟩
theorem pc_dnotin (hu : X.A.units + 1 < cLine) (hi : PE X i ty) (ho : PE X o td) : PC X .NotIn i o (tDNotIn ty td) := by
  intro pins s σ H Q I h
  refine thn (hi pins s σ H _ I h) fun iv s1 ⟨y, H1, I1, ry, q1⟩ => thn (ho pins s1 σ H1 _ I1 q1) fun u s2 ⟨x, H2, I2, rx, a, ov, ex, g, q2⟩ => ?_
  subst ex
  obtain rfl : u = Value.ref a := rx
  exact d_notIn hu I2 g ry fun s3 I3 => ⟨.bl (!ov.isSome), H2, I3, rfl, q2⟩
theorem ps_dput (hu : X.A.units + 1 < cLine) (ho : PE X o td) (hi : PE X i ty) (hv : PE X value tv) (hs : swapsWith value (some (.Subscript o i pos')) pos.line X.env = pure false) :
    PS X (.Assign [.Subscript o i pos'] value pos) (sDPut td ty tv) := by
  intro pins s σ H D I h
  refine wpAny_Assign_Subscript (thn (hv pins s σ H _ I h) fun r s1 ⟨v, H1, I1, rv, q1⟩ => thn (ho pins s1 σ H1 _ I1 q1) fun u s2 ⟨x, H2, I2, rx, q2⟩ => thn (hi pins s2 σ H2 _ I2 q2) fun iv s3 ⟨y, H3, I3, ry, a, H4, ex, g, q3⟩ => ?_) hs
  subst ex
  obtain rfl : u = Value.ref a := rx
  exact d_setItem hu I3 g ry rv fun s4 I4 => ⟨σ, H4, I4, q3⟩
theorem ps_daug {op : Operator} {rd : V → V → Hp → VK → Prop} (hu : X.A.units + 1 < cLine) (ho : PE X o td) (hi : PE X i ty) (hv : PE X value tv) (hop : InOp X op rd)
    (ha : ∀ ov iv new, augStore i ov iv new = (do holding [new, ov, iv] (setItem ov iv new); release [new, ov, iv] []; pure .next)) : PS X (.AugAssign (.Subscript o i tpos) op value pos) (sDAug td ty tv rd) := by
  intro pins s σ H D I h
  refine wpAny_AugAssign_SubscriptAny (thn (ho pins s σ H _ I h) fun u s1 ⟨x, H1, I1, rx, q1⟩ => thn (hi pins s1 σ H1 _ I1 q1) fun iv s2 ⟨y, H2, I2, ry, a, v, ex, g, q2⟩ => ?_) ha
  subst ex
  obtain rfl : u = Value.ref a := rx
  refine d_getItem hu I2 g ry fun w' s3 I3 rw' => thn (hv pins s3 σ H2 _ I3 q2) fun w2 s4 ⟨y2, H3, I4, ry2, q3⟩ => thn (hop pins s4 σ H3 v y2 w' w2 _ I4 rw' ry2 q3) fun w3 s5 ⟨z, H4, I5, rz, H5, g5, q4⟩ => ?_
  exact d_setItem hu I5 g5 ry rz fun s6 I6 => ⟨σ, H5, I6, q4⟩
theorem ps_ddel (ho : PE X o td) (hi : PE X i ty) : PS X (.Delete [.Subscript o i tpos] pos) (sDDel td ty) := by
  intro pins s σ H D I h
  refine wpAny_Delete (wpAny_deleteEach_cons (wpAny_delete_Subscript (thn (ho pins s σ H _ I h) fun u s1 ⟨x, H1, I1, rx, q1⟩ => thn (hi pins s1 σ H1 _ I1 q1) fun iv s2 ⟨y, H2, I2, ry, a, kvs, k, ex, e, ey, l, q2⟩ => ?_)))
  subst ex ey
  obtain rfl : u = Value.ref a := rx
  exact d_delItem I2 e ry l fun s3 I3 => wpAny_deleteEach_nil ⟨σ, _, I3, q2⟩
end


/-! ### displays -/
theorem dk_empty {P : Program} {w : World} {H : Hp} (h : Heap) (hb : sysModules < h.objs.size) : ObjOk P w H (h.push { cls := .type "dict", data := .dict #[] }) h.objs.size (.dK []) :=
  ⟨Nat.zero_le _, beq_eq_false_iff_ne.mpr (Ne.symm (Nat.ne_of_lt hb)), [], .nil, Heap.DictOf.new h⟩
theorem dt_empty {P : Program} {w : World} {H : Hp} (h : Heap) (hb : sysModules < h.objs.size) : ObjOk P w H (h.push { cls := .type "dict", data := .dict #[] }) h.objs.size (.dT []) :=
  ⟨Nat.zero_le _, beq_eq_false_iff_ne.mpr (Ne.symm (Nat.ne_of_lt hb)), [], .nil, _, #[], 0, Heap.get?_push_size _ rfl, ⟨rfl, rfl, rfl⟩, rfl, rfl, List.nodup_nil⟩
/-- {}, to be a dict of the kind that is wanted -/
def tDNewK : TE := fun _ H Q => ∀ p, H p = none → Q (.ref p) (upd H p (.dK []))
def tDNewT : TE := fun _ H Q => ∀ p, H p = none → Q (.ref p) (upd H p (.dT []))
section
variable {X : Cx} {pos : Pos}
theorem pe_dnewK : PE X (.Dict [] [] pos) tDNewK := fun pins s σ H Q I h =>
  wpAny_Dict_empty ⟨.ref s.heap.objs.size, _, I.laid (a := s.heap.objs.size) (o := .dK []) (t' := s.toks) (fun _ _ q => Heap.get?_push_of_some _ q) (Nat.le_refl _) (dk_empty s.heap I.big), rfl, h _ (I.hok.fresh (Nat.le_refl _))⟩
theorem pe_dnewT : PE X (.Dict [] [] pos) tDNewT := fun pins s σ H Q I h =>
  wpAny_Dict_empty ⟨.ref s.heap.objs.size, _, I.laid (a := s.heap.objs.size) (o := .dT []) (t' := s.toks) (fun _ _ q => Heap.get?_push_of_some _ q) (Nat.le_refl _) (dt_empty s.heap I.big), rfl, h _ (I.hok.fresh (Nat.le_refl _))⟩
end

/-- the pairs of a display, from the left -/
def tPairs : List (TE × TE) → St → Hp → (List (V × V) → Hp → Prop) → Prop
  | [], _, H, Q => Q [] H
  | (tk, tv) :: r, σ, H, Q => tk σ H fun x H1 => tv σ H1 fun y H2 => tPairs r σ H2 fun ps H3 => Q ((x, y) :: ps) H3
abbrev VV : List (V × V) → List (Value × Value) → Prop := Paired fun p q => RelV p.1 q.1 ∧ RelV p.2 q.2
def PPs (X : Cx) (pos : Pos) (keys : List (Option Expr)) (values : List Expr) (trs : List (TE × TE)) : Prop :=
  ∀ (pins : List (Addr × Obj)) (s : Shared) (σ : St) (H : Hp) (Q : List (V × V) → Hp → Prop), Inv X pins σ H s → tPairs trs σ H Q →
    wpAny (model X.prog X.w) X.A (evalPairs (pairTrees keys values X.env pos)) (fun vs s' => ∃ ps H', Inv X pins σ H' s' ∧ VV ps vs ∧ Q ps H') X.xe s
theorem pps_nil {X : Cx} {pos : Pos} : PPs X pos [] [] [] := fun pins s σ H Q I h => pairTrees_nil_walk ⟨[], H, I, .nil, h⟩
theorem pps_cons {X : Cx} {pos : Pos} {k v : Expr} {ks : List (Option Expr)} {vs : List Expr} {tk tv : TE} {trs : List (TE × TE)} (hk : PE X k tk) (hv : PE X v tv) (hr : PPs X pos ks vs trs) :
    PPs X pos (some k :: ks) (v :: vs) ((tk, tv) :: trs) := fun pins s σ H Q I h =>
  pairTrees_cons_walk (thn (hk pins s σ H _ I h) fun u s1 ⟨x, H1, I1, rx, q1⟩ => thn (hv pins s1 σ H1 _ I1 q1) fun w2 s2 ⟨y, H2, I2, ry, q2⟩ =>
    thn (hr pins s2 σ H2 _ I2 q2) fun ws s3 ⟨ps, H3, I3, rel, q3⟩ => ⟨(x, y) :: ps, H3, I3, .cons ⟨rx, ry⟩ rel, q3⟩)

def mergeK (kvs more : List (Key × V)) : List (Key × V) := more.foldl (fun acc kv => putK acc kv.1 kv.2) kvs
theorem KV.merge : ∀ {more : List (Key × V)} {rs : List (Key × Value)} {kvs : List (Key × V)} {vs : List (Key × Value)}, KV more rs → KV kvs vs → KV (mergeK kvs more) (merged vs rs) := by
  intro more rs kvs vs r
  unfold KV at r
  induction r generalizing kvs vs with
  | nil => intro q; exact q
  | @cons p q ps qs h t ih =>
    intro r0
    have e : KV (putK kvs p.1 p.2) (stored vs q.1 q.2) := by
      have := r0.put p.1 h.2
      rw [← h.1]; exact this
    exact ih e
theorem length_mergeK : ∀ (more kvs : List (Key × V)), (mergeK kvs more).length ≤ kvs.length + more.length
  | [], kvs => by show kvs.length ≤ kvs.length + 0; omega
  | p :: r, kvs => by
    have h1 := length_mergeK r (putK kvs p.1 p.2)
    have h2 := length_putK kvs p.1 p.2
    show (mergeK (putK kvs p.1 p.2) r).length ≤ _
    rw [List.length_cons]; omega
theorem carries_of {P : Program} {w : World} : ∀ {kvs : List (Key × V)} {ws : List (Value × Value)}, VV (kvs.map fun kv => (kV kv.1, kv.2)) ws → ∃ rs, Carries (mixKind P w) ws rs ∧ KV kvs rs
  | [], _, r => by rw [List.map_nil] at r; cases r; exact ⟨[], True.intro, .nil⟩
  | p :: kvs, _, r => by
    rw [List.map_cons] at r
    cases r with
    | @cons a b as bs h t =>
      obtain ⟨rs, c, q⟩ := carries_of (P := P) (w := w) t
      obtain ⟨b1, b2⟩ := b
      exact ⟨(p.1, b2) :: rs, ⟨kV_is h.1, rfl, c⟩, .cons ⟨rfl, h.2⟩ q⟩
/-- {k: v, ..} with keys ints and texts; the new dict stands empty while the pairs are made -/
def tDisp (trs : List (TE × TE)) : TE := fun σ H Q => ∀ p, H p = none → tPairs trs σ (upd H p (.dK [])) fun ps H2 => H2 p = some (.dK []) ∧ ∃ kvs : List (Key × V), ps = kvs.map (fun kv => (kV kv.1, kv.2)) ∧ kvs.length ≤ 15 ∧ Q (.ref p) (upd H2 p (.dK (mergeK [] kvs)))
theorem pe_disp {X : Cx} {pos : Pos} {keys : List (Option Expr)} {values : List Expr} {trs : List (TE × TE)} (h : PPs X pos keys values trs) (hall : keys.all (·.isSome) = true) (hl : keys.length = values.length) (h0 : keys ≠ [])
    (h15 : keys.length ≤ 15) : PE X (.Dict keys values pos) (tDisp trs) := by
  intro pins s σ H Q I q
  have hn := I.hok.fresh (Nat.le_refl s.heap.objs.size)
  have I1 := I.laid (a := s.heap.objs.size) (o := .dK []) (h' := s.heap.push { cls := .type "dict", data := .dict #[] }) (t' := s.toks) (fun _ _ q => Heap.get?_push_of_some _ q) (Nat.le_refl _) (dk_empty s.heap I.big)
  refine wpAny_Dict_walk (knd := mixKind X.prog X.w) hall hl h0 h15 (thn (h pins _ σ _ _ I1 (q _ hn)) fun ws s2 ⟨ps, H2, I2, rel, e, kvs, ep, lk, q2⟩ => ?_)
  subst ep
  obtain ⟨rs, c, rk⟩ := carries_of (P := X.prog) (w := X.w) rel
  obtain ⟨z, hd, vs0, r0, dd⟩ := dk_of I2.hok e
  cases r0
  refine ⟨rs, c, dd, fun h' dd' hs => ⟨.ref s.heap.objs.size, _, ?_, rfl, q2⟩⟩
  have hz : (mergeK [] kvs).length ≤ sizeLine := by
    have h1 := length_mergeK kvs []
    rw [List.length_nil] at h1
    rw [sizeLine_eq]; omega
  have he : ∃ q, h'.get? s.heap.objs.size = some q := let ⟨q, _, _, hq, _⟩ := dd'; ⟨q, hq⟩
  exact d_write I2 (by rw [e]; exact True.intro) hs he (dk_new hz hd (rk.merge .nil) dd')


/-! ### methods -/
/-- a method call o.m(e) of a built-in, with one argument: what must be seen of the text -/
structure M1 (X : Cx) (o : Expr) (m : Str) (apos : Pos) (e : Expr) (cpos : Pos) : Prop where
  base : attributeBase o m X.env (eval o X.env) = eval o X.env
  few : ((backTo cpos (starEach [e] X.env)).all (fun x => !x.1) && (backToKw cpos (keywordEach [] X.env)).all (fun x => x.1.isSome)
    && decide (([e] : List Expr).length + ([] : List Keyword).length + (if ([] : List Keyword).isEmpty then 0 else 1) < 30)) = true
  line : (apos.endLine == cpos.line) = true
  trees : backTo cpos (starEach [e] X.env) = [(false, eval e X.env)]
structure M2 (X : Cx) (o : Expr) (m : Str) (apos : Pos) (e f : Expr) (cpos : Pos) : Prop where
  base : attributeBase o m X.env (eval o X.env) = eval o X.env
  few : ((backTo cpos (starEach [e, f] X.env)).all (fun x => !x.1) && (backToKw cpos (keywordEach [] X.env)).all (fun x => x.1.isSome)
    && decide (([e, f] : List Expr).length + ([] : List Keyword).length + (if ([] : List Keyword).isEmpty then 0 else 1) < 30)) = true
  line : (apos.endLine == cpos.line) = true
  trees : backTo cpos (starEach [e, f] X.env) = [(false, eval e X.env), (false, eval f X.env)]

/-- a is a dict, whatever its keys -/
def IsD (H : Hp) (a : Addr) : Prop := (∃ kvs, Rd H a (.dK kvs)) ∨ ∃ kvs, Rd H a (.dT kvs)
theorem isD_at {X : Cx} {pins : List (Addr × Obj)} {σ : St} {H : Hp} {s : Shared} {a : Addr} (I : Inv X pins σ H s) (d : IsD H a) :
    s.TypeIs (.ref a) "dict" ∧ (∀ b, Value.ref a = .ref b → ∃ ob, s.heap.get? b = some ob ∧ ob.dict = none) ∧ (a == sysModules) = false := by
  rcases d with ⟨kvs, e⟩ | ⟨kvs, e⟩
  · obtain ⟨_, hd, vs, _, dd⟩ := dk_rd I.hok e
    refine ⟨dd.typeIs, fun b q => ?_, hd⟩
    cases q
    obtain ⟨ob, _, _, h1, h2, _⟩ := dd
    exact ⟨ob, h1, h2.2.1⟩
  · obtain ⟨_, hd, xs, _, dd⟩ := dt_rd I.hok e
    refine ⟨dd.typeIs, fun b q => ?_, hd⟩
    cases q
    obtain ⟨ob, _, _, h1, h2, _⟩ := dd
    exact ⟨ob, h1, h2.2.1⟩

section
variable {X : Cx} {pins : List (Addr × Obj)} {σ : St} {H : Hp} {s : Shared} {a : Addr} {y d : V} {u r : Value} {o : Option V} {A : Around} {E : Value → Shared → Prop}
/-- d.get(y) -/
theorem d_get1 {Q : Value → Shared → Prop} (hu : A.units + 1 < cLine) (I : Inv X pins σ H s) (g : DGet H a y o) (ry : RelV y u) (h : ∀ w' s', Inv X pins σ H s' → RelV (o.getD .non) w' → Q w' s') :
    wpAny (model X.prog X.w) A (call (.builtin "dict.get") [.ref a, u]) Q E s := by
  rcases g with ⟨kvs, k, e, ey, l⟩ | ⟨kvs, k, b, e, ey, eb, l⟩
  · subst ey
    obtain ⟨z, hd, vs, rel, dd⟩ := dk_rd I.hok e
    refine call_meetsIn PySem.F.slot_dict_get dd.typeIs PySem.F.entry_dict_get (PySem.F.args_dict_get_2 _ _) (meets_dict_get (mixKind X.prog X.w) a (kV_is ry) hd) ⟨_, dd.mapOf, h _ _ (I.tok _) ?_⟩
    rw [l]
    exact (rel.val k).getD rfl
  · subst ey
    cases (show u = Value.ref b from ry)
    obtain ⟨z, hd, xs, rel, dd⟩ := dt_rd I.hok e
    refine call_meetsIn PySem.F.slot_dict_get dd.typeIs PySem.F.entry_dict_get (PySem.F.args_dict_get_2 _ _) (meetsH_dict_get (tupleKind (mixKind X.prog X.w)) a b hd) ⟨tupleKind_room_in1 hu, k, xs, key_of I.hok eb, dd, h _ _ (I.tok _) ?_⟩
    rw [l]
    exact (rel.val k).getD rfl
/-- d.get(y, x) -/
theorem d_get2 {Q : Value → Shared → Prop} (hu : A.units + 1 < cLine) (I : Inv X pins σ H s) (g : DGet H a y o) (ry : RelV y u) (rd : RelV d r) (h : ∀ w' s', Inv X pins σ H s' → RelV (o.getD d) w' → Q w' s') :
    wpAny (model X.prog X.w) A (call (.builtin "dict.get") [.ref a, u, r]) Q E s := by
  rcases g with ⟨kvs, k, e, ey, l⟩ | ⟨kvs, k, b, e, ey, eb, l⟩
  · subst ey
    obtain ⟨z, hd, vs, rel, dd⟩ := dk_rd I.hok e
    refine call_meetsIn PySem.F.slot_dict_get dd.typeIs PySem.F.entry_dict_get (PySem.F.args_dict_get_3 _ _ _) (meets_dict_get_default (mixKind X.prog X.w) a (kV_is ry) hd r) ⟨_, dd.mapOf, h _ _ (I.tok _) ?_⟩
    rw [l]
    exact (rel.val k).getD rd
  · subst ey
    cases (show u = Value.ref b from ry)
    obtain ⟨z, hd, xs, rel, dd⟩ := dt_rd I.hok e
    refine call_meetsIn PySem.F.slot_dict_get dd.typeIs PySem.F.entry_dict_get (PySem.F.args_dict_get_3 _ _ _) (meetsH_dict_get_default (tupleKind (mixKind X.prog X.w)) a b hd r) ⟨tupleKind_room_in1 hu, k, xs, key_of I.hok eb, dd, h _ _ (I.tok _) ?_⟩
    rw [l]
    exact (rel.val k).getD rd
end

def tDGet1 (td ty : TE) : TE := fun σ H Q => td σ H fun x H1 => ∃ a, x = .ref a ∧ IsD H1 a ∧ ty σ H1 fun y H2 => ∃ o, DGet H2 a y o ∧ Q (o.getD .non) H2
def tDGet2 (td ty tx : TE) : TE := fun σ H Q => td σ H fun x H1 => ∃ a, x = .ref a ∧ IsD H1 a ∧ ty σ H1 fun y H2 => tx σ H2 fun z H3 => ∃ o, DGet H3 a y o ∧ Q (o.getD z) H3
/-- d.pop(k): there; d.pop(k, x): there or not -/
def tDPop1 (td ty : TE) : TE := fun σ H Q => td σ H fun x H1 => ∃ a, x = .ref a ∧ IsD H1 a ∧ ty σ H1 fun y H2 => ∃ kvs k v, H2 a = some (.dK kvs) ∧ y = kV k ∧ valV kvs k = some v ∧ Q v (upd H2 a (.dK (dropK kvs k)))
def tDPop2 (td ty tx : TE) : TE := fun σ H Q => td σ H fun x H1 => ∃ a, x = .ref a ∧ IsD H1 a ∧ ty σ H1 fun y H2 => tx σ H2 fun z H3 => ∃ kvs k, H3 a = some (.dK kvs) ∧ y = kV k ∧
  (∀ v, valV kvs k = some v → Q v (upd H3 a (.dK (dropK kvs k)))) ∧ (valV kvs k = none → Q z H3)
section
variable {X : Cx} {o e f : Expr} {apos cpos : Pos} {td ty tx : TE}
theorem pe_dget1 (hu : X.A.units + 1 < cLine) (ho : PE X o td) (he : PE X e ty) (m : M1 X o "get" apos e cpos) : PE X (.Call (.Attribute o "get" apos) [e] [] cpos) (tDGet1 td ty) := by
  intro pins s σ H Q I h
  refine wpAny_Call_method m.base m.few m.line PySem.F.plainAttrs_dict PySem.F.slot_dict_get PySem.F.type_dict_get (thn (ho pins s σ H _ I h) fun u s1 ⟨x, H1, I1, rx, a, ex, d, q1⟩ => ?_)
  subst ex
  obtain rfl : u = Value.ref a := rx
  obtain ⟨t1, t2, _⟩ := isD_at I1 d
  refine ⟨t1, t2, ?_⟩
  rw [m.trees]
  refine Calls.callWith_builtin rfl (Calls.evalArgs_plain (Calls.spliced_cons (thn (he pins s1 σ H1 _ I1 q1) fun iv s2 ⟨y, H2, I2, ry, ov, g, q2⟩ => Calls.spliced_nil ?_)))
  exact d_get1 hu I2 g ry fun w' s3 I3 rw' => ⟨_, H2, I3, rw', q2⟩
theorem pe_dget2 (hu : X.A.units + 1 < cLine) (ho : PE X o td) (he : PE X e ty) (hf : PE X f tx) (m : M2 X o "get" apos e f cpos) : PE X (.Call (.Attribute o "get" apos) [e, f] [] cpos) (tDGet2 td ty tx) := by
  intro pins s σ H Q I h
  refine wpAny_Call_method m.base m.few m.line PySem.F.plainAttrs_dict PySem.F.slot_dict_get PySem.F.type_dict_get (thn (ho pins s σ H _ I h) fun u s1 ⟨x, H1, I1, rx, a, ex, d, q1⟩ => ?_)
  subst ex
  obtain rfl : u = Value.ref a := rx
  obtain ⟨t1, t2, _⟩ := isD_at I1 d
  refine ⟨t1, t2, ?_⟩
  rw [m.trees]
  refine Calls.callWith_builtin rfl (Calls.evalArgs_plain (Calls.spliced_cons (thn (he pins s1 σ H1 _ I1 q1) fun iv s2 ⟨y, H2, I2, ry, q2⟩ =>
    Calls.spliced_cons (thn (hf pins s2 σ H2 _ I2 q2) fun fv s3 ⟨z, H3, I3, rz, ov, g, q3⟩ => Calls.spliced_nil ?_))))
  exact d_get2 hu I3 g ry rz fun w' s4 I4 rw' => ⟨_, H3, I4, rw', q3⟩
theorem pe_dpop1 (ho : PE X o td) (he : PE X e ty) (m : M1 X o "pop" apos e cpos) : PE X (.Call (.Attribute o "pop" apos) [e] [] cpos) (tDPop1 td ty) := by
  intro pins s σ H Q I h
  refine wpAny_Call_method m.base m.few m.line PySem.F.plainAttrs_dict PySem.F.slot_dict_pop PySem.F.type_dict_pop (thn (ho pins s σ H _ I h) fun u s1 ⟨x, H1, I1, rx, a, ex, d, q1⟩ => ?_)
  subst ex
  obtain rfl : u = Value.ref a := rx
  obtain ⟨t1, t2, _⟩ := isD_at I1 d
  refine ⟨t1, t2, ?_⟩
  rw [m.trees]
  refine Calls.callWith_builtin rfl (Calls.evalArgs_plain (Calls.spliced_cons (thn (he pins s1 σ H1 _ I1 q1) fun iv s2 ⟨y, H2, I2, ry, kvs, k, v, ea, ey, l, q2⟩ => Calls.spliced_nil ?_)))
  subst ey
  exact d_pop I2 ea ry l (.inl rfl) fun w' s3 I3 rw' => ⟨v, _, I3, rw', q2⟩
theorem pe_dpop2 (ho : PE X o td) (he : PE X e ty) (hf : PE X f tx) (m : M2 X o "pop" apos e f cpos) : PE X (.Call (.Attribute o "pop" apos) [e, f] [] cpos) (tDPop2 td ty tx) := by
  intro pins s σ H Q I h
  refine wpAny_Call_method m.base m.few m.line PySem.F.plainAttrs_dict PySem.F.slot_dict_pop PySem.F.type_dict_pop (thn (ho pins s σ H _ I h) fun u s1 ⟨x, H1, I1, rx, a, ex, d, q1⟩ => ?_)
  subst ex
  obtain rfl : u = Value.ref a := rx
  obtain ⟨t1, t2, _⟩ := isD_at I1 d
  refine ⟨t1, t2, ?_⟩
  rw [m.trees]
  refine Calls.callWith_builtin rfl (Calls.evalArgs_plain (Calls.spliced_cons (thn (he pins s1 σ H1 _ I1 q1) fun iv s2 ⟨y, H2, I2, ry, q2⟩ =>
    Calls.spliced_cons (thn (hf pins s2 σ H2 _ I2 q2) fun fv s3 ⟨z, H3, I3, rz, kvs, k, ea, ey, q3, q4⟩ => Calls.spliced_nil ?_))))
  subst ey
  cases l : valV kvs k with
  | some v => exact d_pop I3 ea ry l (.inr ⟨fv, rfl⟩) fun w' s4 I4 rw' => ⟨v, _, I4, rw', q3 v l⟩
  | none => exact d_popD I3 ea ry l fun s4 I4 => ⟨z, H3, I4, rz, q4 l⟩
end

/-! ### dict(d): a copy -/
section
variable {X : Cx} {pins : List (Addr × Obj)} {σ : St} {H : Hp} {s : Shared} {a : Addr} {kvs : List (Key × V)} {A : Around} {E : Value → Shared → Prop}
theorem d_copyOf {Q : Value → Shared → Prop} (I : Inv X pins σ H s) (e : Rd H a (.dK kvs)) (h : ∀ p s', H p = none → Inv X pins σ (upd H p (.dK kvs)) s' → Q (.ref p) s') : wpAny (model X.prog X.w) A (call (.type "dict") [.ref a]) Q E s := by
  obtain ⟨z, hd, vs, rel, dd⟩ := dk_rd I.hok e
  refine kt_call_dict hd dd (by rw [← rel.length]; exact z) fun h' dd' hs => ?_
  refine h _ _ (I.hok.fresh (Nat.le_refl _)) (I.laid (a := s.heap.objs.size) (o := .dK kvs) (t' := s.toks) (fun b q hq => ?_) (Nat.le_refl _) (dk_new z (beq_eq_false_iff_ne.mpr (Ne.symm (Nat.ne_of_lt I.big))) rel dd'))
  exact (hs.2 b (Nat.ne_of_lt (Heap.lt_size hq))).trans (Heap.get?_push_of_some _ hq)
end


section
variable {X : Cx} {pins : List (Addr × Obj)} {σ : St} {H : Hp} {s : Shared} {a : Addr} {y : V} {u : Value} {A : Around} {E : Value → Shared → Prop}
/-- d[y], not there: a KeyError -/
theorem d_missing {Q : Value → Shared → Prop} (hu : A.units + 1 < cLine) (hh : A.handled = none) (I : Inv X pins σ H s) (g : DGet H a y none) (ry : RelV y u)
    (h : ∀ h' e t', Heap.NewExc s.heap h' e "KeyError" → E (.ref e) { s with heap := h', toks := t' }) : wpAny (model X.prog X.w) A (getItem (.ref a) u) Q E s := by
  rcases g with ⟨kvs, k, e, ey, l⟩ | ⟨kvs, k, b, e, ey, eb, l⟩
  · subst ey
    obtain ⟨z, hd, vs, rel, dd⟩ := dk_rd I.hok e
    have hn : valueAt vs k = none := RelO.none_of (by rw [l]; exact rel.val k)
    exact wpAny_getItem_missing_of (kV_is ry) hd hh dd.mapOf hn fun h' ex ne => h h' ex _ ne
  · subst ey
    cases (show u = Value.ref b from ry)
    obtain ⟨z, hd, xs, rel, dd⟩ := dt_rd I.hok e
    have hn : (atKey xs k).map (·.2) = none := RelO.none_of (by rw [l]; exact rel.val k)
    exact wpAny_getItem_missing_heap (tupleKind_room_in1 hu) (key_of I.hok eb) hd hh dd (Option.map_eq_none_iff.mp hn) fun h' ex ne => h h' ex _ ne
end
end L2

namespace HT
open PySem PyProof.Rows

/-- t < u of tuples of ints -/
def lexLt : List Int → List Int → Bool
  | [], [] => false
  | [], _ :: _ => true
  | _ :: _, [] => false
  | x :: xs, y :: ys => if x = y then lexLt xs ys else decide (x < y)
theorem lexLt_cons (x y : Int) (xs ys : List Int) : lexLt (x :: xs) (y :: ys) = if x = y then lexLt xs ys else decide (x < y) := rfl
theorem lexLt_nil_nil : lexLt [] [] = false := rfl
theorem lexLt_nil_cons (y : Int) (ys : List Int) : lexLt [] (y :: ys) = true := rfl
theorem lexLt_cons_nil (x : Int) (xs : List Int) : lexLt (x :: xs) [] = false := rfl

theorem eqAt_int (A : Around) (s : Shared) (a : Int) (t : Tok) (c : Int) (u : Tok) : ∃ e, SeqAt.EqAt A s (.int a t) (.int c u) e ∧ (e = true ↔ a = c) :=
  ⟨(a == c), SeqAt.EqAt.int_int a t c u, by simp⟩
theorem rcLt_int (A : Around) (s : Shared) (a : Int) (t : Tok) (c : Int) (u : Tok) (prog : Program) (w : World) (E : Value → Shared → Prop) (Q : Value → Shared → Prop) (h : Q (.bool (decide (a < c))) s) :
    wpAny (model prog w) A (richCompare .Lt (.int a t) (.int c u)) Q E s :=
  (PyProof.Rows.lt_int h : wpAny (model prog w) A (compareOp .Lt (.int a t) (.int c u)) Q E s)

section
open PySem.SeqAt
open PySem.AutoSeq1 (wpAny_loadPart')
open PySem.MeetsSeq PySem.MeetsSeq2 PySem.MeetsSeq3

theorem tuple_lt_ints (l b : Addr) (items items2 : Array Value) (n n2 : Nat) (dd dd2 : Option Addr) (sl sl2 : Array (Option Value)) (ns ms : List Int) (hi : IntsAre items.toList ns) (hj : IntsAre items2.toList ms) :
    Meets (Builtin.«tuple.__lt__» ⟨[.ref l, .ref b], []⟩)
      (fun _ R s => s.heap.get? l = some { cls := .type "tuple", dict := dd, data := .seq items n, slots := sl } ∧ s.heap.get? b = some { cls := .type "tuple", dict := dd2, data := .seq items2 n2, slots := sl2 } ∧
        R (.ok (.ret (.bool (lexLt ns ms)))) s) :=
  .of_wp fun prog w A R s h => by
    obtain ⟨hp, g, d, tk, os⟩ := s; obtain ⟨hl, hb, h⟩ := h
    have f2 := AutoSeq1.sub_tuple_tuple
    have z1 : items.size = ns.length := by rw [← hi.length]; simp
    have z2 : items2.size = ms.length := by rw [← hj.length]; simp
    wp_walk using wpAny_loadPart' hl, wpAny_loadPart' hb, wpAny_forIn_list _ (fun rest b s' => b.1 = none ∧ s' = ⟨hp, g, d, tk, os⟩ ∧ ∃ (vs ws : List Value) (ns' ms' : List Int), rest = vs.zip ws ∧
      IntsAre vs ns' ∧ IntsAre ws ms' ∧ ns'.length + items2.size = ms'.length + items.size ∧ R (.ok (.ret (.bool (lexLt ns' ms')))) ⟨hp, g, d, tk, os⟩) _
    case turn =>
      rintro ⟨y, x⟩ rest b s' ⟨hb', rfl, vs, ws, ns', ms', hz, hvi, hwi, hlen, hR⟩
      cases hvi with
      | nil => rw [List.zip_nil_left] at hz; cases hz
      | cons a t hvi' =>
        cases hwi with
        | nil => rw [List.zip_nil_right] at hz; cases hz
        | cons c u hwi' =>
          rw [List.zip_cons_cons] at hz
          injection hz with hyx hrest
          injection hyx with hy hx
          subst hy hx
          rw [lexLt_cons] at hR
          simp only [List.length_cons] at hlen
          obtain ⟨e, he, hiff⟩ := eqAt_int A.in1 ⟨hp, g, d, tk, os⟩ a t c u
          refine wpAny_bind (he prog w _ _ ?_)
          cases e with
          | true =>
            rw [if_pos (hiff.mp rfl)] at hR
            wp_walk
            exact ⟨rfl, rfl, _, _, _, _, hrest, hvi', hwi', by omega, hR⟩
          | false =>
            rw [if_neg (fun q => absurd (hiff.mpr q) Bool.false_ne_true)] at hR
            have hri := rcLt_int A.in1 ⟨hp, g, d, tk, os⟩ a t c u prog w
            wp_walk using hri
            exact ⟨_, rfl, by simpa using hR⟩
    case fin =>
      rintro ⟨b1, b2⟩ s' ⟨hb', rfl, vs, ws, ns', ms', hz, hvi, hwi, hlen, hR⟩
      simp only at hb'
      subst hb'
      have hv : lexLt ns' ms' = decide (items.size < items2.size) := by
        cases hvi with
        | nil =>
          cases hwi with
          | nil =>
            simp only [List.length_nil] at hlen
            rw [lexLt_nil_nil]
            exact (decide_eq_false (by omega)).symm
          | cons c u hw =>
            simp only [List.length_nil, List.length_cons] at hlen
            rw [lexLt_nil_cons]
            exact (decide_eq_true (by omega)).symm
        | cons a t hv =>
          cases hwi with
          | nil =>
            simp only [List.length_nil, List.length_cons] at hlen
            rw [lexLt_cons_nil]
            exact (decide_eq_false (by omega)).symm
          | cons c u hw =>
            rw [List.zip_cons_cons] at hz
            cases hz
      rw [hv] at hR
      wp_walk
      exact ⟨_, rfl, by simpa [Builtin.Tuple.tupleCompareSizes] using hR⟩
    case h =>
      exact ⟨rfl, rfl, items.toList, items2.toList, ns, ms, rfl, hi, hj, by omega, h⟩
end

section
variable {prog : Program} {w : World} {A : Around} {E : Value → Shared → Prop} {s : Shared}

theorem lt_tupInts {l b : Addr} {items items2 : Array Value} {ns ms : List Int} {Q : Value → Shared → Prop} (hl : IsTup s.heap l items) (hb : IsTup s.heap b items2) (hi : IntsAre items.toList ns) (hj : IntsAre items2.toList ms)
    (hu : A.units < cLine) (h : Q (.bool (lexLt ns ms)) s) : wpAny (model prog w) A (compareOp .Lt (.ref l) (.ref b)) Q E s := by
  obtain ⟨⟨cls, dd, data, sl⟩, ho, hc, n, hd⟩ := id hl
  obtain ⟨⟨cls2, dd2, data2, sl2⟩, ho2, hc2, n2, hd2⟩ := id hb
  simp only at hc hd hc2 hd2
  subst hc hd hc2 hd2
  exact richCompare_meets_room (op := .Lt) ⟨_, ho, rfl⟩ ⟨_, ho2, rfl⟩ PySem.F.slot_tuple_lt PySem.F.entry_tuple_lt (PySem.F.args_tuple_lt_2 _ _) (tuple_lt_ints l b items items2 n n2 dd dd2 sl sl2 ns ms hi hj)
    ⟨ho, ho2, show Value.bool (lexLt ns ms) ≠ Value.notImplemented ∧ Q (.bool (lexLt ns ms)) s from ⟨(fun x => nomatch x), h⟩⟩ hu

/-- t + u, t not empty -/
theorem cat_tup {t b : Addr} {vs ws : List Value} {Q : Value → Shared → Prop} (ht : IsTup s.heap t vs.toArray) (hb : IsTup s.heap b ws.toArray) (hv : vs ≠ [])
    (h1 : ws = [] → Q (.ref t) s) (h2 : ws ≠ [] → Q (.ref s.heap.objs.size) { s with heap := s.heap.push { cls := .type "tuple", data := .seq (vs ++ ws).toArray } })
    (hsz : vs.length + ws.length ≤ sizeLine) : wpAny (model prog w) A (binaryOp .Add (.ref t) (.ref b)) Q E s := by
  obtain ⟨⟨cls, dd, data, sl⟩, ho, hc, n, hd⟩ := id ht
  obtain ⟨⟨cls2, dd2, data2, sl2⟩, ho2, hc2, n2, hd2⟩ := id hb
  simp only at hc hd hc2 hd2
  subst hc hd hc2 hd2
  have e : vs.toArray ++ ws.toArray = (vs ++ ws).toArray := by simp
  by_cases hw : ws = []
  · exact concat_meets ⟨_, ho, rfl⟩ ⟨_, ho2, rfl⟩ noFill_tuple_add seq_tuple_add PySem.F.slot_tuple_add PySem.F.entry_tuple_add (PySem.F.args_tuple_add_2 _ _)
      (tuple_addW1 t b vs.toArray ws.toArray n n2 dd dd2 sl sl2 (by simpa using hv) (by simp [hw])) ⟨ho, ho2, h1 hw⟩
  · refine concat_meets ⟨_, ho, rfl⟩ ⟨_, ho2, rfl⟩ noFill_tuple_add seq_tuple_add PySem.F.slot_tuple_add PySem.F.entry_tuple_add (PySem.F.args_tuple_add_2 _ _)
      (tuple_addW2 t b vs.toArray ws.toArray n n2 dd dd2 sl sl2 (by simpa using hv) (by simpa using hw) (by rw [List.size_toArray, List.size_toArray]; exact hsz)) ⟨ho, ho2, ?_⟩
    rw [e]
    exact h2 hw

/-! ### t[a:b], not the whole -/
/-- a slice's bound as a place among n (d where it is left out) -/
def sIx (n d : Nat) : Option Int → Nat
  | none => d
  | some v => if v < 0 then (v + (n : Int)).toNat else min v.toNat n
theorem sIx_none (n d : Nat) : sIx n d none = d := rfl
theorem sIx_nat (n d k : Nat) : sIx n d (some (k : Int)) = min k n := by
  show (if (k : Int) < 0 then ((k : Int) + (n : Int)).toNat else min (k : Int).toNat n) = min k n
  rw [if_neg (by omega), Int.toNat_natCast]
theorem sIx_le (n d : Nat) (hd : d ≤ n) (o : Option Int) : sIx n d o ≤ n := by
  cases o with
  | none => exact hd
  | some v =>
    show (if v < 0 then (v + (n : Int)).toNat else min v.toNat n) ≤ n
    by_cases hv : v < 0
    · rw [if_pos hv]; omega
    · rw [if_neg hv]; exact Nat.min_le_right _ _
theorem clip_eq (v : Int) (n d : Nat) : (if v < 0 then max (v + (n : Int)) 0 else min v (n : Int)) = ((sIx n d (some v) : Nat) : Int) := by
  show (if v < 0 then max (v + (n : Int)) 0 else min v (n : Int)) = (((if v < 0 then (v + (n : Int)).toNat else min v.toNat n) : Nat) : Int)
  by_cases hv : v < 0
  · simp only [if_pos hv]; omega
  · simp only [if_neg hv]; omega
theorem adjust_gen (lo hi : Option Int) (n : Nat) : Builtin.Slice.sliceAdjust lo hi 1 (n : Int) = (((sIx n 0 lo : Nat) : Int), ((sIx n n hi : Nat) : Int)) := by
  have h1 : ¬ ((1 : Int) < 0) := by omega
  unfold Builtin.Slice.sliceAdjust
  simp only [h1, if_false]
  refine Prod.ext ?_ ?_
  · cases lo with
    | none => rfl
    | some v => exact clip_eq v n 0
  · cases hi with
    | none => rfl
    | some v => exact clip_eq v n n
theorem places_gen (i j : Nat) : Builtin.Slice.slicePlaces (i : Int) (j : Int) 1 = j - i := by
  unfold Builtin.Slice.slicePlaces
  have h1 : (1 : Int) > 0 := by omega
  simp only [h1, if_true, Int.ediv_one]
  split <;> omega
theorem slicePart_ {v : Value} {o : Option Int} {Q : Option Int → Shared → Prop} (p : IsPart v o) (h : Q o s) : wpAny (model prog w) A (Builtin.Slice.slicePartIndex v) Q E s := by
  cases p with
  | none => exact slicePart_none h
  | int i t => exact slicePart_int h
theorem sliceApplied_gen {sl : Addr} {vl vu : Value} {lo hi : Option Int} {n : Nat} {Q : Int × Int × Nat → Shared → Prop} (hs : s.heap.IsSliceOf sl vl vu .none) (pl : IsPart vl lo) (pu : IsPart vu hi)
    (h : Q (((sIx n 0 lo : Nat) : Int), 1, sIx n n hi - sIx n 0 lo) s) : wpAny (model prog w) A (Builtin.Slice.sliceApplied (.ref sl) (pure (n : Int))) Q E s := by
  obtain ⟨os, hos, hcs, hds⟩ := id hs
  unfold Builtin.Slice.sliceApplied Builtin.Slice.sliceFields
  refine wpAny_bind (wpAny_bind (wpAny_field hos hds (x := vl) rfl (wpAny_bind (wpAny_field hos hds (x := vu) rfl (wpAny_bind (wpAny_field hos hds (x := .none) rfl (wpAny_pure ?_)))))))
  refine wpAny_bind (slicePart_none ?_)
  show wpAny _ _ (if ((1 : Int) == 0) = true then _ else _) _ _ s
  rw [if_neg (by decide)]
  refine wpAny_bind (slicePart_ pl (wpAny_bind (slicePart_ pu (wpAny_bind (wpAny_pure ?_)))))
  show wpAny _ _ (match Builtin.Slice.sliceAdjust lo hi 1 (n : Int) with | (lo, hi) => pure (lo, (1 : Int), Builtin.Slice.slicePlaces lo hi 1)) _ _ s
  rw [adjust_gen lo hi n]
  show wpAny _ _ (pure (((sIx n 0 lo : Nat) : Int), (1 : Int), Builtin.Slice.slicePlaces ((sIx n 0 lo : Nat) : Int) ((sIx n n hi : Nat) : Int) 1)) _ _ s
  rw [places_gen]
  exact wpAny_pure h
theorem pick_gen (xs : Array Value) (i k : Nat) : ((List.range k).filterMap fun (m : Nat) => xs[((i : Int) + (m : Int) * 1).toNat]?).toArray = ((xs.toList.drop i).take k).toArray := by
  have e : (fun (m : Nat) => xs[((i : Int) + (m : Int) * 1).toNat]?) = fun m => xs[i + m]? := by
    funext m
    have : ((i : Int) + (m : Int) * 1).toNat = i + m := by omega
    rw [this]
  rw [e]
  have := pick_run xs i k
  rw [List.filterMap_map] at this
  have e2 : ((fun x => xs[x]?) ∘ fun x => i + x) = fun m => xs[i + m]? := rfl
  rw [e2] at this
  rw [this]

theorem getItem_tuple_cut {t sl : Addr} {items : Array Value} {vl vu : Value} {lo hi : Option Int} {Q : Value → Shared → Prop} (ht : IsTup s.heap t items) (hs : s.heap.IsSliceOf sl vl vu .none) (pl : IsPart vl lo) (pu : IsPart vu hi)
    (hw : ¬ (sIx items.size 0 lo = 0 ∧ sIx items.size items.size hi = items.size))
    (h : Q (.ref s.heap.objs.size) { s with heap := s.heap.push { cls := .type "tuple", data := .seq ((items.toList.drop (sIx items.size 0 lo)).take (sIx items.size items.size hi - sIx items.size 0 lo)).toArray } })
    (hsz : items.size ≤ sizeLine) : wpAny (model prog w) A (getItem (.ref t) (.ref sl)) Q E s := by
  have htake : sizeOk (.seq ((items.toList.drop (sIx items.size 0 lo)).take (sIx items.size items.size hi - sIx items.size 0 lo)).toArray) := by
    show ((items.toList.drop (sIx items.size 0 lo)).take (sIx items.size items.size hi - sIx items.size 0 lo)).toArray.size ≤ sizeLine
    rw [List.size_toArray, List.length_take, List.length_drop, Array.length_toList]
    omega
  have hj : sIx items.size items.size hi ≤ items.size := sIx_le _ _ (Nat.le_refl _) hi
  obtain ⟨os, hos, hcs, hds⟩ := id hs
  have hTs : s.TypeIs (.ref sl) "slice" := ⟨os, hos, hcs⟩
  unfold getItem
  try with_reducible refine wpAny_holding ?_
  first | refine wpAny_bind (wpAny_pure ?_) | skip
  refine wpAny_bind (wpAny_sequenceKey ht.typeIs (by decide) ?_)
  refine wpAny_bind (wpAny_callSpecial?_slot (name := Str.ofString "__getitem__") ht.typeIs PyProof.Rows.slot_tuple_getitem
    (wpAny_call_entry PyProof.Rows.slot_tuple_getitem ht.typeIs entry_tuple_getitem ?_ (args_tuple_getitem _ _)))
  show wpAny _ _ (Builtin.Tuple.tupleItemsOf (.ref t) >>= _) _ _ s
  refine wpAny_bind (tupleItemsOf_ ht ?_)
  refine wpAny_bind (wpAny_typeOf hTs ?_)
  rw [if_pos (by decide)]
  refine wpAny_bind (sliceApplied_gen hs pl pu ?_)
  have hno : ¬ ((((sIx items.size 0 lo : Nat) : Int) == 0 && (1 : Int) == 1 && (sIx items.size items.size hi - sIx items.size 0 lo) == items.size) = true) := by
    intro q
    rw [Bool.and_eq_true, Bool.and_eq_true] at q
    have q1 : ((sIx items.size 0 lo : Nat) : Int) = 0 := eq_of_beq q.1.1
    have q2 : sIx items.size items.size hi - sIx items.size 0 lo = items.size := eq_of_beq q.2
    exact hw ⟨by omega, by omega⟩
  show wpAny _ _ (if (((sIx items.size 0 lo : Nat) : Int) == 0 && (1 : Int) == 1 && (sIx items.size items.size hi - sIx items.size 0 lo) == items.size) = true then _ else _) _ _ s
  rw [if_neg hno, pick_gen]
  first
    | exact wpAny_bind (m := Builtin.Tuple.tupleExact _) (wpAny_newObj_type (wpAny_pure ⟨_, rfl, wpAny_pure h⟩) htake)
    | exact wpAny_bind (m := Builtin.Tuple.tupleExact _) (wpAny_newObj_type (wpAny_bind (wpAny_pure (wpAny_pure ⟨_, rfl, wpAny_pure h⟩))) htake)
    | exact wpAny_bind (wpAny_bind (m := Builtin.Tuple.tupleExact _) (wpAny_newObj_type (wpAny_pure (wpAny_pure ⟨_, rfl, wpAny_pure h⟩)) htake))
    | exact wpAny_bind (wpAny_bind (m := Builtin.Tuple.tupleExact _) (wpAny_newObj_type (wpAny_pure ⟨_, rfl, wpAny_pure h⟩) htake))
end
end HT

namespace L2
open PySem PySem.Spec PyProof.Rows

/-! ### the parts of a slice -/
abbrev TO := St → Hp → (Option Int → Hp → Prop) → Prop
/-- a slice's part (left out, or an int) -/
def PO (X : Cx) (e : Option Expr) (t : TO) : Prop :=
  ∀ (pins : List (Addr × Obj)) (s : Shared) (σ : St) (H : Hp) (Q : Option Int → Hp → Prop), Inv X pins σ H s → t σ H Q →
    wpAny (model X.prog X.w) X.A (evalPart e X.env) (fun u s' => ∃ o H', Inv X pins σ H' s' ∧ IsPart u o ∧ Q o H') X.xe s
def tNoPart : TO := fun _ H Q => Q none H
def tPart (t : TE) : TO := fun σ H Q => t σ H fun x H1 => ∃ i, x = .int i ∧ Q (some i) H1

theorem intsAre_of {ns : List Int} : ∀ {us : List Value}, Vals (ns.map V.int) us → IntsAre us ns := by
  induction ns with
  | nil => intro us r; rw [List.map_nil] at r; cases r; exact .nil
  | cons n ns ih =>
    intro us r
    rw [List.map_cons] at r
    cases r with
    | cons r1 r2 =>
      obtain ⟨t, e⟩ := r1
      subst e
      exact .cons n t (ih r2)

section
variable {X : Cx} {e : Expr} {te : TE} {lo hi : Option Expr} {tl th : TO} {pos p2 : Pos}

theorem po_none : PO X none tNoPart := by
  intro pins s σ H Q I h
  rw [evalPart_none]
  exact wpAny_pure ⟨none, H, I, .none, h⟩
theorem po_some (h : PE X e te) : PO X (some e) (tPart te) := by
  intro pins s σ H Q I hw
  rw [evalPart_some]
  refine thn (h pins s σ H _ I hw) fun u s1 ⟨x, H1, I1, r1, q1⟩ => ?_
  obtain ⟨i, rfl, q⟩ := q1
  obtain ⟨t, rfl⟩ := r1
  exact ⟨some i, H1, I1, .int i t, q⟩

/-- what a slice of a value is, by values: the slice object stands at sl -/
def SlR (X : Cx) (r : V → Option Int → Option Int → Hp → VK → Prop) : Prop :=
  ∀ (pins : List (Addr × Obj)) (s : Shared) (σ : St) (H : Hp) (x : V) (v vl vu : Value) (lo hi : Option Int) (sl : Addr) (Q : VK), Inv X pins σ H s → RelV x v → s.heap.IsSliceOf sl vl vu .none → IsPart vl lo → IsPart vu hi → r x lo hi H Q →
    ∃ T id, typeLookup (.type T) "__getitem__" = pure (some (.builtin id)) ∧ s.TypeIs v T ∧ wpAny (model X.prog X.w) X.A (getItem v (.ref sl)) (EP X pins σ Q) X.xe s
theorem SlR.or {r r' : V → Option Int → Option Int → Hp → VK → Prop} (h : SlR X r) (h' : SlR X r') : SlR X (fun x lo hi H Q => r x lo hi H Q ∨ r' x lo hi H Q) := by
  intro pins s σ H x v vl vu lo hi sl Q I rx hs pl pu q
  rcases q with q | q
  · exact h pins s σ H x v vl vu lo hi sl Q I rx hs pl pu q
  · exact h' pins s σ H x v vl vu lo hi sl Q I rx hs pl pu q
def tSl (r : V → Option Int → Option Int → Hp → VK → Prop) (te : TE) (tl th : TO) : TE := fun σ H Q => te σ H fun x H1 => tl σ H1 fun l H2 => th σ H2 fun u H3 => r x l u H3 Q
/-- a[lo:hi], any a -/
theorem pe_slice {r : V → Option Int → Option Int → Hp → VK → Prop} (hr : SlR X r) (he : PE X e te) (hl : PO X lo tl) (hu : PO X hi th) : PE X (.Subscript e (.Slice lo hi none p2) pos) (tSl r te tl th) := by
  intro pins s σ H Q I h
  refine Subscript_ (thn (he pins s σ H _ I h) fun v s1 ⟨x, H1, I1, r1, q1⟩ => ?_)
  refine wpAny_Slice (thn (hl pins s1 σ H1 _ I1 q1) fun vl s2 ⟨l, H2, I2, pl, q2⟩ => thn (hu pins s2 σ H2 _ I2 q2) fun vu s3 ⟨u, H3, I3, pu, q3⟩ => ?_)
  rw [evalPart_none]
  refine wpAny_pure ?_
  have I4 : Inv X pins σ H3 { s3 with heap := s3.heap.push { cls := .type "slice", data := .fields #[vl, vu, .none] } } := I3.kept (t' := s3.toks) fun b ob q => Heap.get?_push_of_some _ q
  obtain ⟨T, id, hT, ht, hg⟩ := hr pins { s3 with heap := s3.heap.push { cls := .type "slice", data := .fields #[vl, vu, .none] } } σ H3 x v vl vu l u s3.heap.objs.size Q I4 r1 (Heap.IsSliceOf.new ..) pl pu q3
  show wpAny (model X.prog X.w) X.A (subscriptTail e (.Slice lo hi none p2) v (.ref s3.heap.objs.size)) (EP X pins σ Q) X.xe { s3 with heap := s3.heap.push { cls := .type "slice", data := .fields #[vl, vu, .none] } }
  exact tail_any (ops := [.ref s3.heap.objs.size, v]) ht hT hg (by with_unfolding_all rfl)

/-- the items of xs[lo:hi] -/
def cutV (xs : List V) (lo hi : Option Int) : List V := (xs.drop (HT.sIx xs.length 0 lo)).take (HT.sIx xs.length xs.length hi - HT.sIx xs.length 0 lo)
theorem cutV_length (xs : List V) (lo hi : Option Int) : (cutV xs lo hi).length ≤ xs.length := by
  unfold cutV
  rw [List.length_take, List.length_drop]
  omega
/-- t[lo:hi], not the whole of it (the whole would be t itself) -/
def rSlT (K : PySem.W.Frag) : V → Option Int → Option Int → Hp → VK → Prop := fun x lo hi H Q => ∃ a xs, x = .ref a ∧ SqT K H a xs ∧
  ¬ (HT.sIx xs.length 0 lo = 0 ∧ HT.sIx xs.length xs.length hi = xs.length) ∧ ∀ p, H p = none → Q (.ref p) (upd H p (.tup (cutV xs lo hi)))
theorem sl_tup : SlR X (rSlT X.K) := by
  intro pins s σ H x v vl vu lo hi sl Q I rx hs pl pu h
  obtain ⟨a, xs, rfl, hx, hw, q⟩ := h
  cases rx
  obtain ⟨its, r, ht, hz⟩ := I.tuple hx
  have hlen : its.toArray.size = xs.length := by rw [List.size_toArray]; exact r.length.symm
  refine ⟨"tuple", _, PyProof.Rows.slot_tuple_getitem.lookup, ht.typeIs, ?_⟩
  refine HT.getItem_tuple_cut ht hs pl pu (by rw [hlen]; exact hw) ?_ (by rw [hlen]; exact hz)
  rw [hlen]
  refine ⟨.ref s.heap.objs.size, _, I.laid (t' := s.toks) (o := .tup (cutV xs lo hi)) (fun b ob q => Heap.get?_push_of_some _ q) (Nat.le_refl _) ?_, rfl, q _ (I.hok.fresh (Nat.le_refl _))⟩
  exact ⟨Nat.le_trans (cutV_length xs lo hi) hz, _, (r.drop (HT.sIx xs.length 0 lo)).take (HT.sIx xs.length xs.length hi - HT.sIx xs.length 0 lo), IsTup.new _ _⟩

/-! ### t < u, t + u -/
def rLtT (K : PySem.W.Frag) : R2 := fun x y H Q => ∃ a b ns ms, x = .ref a ∧ y = .ref b ∧ SqT K H a (ns.map V.int) ∧ SqT K H b (ms.map V.int) ∧ Q (.bl (HT.lexLt ns ms)) H
theorem op_ltT (hu : X.A.units < cLine) : OpR X (compareOp .Lt) (rLtT X.K) := by
  intro pins s σ H x y v u Q I rx ry h
  obtain ⟨a, b, ns, ms, rfl, rfl, ha, hb, q⟩ := h
  cases rx
  cases ry
  obtain ⟨its, r1, p1, _⟩ := I.tuple ha
  obtain ⟨its2, r2, p2, _⟩ := I.tuple hb
  have i1 : IntsAre its.toArray.toList ns := intsAre_of r1
  have i2 : IntsAre its2.toArray.toList ms := intsAre_of r2
  exact HT.lt_tupInts p1 p2 i1 i2 hu ⟨.bl (HT.lexLt ns ms), H, I, rfl, q⟩
/-- t + u, t not empty: u empty gives t itself -/
def rCatT (K : PySem.W.Frag) : R2 := fun x y H Q => ∃ a b xs ys, x = .ref a ∧ y = .ref b ∧ SqT K H a xs ∧ SqT K H b ys ∧ xs ≠ [] ∧ xs.length + ys.length ≤ sizeLine ∧
  (ys = [] → Q (.ref a) H) ∧ (ys ≠ [] → ∀ p, H p = none → Q (.ref p) (upd H p (.tup (xs ++ ys))))
theorem Vals.nil_iff {xs : List V} {us : List Value} (r : Vals xs us) : us = [] ↔ xs = [] := by
  cases r with
  | nil => simp
  | cons _ _ => simp
theorem op_catT : OpR X (binaryOp .Add) (rCatT X.K) := by
  intro pins s σ H x y v u Q I rx ry h
  obtain ⟨a, b, xs, ys, rfl, rfl, ha, hb, hx, hz, q1, q2⟩ := h
  cases rx
  cases ry
  obtain ⟨its, r1, p1, _⟩ := I.tuple ha
  obtain ⟨its2, r2, p2, _⟩ := I.tuple hb
  refine HT.cat_tup p1 p2 (fun z => hx (r1.nil_iff.mp z)) (fun z => ⟨.ref a, H, I, rfl, q1 (r2.nil_iff.mp z)⟩) (fun z => ?_) (by rw [← r1.length, ← r2.length]; exact hz)
  refine ⟨.ref s.heap.objs.size, _, I.laid (t' := s.toks) (o := .tup (xs ++ ys)) (fun b ob q => Heap.get?_push_of_some _ q) (Nat.le_refl _) ?_, rfl, q2 (fun w => z (r2.nil_iff.mpr w)) _ (I.hok.fresh (Nat.le_refl _))⟩
  exact ⟨by rw [List.length_append]; exact hz, _, r1.append r2, IsTup.new _ _⟩
/-- tuple(t) -/
theorem call_tupleT : CallR X (.type "tuple") (fun xs H Q => ∃ a ys, xs = [.ref a] ∧ SqT X.K H a ys ∧ Q (.ref a) H) := by
  intro pins s σ H xs us Q I r h
  obtain ⟨a, ys, rfl, ha, q⟩ := h
  obtain ⟨u, rfl, ru⟩ := vals1 r
  cases ru
  obtain ⟨its, _, p1, _⟩ := I.tuple ha
  exact call_tuple_same (items := its.toArray) p1 ⟨.ref a, H, I, rfl, q⟩
end
end L2

namespace L2
open PySem PySem.Spec PyProof.Rows

/-! ### places -/
/-- the place that an index of any sign means -/
def ixN (n : Nat) (i : Int) : Option Nat := if 0 ≤ i then (if i < n then some i.toNat else none) else if -(n : Int) ≤ i then some (i + n).toNat else none
def atI {α : Type} (xs : List α) (i : Int) : Option α := (ixN xs.length i).bind fun j => xs[j]?
theorem ixN_seq {n : Nat} {i : Int} {j : Nat} (h : ixN n i = some j) : seqIndex? i n = some j ∧ j < n ∧ -(n : Int) ≤ i ∧ i < n := by
  unfold ixN at h
  by_cases h0 : 0 ≤ i
  · rw [if_pos h0] at h
    by_cases h1 : i < n
    · rw [if_pos h1] at h
      have e : i.toNat = j := Option.some.inj h
      exact ⟨by rw [seqIndex_of h0 h1, e], by omega, by omega, h1⟩
    · rw [if_neg h1] at h; cases h
  · rw [if_neg h0] at h
    by_cases h1 : -(n : Int) ≤ i
    · rw [if_pos h1] at h
      have e : (i + n).toNat = j := Option.some.inj h
      exact ⟨by rw [seqIndex_neg (by omega) h1, e], by omega, h1, by omega⟩
    · rw [if_neg h1] at h; cases h
theorem atI_get {α : Type} {xs : List α} {i : Int} {v : α} (h : atI xs i = some v) : ∃ j, seqIndex? i xs.length = some j ∧ xs[j]? = some v ∧ j < xs.length ∧ -(xs.length : Int) ≤ i ∧ i < xs.length := by
  unfold atI at h
  cases e : ixN xs.length i with
  | none => rw [e] at h; cases h
  | some j =>
    rw [e] at h
    obtain ⟨h1, h2, h3, h4⟩ := ixN_seq e
    exact ⟨j, h1, h, h2, h3, h4⟩
theorem atI_nat {α : Type} {xs : List α} {j : Nat} {v : α} (h : xs[j]? = some v) : atI xs (j : Int) = some v := by
  have hj : j < xs.length := (List.getElem?_eq_some_iff.mp h).1
  have e : ixN xs.length (j : Int) = some j := by
    unfold ixN
    rw [if_pos (by omega), if_pos (by omega)]; simp
  unfold atI; rw [e]; exact h
theorem atI_last {α : Type} (xs : List α) (v : α) : atI (xs ++ [v]) (-1) = some v := by
  have hl : (xs ++ [v]).length = xs.length + 1 := by simp
  have e : ixN (xs ++ [v]).length (-1) = some xs.length := by
    unfold ixN
    rw [hl, if_neg (by decide), if_pos (by omega)]
    congr 1
    omega
  unfold atI
  rw [e]
  show (xs ++ [v])[xs.length]? = some v
  simp

/-! ### what may be subscripted -/
/-- what stands as an index of a plain subscript -/
def PlainIx (b : Expr) : Prop := ∀ o i, subscripted b false o i = operate [o, i] (getItem o i)
/-- a subscript by values -/
def IxR (X : Cx) (r : R2) : Prop :=
  ∀ (value slice : Expr) (pins : List (Addr × Obj)) (s : Shared) (σ : St) (H : Hp) (x y : V) (v u : Value) (Q : VK), Inv X pins σ H s → RelV x v → RelV y u → r x y H Q →
    subscripted slice false v u = operate [v, u] (getItem v u) → wpAny (model X.prog X.w) X.A (subscriptTail value slice v u) (EP X pins σ Q) X.xe s
/-- a call of a builtin's method by values: the receiver, the arguments -/
def MtR (X : Cx) (id : String) (r : V → List V → Hp → VK → Prop) : Prop :=
  ∀ (pins : List (Addr × Obj)) (s : Shared) (σ : St) (H : Hp) (x : V) (xs : List V) (v : Value) (us : List Value) (Q : VK), Inv X pins σ H s → RelV x v → Vals xs us → r x xs H Q →
    wpAny (model X.prog X.w) X.A (call (.builtin id) (v :: us)) (EP X pins σ Q) X.xe s
section
variable {X : Cx} {a b : Expr} {ta tb : TE} {pos : Pos}
theorem IxR.or {r r' : R2} (h : IxR X r) (h' : IxR X r') : IxR X (fun x y H Q => r x y H Q ∨ r' x y H Q) := by
  intro value slice pins s σ H x y v u Q I rx ry q hs
  rcases q with q | q
  · exact h value slice pins s σ H x y v u Q I rx ry q hs
  · exact h' value slice pins s σ H x y v u Q I rx ry q hs
theorem MtR.or {id : String} {r r' : V → List V → Hp → VK → Prop} (h : MtR X id r) (h' : MtR X id r') : MtR X id (fun x xs H Q => r x xs H Q ∨ r' x xs H Q) := by
  intro pins s σ H x xs v us Q I rx rs q
  rcases q with q | q
  · exact h pins s σ H x xs v us Q I rx rs q
  · exact h' pins s σ H x xs v us Q I rx rs q
/-- a[b] -/
theorem pe_ix {r : R2} (hr : IxR X r) (ha : PE X a ta) (hb : PE X b tb) (hs : PlainIx b) : PE X (.Subscript a b pos) (tOp r ta tb) := by
  intro pins s σ H Q I h
  exact Subscript_ (binT ha hb I h fun v u s2 x y H2 I2 rx ry q => hr a b pins s2 σ H2 x y v u Q I2 rx ry q (hs _ _))

def rIxL (K : PySem.W.Frag) : R2 := fun x y H Q => ∃ p xs i v, x = .ref p ∧ y = .int i ∧ SqL K H p xs ∧ atI xs i = some v ∧ Q v H
def rIxT (K : PySem.W.Frag) : R2 := fun x y H Q => ∃ p xs i v, x = .ref p ∧ y = .int i ∧ SqT K H p xs ∧ atI xs i = some v ∧ Q v H
def rIxS : R2 := fun x y H Q => ∃ z i c, x = .str z ∧ y = .int i ∧ z.length ≤ sizeLine ∧ atI z.cps.toList i = some c ∧ Q (.str ⟨#[c]⟩) H
theorem ix_list : IxR X (rIxL X.K) := by
  intro value slice pins s σ H x y v u Q I rx ry h hs
  obtain ⟨p, xs, i, z, rfl, rfl, hq, he, q⟩ := h
  cases rx
  obtain ⟨t, rfl⟩ := ry
  obtain ⟨its, r, pl, hz⟩ := I.list hq
  obtain ⟨j, h1, h2, h3, h4, h5⟩ := atI_get he
  obtain ⟨w, ew, rw'⟩ := r.get h2
  have hl := r.length
  have hn := line63
  have fin : EP X pins σ Q w s := ⟨z, H, I, rw', q⟩
  by_cases h0 : 0 ≤ i
  · have hj : i.toNat = j := by
      rw [seqIndex_of h0 h5] at h1
      exact Option.some.inj h1
    exact item_listR pl.isList h0 (by omega) (by rw [hj]; simpa using ew) fin hs
  · have hj : (i + (its.toArray.size : Int)).toNat = j := by
      rw [seqIndex_neg (by omega) h4] at h1
      rw [List.size_toArray, ← hl]
      exact Option.some.inj h1
    exact subscriptTail_builtinR (x := w) pl.isList.typeIs slot_list_getitem.lookup
      (wpAny_getItem_list_neg (Q := fun r s' => r = w ∧ EP X pins σ Q r s') pl.isList (by omega) (by rw [List.size_toArray] <;> omega) (by omega) (by rw [hj]; simpa using ew) ⟨rfl, fin⟩) hs
theorem ix_tup : IxR X (rIxT X.K) := by
  intro value slice pins s σ H x y v u Q I rx ry h hs
  obtain ⟨p, xs, i, z, rfl, rfl, hq, he, q⟩ := h
  cases rx
  obtain ⟨t, rfl⟩ := ry
  obtain ⟨its, r, pl, hz⟩ := I.tuple hq
  obtain ⟨j, h1, h2, h3, h4, h5⟩ := atI_get he
  obtain ⟨w, ew, rw'⟩ := r.get h2
  have hl := r.length
  have hn := line63
  have fin : EP X pins σ Q w s := ⟨z, H, I, rw', q⟩
  exact subscriptTail_builtinR (x := w) pl.typeIs slot_tuple_getitem.lookup
    (getItem_tuple (j := j) (Q := fun r s' => r = w ∧ EP X pins σ Q r s') pl (by omega) (by omega) (by rw [List.size_toArray, ← hl]; exact h1) (by simpa using ew) ⟨rfl, fin⟩) hs
theorem ix_str : IxR X rIxS := by
  intro value slice pins s σ H x y v u Q I rx ry h hs
  obtain ⟨z, i, c, rfl, rfl, hz, he, q⟩ := h
  obtain ⟨t, rfl⟩ := rx
  obtain ⟨t', rfl⟩ := ry
  obtain ⟨j, h1, h2, h3, h4, h5⟩ := atI_get he
  have hl : z.cps.toList.length = z.length := by simp [Str.length]
  rw [hl] at h1 h4 h5
  have hn := line63
  exact tail_any (typeIs_str s z t) slot_str_getitem.lookup (getItem_str (c := c) (by
    have e1 : decide (i < -(2 ^ 63 : Int)) = false := decide_eq_false (by omega)
    have e2 : decide (i ≥ 2 ^ 63) = false := decide_eq_false (by omega)
    rw [e1, e2, Bool.or_false]) (by rw [h1]; simpa using h2) ⟨.str ⟨#[c]⟩, H, I.tok _, ⟨_, rfl⟩, q⟩) hs
/-- list, tuple or str -/
def rIx (K : PySem.W.Frag) : R2 := fun x y H Q => rIxL K x y H Q ∨ rIxT K x y H Q ∨ rIxS x y H Q
theorem ix_seq : IxR X (rIx X.K) := ix_list.or (ix_tup.or ix_str)

/-! ### xs[i] = v, any sign -/
/-- the list's object behind a store -/
theorem mapSeq_set (its : List Value) (n j : Nat) (u : Value) : Obj.mapSeq (·.setIfInBounds j u) { cls := .type "list", data := .seq its.toArray n } = { cls := .type "list", data := .seq (its.set j u).toArray n } := by
  simp [Obj.mapSeq]
theorem Inv.lst {pins : List (Addr × Obj)} {σ : St} {H : Hp} {s : Shared} {p : Addr} {xs : List V} (I : Inv X pins σ H s) (h : H p = some (.lst xs)) :
    ∃ (its : List Value) (n : Nat), Vals xs its ∧ s.heap.get? p = some { cls := .type "list", data := .seq its.toArray n } ∧ xs.length ≤ sizeLine := by
  obtain ⟨z, its, n, r, e⟩ := I.hok p _ h
  exact ⟨its, n, r, e, z⟩
/-- the list at p is written by an update of its object -/
theorem Inv.lstUpd {pins : List (Addr × Obj)} {σ : St} {H : Hp} {s : Shared} {p : Addr} {xs ys : List V} {its its' : List Value} {n n' : Nat} {f : Obj → Obj} (I : Inv X pins σ H s) (h : H p = some (.lst xs))
    (ho : s.heap.get? p = some { cls := .type "list", data := .seq its.toArray n }) (hf : f { cls := .type "list", data := .seq its.toArray n } = { cls := .type "list", data := .seq its'.toArray n' }) (r : Vals ys its') (hz : ys.length ≤ sizeLine) (t : Nat) :
    Inv X pins σ (upd H p (.lst ys)) { s with heap := s.heap.update p f, toks := t } := by
  have e : (s.heap.update p f).get? p = some { cls := .type "list", data := .seq its'.toArray n' } := by
    rw [Heap.get?_update_self f ho (by rw [hf] <;> rfl), hf]
  refine I.write (x := p) (e := p) (by rw [h]; trivial) (.inl rfl) (fun b u hb q => (Heap.get?_update_other _ _ (Ne.symm hb)).trans q) ⟨_, e⟩ ?_
  exact ⟨hz, its', n', r, e⟩
def rSetL : V → V → V → Hp → (Hp → Prop) → Prop := fun o i v H Q => ∃ p xs k j, o = .ref p ∧ i = .int k ∧ H p = some (.lst xs) ∧ ixN xs.length k = some j ∧ Q (upd H p (.lst (xs.set j v)))
theorem set_list : PSet X rSetL := by
  intro pins s σ H o i v ov iv u Q I ro ri rv h
  obtain ⟨p, xs, k, j, rfl, rfl, hp, hj, q⟩ := h
  cases ro
  obtain ⟨t, rfl⟩ := ri
  obtain ⟨its, n, r, ho, hz⟩ := I.lst hp
  obtain ⟨h1, h2, h3, h4⟩ := ixN_seq hj
  have hl := r.length
  have hn := line63
  have I' : Inv X pins σ (upd H p (.lst (xs.set j v))) { s with heap := s.heap.update p (Obj.mapSeq (·.setIfInBounds j u)) } :=
    I.lstUpd hp ho (mapSeq_set its n j u) (r.set rv j) (by rw [List.length_set]; exact hz) s.toks
  by_cases h0 : 0 ≤ k
  · have hk : k.toNat = j := by
      rw [seqIndex_of h0 h4] at h1
      exact Option.some.inj h1
    exact PySem.W.ki_setAt ho h0 (by omega) (by rw [List.size_toArray, ← hl]; exact h4) (by rw [hk]; exact ⟨_, I', q⟩)
  · have hk : (k + (its.toArray.size : Int)).toNat = j := by
      rw [seqIndex_neg (by omega) h3] at h1
      rw [List.size_toArray, ← hl]
      exact Option.some.inj h1
    exact PySem.W.ki_setBack ho (by omega) (by rw [List.size_toArray, ← hl]; exact h3) (by omega) (by rw [hk]; exact ⟨_, I', q⟩)

/-! ### slices -/
theorem slice_bounds (lo hi : Option Int) (n : Nat) : (sliceBounds lo hi none n).1 = ((HT.sIx n 0 lo : Nat) : Int) ∧ (sliceBounds lo hi none n).2.1 = ((HT.sIx n n hi : Nat) : Int) ∧ (sliceBounds lo hi none n).2.2 = 1 := by
  refine ⟨?_, ?_, rfl⟩
  · cases lo with
    | none => simp [sliceBounds, HT.sIx]
    | some i =>
      simp only [sliceBounds, HT.sIx, Option.getD_none, show (1 : Int) > 0 by decide, if_true]
      by_cases h : i < 0
      · simp only [h, if_true] <;> omega
      · simp only [h, if_false] <;> omega
  · cases hi with
    | none => simp [sliceBounds, HT.sIx]
    | some i =>
      simp only [sliceBounds, HT.sIx, Option.getD_none, show (1 : Int) > 0 by decide, if_true]
      by_cases h : i < 0
      · simp only [h, if_true] <;> omega
      · simp only [h, if_false] <;> omega
theorem slicePick_cut (its : List Value) (lo hi : Option Int) : slicePick its.toArray lo hi none = ((its.drop (HT.sIx its.length 0 lo)).take (HT.sIx its.length its.length hi - HT.sIx its.length 0 lo)).toArray := by
  obtain ⟨h1, h2, h3⟩ := slice_bounds lo hi its.toArray.size
  unfold slicePick
  rw [h1, h2, h3]
  simp only [sliceRange_one, pick_run, List.size_toArray] <;> rfl
/-- xs[lo:hi] of a list: a new list -/
def rSlL (K : PySem.W.Frag) : V → Option Int → Option Int → Hp → VK → Prop := fun x lo hi H Q => ∃ a xs, x = .ref a ∧ SqL K H a xs ∧ ∀ p, H p = none → Q (.ref p) (upd H p (.lst (cutV xs lo hi)))
theorem sl_list : SlR X (rSlL X.K) := by
  intro pins s σ H x v vl vu lo hi sl Q I rx hs pl pu h
  obtain ⟨a, xs, rfl, hx, q⟩ := h
  cases rx
  obtain ⟨its, r, ht, hz⟩ := I.list hx
  have hlen := r.length
  refine ⟨"list", _, slot_list_getitem.lookup, ht.isList.typeIs, ?_⟩
  refine wpAny_getItem_list_slice ht.isList hs pl pu .none (by simp) ?_ (by rw [List.size_toArray] <;> omega)
  rw [slicePick_cut, ← hlen]
  refine ⟨.ref s.heap.objs.size, _, I.laid (t' := s.toks) (o := .lst (cutV xs lo hi)) (fun b ob q => Heap.get?_push_of_some _ q) (Nat.le_refl _) ?_, rfl, q _ (I.hok.fresh (Nat.le_refl _))⟩
  exact ⟨Nat.le_trans (cutV_length xs lo hi) hz, _, 0, (r.drop (HT.sIx xs.length 0 lo)).take (HT.sIx xs.length xs.length hi - HT.sIx xs.length 0 lo), Heap.get?_push_size _ rfl⟩

/-! ### in, not in: flat items -/
def flatV : V → Bool
  | .non => true
  | .bl _ => true
  | .int _ => true
  | .str _ => true
  | _ => false
/-- == of flat values -/
def eqV : V → V → Bool
  | .non, .non => true
  | .bl a, .bl b => a == b
  | .bl a, .int b => (if a then 1 else 0) == b
  | .int a, .bl b => a == (if b then 1 else 0)
  | .int a, .int b => a == b
  | .str a, .str b => a == b
  | _, _ => false
theorem eqAt_V {A : Around} {s : Shared} {y x : V} {u v : Value} (ry : RelV y u) (rx : RelV x v) (fy : flatV y = true) (fx : flatV x = true) : SeqAt.EqAt A s u v (eqV y x) := by
  cases y with
  | non =>
    cases ry
    cases x with
    | non => cases rx; exact SeqAt.EqAt.same _
    | bl b => cases rx; exact SeqAt.EqAt.none_bool b
    | int b => obtain ⟨t, rfl⟩ := rx; exact SeqAt.EqAt.none_int b t
    | str b => obtain ⟨t, rfl⟩ := rx; exact SeqAt.EqAt.none_str b t
    | _ => exact absurd (show false = true from fx) Bool.false_ne_true
  | bl a =>
    cases ry
    cases x with
    | non => cases rx; exact SeqAt.EqAt.bool_none a
    | bl b => cases rx; exact SeqAt.EqAt.bool_bool a b
    | int b => obtain ⟨t, rfl⟩ := rx; exact SeqAt.EqAt.bool_int a b t
    | str b => obtain ⟨t, rfl⟩ := rx; exact SeqAt.EqAt.bool_str a b t
    | _ => exact absurd (show false = true from fx) Bool.false_ne_true
  | int a =>
    obtain ⟨t', rfl⟩ := ry
    cases x with
    | non => cases rx; exact SeqAt.EqAt.int_none a t'
    | bl b => cases rx; exact SeqAt.EqAt.int_bool a t' b
    | int b => obtain ⟨t, rfl⟩ := rx; exact SeqAt.EqAt.int_int a t' b t
    | str b => obtain ⟨t, rfl⟩ := rx; exact SeqAt.EqAt.int_str a t' b t
    | _ => exact absurd (show false = true from fx) Bool.false_ne_true
  | str a =>
    obtain ⟨t', rfl⟩ := ry
    cases x with
    | non => cases rx; exact SeqAt.EqAt.str_none a t'
    | bl b => cases rx; exact SeqAt.EqAt.str_bool a t' b
    | int b => obtain ⟨t, rfl⟩ := rx; exact SeqAt.EqAt.str_int a t' b t
    | str b => obtain ⟨t, rfl⟩ := rx; exact SeqAt.EqAt.str_str a t' b t
    | _ => exact absurd (show false = true from fx) Bool.false_ne_true
  | _ => exact absurd (show false = true from fy) Bool.false_ne_true
/-- the items' answers, read off the values (a value's own answer does not lean on its token) -/
def eqU (x : V) (u : Value) : Bool := match u with
  | .none => eqV .non x
  | .bool b => eqV (.bl b) x
  | .int i _ => eqV (.int i) x
  | .str z _ => eqV (.str z) x
  | _ => false
theorem eqU_of {x y : V} {u : Value} (r : RelV y u) (f : flatV y = true) : eqU x u = eqV y x := by
  cases y with
  | non => cases r; rfl
  | bl b => cases r; rfl
  | int i => obtain ⟨t, rfl⟩ := r; rfl
  | str z => obtain ⟨t, rfl⟩ := r; rfl
  | _ => exact absurd (show false = true from f) Bool.false_ne_true
theorem any_eqU {x : V} : ∀ {xs : List V} {us : List Value}, Vals xs us → xs.all flatV = true → us.any (eqU x) = xs.any fun y => eqV y x
  | _, _, .nil, _ => rfl
  | y :: xs, u :: us, .cons r t, f => by
    rw [List.all_cons, Bool.and_eq_true] at f
    rw [List.any_cons, List.any_cons, eqU_of r f.1, any_eqU t f.2]
theorem mem_eqAt {A : Around} {s : Shared} {x : V} {v : Value} (rx : RelV x v) (fx : flatV x = true) : ∀ {xs : List V} {us : List Value}, Vals xs us → xs.all flatV = true → ∀ u ∈ us, SeqAt.EqAt A s u v (eqU x u)
  | _, _, .nil, _ => fun u hu => by cases hu
  | y :: xs, u :: us, .cons r t, f => fun u' hu => by
    rw [List.all_cons, Bool.and_eq_true] at f
    rcases List.mem_cons.mp hu with rfl | hu
    · rw [eqU_of r f.1]; exact eqAt_V r rx f.1 fx
    · exact mem_eqAt rx fx t f.2 u' hu
def inV (x : V) (xs : List V) : Bool := xs.any fun y => eqV y x
/-- x in a list or tuple of flat items -/
def rIn (K : PySem.W.Frag) (neg : Bool) : R2 := fun x y H Q => ∃ p xs, y = .ref p ∧ (SqL K H p xs ∨ SqT K H p xs) ∧ flatV x = true ∧ xs.all flatV = true ∧ Q (.bl (if neg then !inV x xs else inV x xs)) H
theorem op_in_seq : OpR X (compareOp .In) (rIn X.K false) := by
  intro pins s σ H x y v u Q I rx ry h
  obtain ⟨p, xs, rfl, hq, fx, fs, q⟩ := h
  cases ry
  rcases hq with hq | hq
  · obtain ⟨its, r, pl, hz⟩ := I.list hq
    refine SeqAt.in_listAt (eqU x) pl.isList (fun w hw => mem_eqAt rx fx r fs w (by simpa using hw)) ⟨.bl _, H, I, rfl, ?_⟩
    rw [show its.toArray.any (eqU x) = its.any (eqU x) by simp, any_eqU r fs]
    exact q
  · obtain ⟨its, r, pl, hz⟩ := I.tuple hq
    refine SeqAt.in_tupleAt (eqU x) pl (fun w hw => mem_eqAt rx fx r fs w (by simpa using hw)) ⟨.bl _, H, I, rfl, ?_⟩
    rw [show its.toArray.any (eqU x) = its.any (eqU x) by simp, any_eqU r fs]
    exact q
theorem op_notIn_seq : OpR X (compareOp .NotIn) (rIn X.K true) := by
  intro pins s σ H x y v u Q I rx ry h
  obtain ⟨p, xs, rfl, hq, fx, fs, q⟩ := h
  cases ry
  rcases hq with hq | hq
  · obtain ⟨its, r, pl, hz⟩ := I.list hq
    refine SeqAt.notIn_listAt (eqU x) pl.isList (fun w hw => mem_eqAt rx fx r fs w (by simpa using hw)) ⟨.bl _, H, I, rfl, ?_⟩
    rw [show its.toArray.any (eqU x) = its.any (eqU x) by simp, any_eqU r fs]
    exact q
  · obtain ⟨its, r, pl, hz⟩ := I.tuple hq
    refine SeqAt.notIn_tupleAt (eqU x) pl (fun w hw => mem_eqAt rx fx r fs w (by simpa using hw)) ⟨.bl _, H, I, rfl, ?_⟩
    rw [show its.toArray.any (eqU x) = its.any (eqU x) by simp, any_eqU r fs]
    exact q
theorem op_notIn_str : OpR X (compareOp .NotIn) (fun x y H Q => ∃ i j, x = .str i ∧ y = .str j ∧ Q (.bl (!(!(Builtin.Str.occurrences j i 0 j.length 1).isEmpty))) H) := by
  intro pins s σ H x y v u Q I rx ry h
  obtain ⟨i, j, rfl, rfl, q⟩ := h
  obtain ⟨t, rfl⟩ := rx
  obtain ⟨t', rfl⟩ := ry
  exact notIn_str ⟨.bl _, H, I, rfl, q⟩

/-! ### len, list(x), tuple(x) of any list or tuple that is read -/
theorem call_len_seq : CallR X (.builtin "len") (fun xs H Q => ∃ p ys, xs = [.ref p] ∧ (SqL X.K H p ys ∨ SqT X.K H p ys) ∧ Q (.int ys.length) H) := by
  intro pins s σ H xs us Q I r h
  obtain ⟨p, ys, rfl, hq, q⟩ := h
  obtain ⟨u, rfl, rx⟩ := vals1 r
  cases rx
  have hn := line63
  rcases hq with hq | hq
  · obtain ⟨its, r', pl, hz⟩ := I.list hq
    have hlen := r'.length
    exact Calls.call_len_list pl.isList (by simp only [List.size_toArray] <;> omega) ⟨.int ys.length, H, I.tok _, ⟨s.toks + 1, by rw [List.size_toArray, hlen]⟩, q⟩
  · obtain ⟨its, r', pl, hz⟩ := I.tuple hq
    have hlen := r'.length
    exact len_tuple pl (by simp only [List.size_toArray] <;> omega) ⟨.int ys.length, H, I.tok _, ⟨s.toks + 1, by rw [List.size_toArray, hlen]⟩, q⟩
theorem call_len_str : CallR X (.builtin "len") (fun xs H Q => ∃ z, xs = [.str z] ∧ z.length ≤ sizeLine ∧ Q (.int z.length) H) := by
  intro pins s σ H xs us Q I r h
  obtain ⟨z, rfl, hz, q⟩ := h
  obtain ⟨u, rfl, t, rfl⟩ := vals1 r
  have hn := line63
  exact len_str (by omega) ⟨.int z.length, H, I.tok _, ⟨_, rfl⟩, q⟩
theorem CallR.or {f : Value} {r r' : List V → Hp → VK → Prop} (h : CallR X f r) (h' : CallR X f r') : CallR X f (fun xs H Q => r xs H Q ∨ r' xs H Q) := by
  intro pins s σ H xs us Q I rs q
  rcases q with q | q
  · exact h pins s σ H xs us Q I rs q
  · exact h' pins s σ H xs us Q I rs q
theorem call_list_of : CallR X (.type "list") (fun xs H Q => ∃ p ys, xs = [.ref p] ∧ (SqL X.K H p ys ∨ SqT X.K H p ys) ∧ ∀ l, H l = none → Q (.ref l) (upd H l (.lst ys))) := by
  intro pins s σ H xs us Q I r h
  obtain ⟨p, ys, rfl, hq, q⟩ := h
  obtain ⟨u, rfl, rx⟩ := vals1 r
  cases rx
  have fin : ∀ (its : List Value), Vals ys its → ys.length ≤ sizeLine → ∀ (h' : Heap) (c' : Nat), (∀ b o', s.heap.get? b = some o' → h'.get? b = some o') →
      h'.get? s.heap.objs.size = some { cls := .type "list", dict := none, data := .seq its.toArray c', slots := #[] } → EP X pins σ Q (.ref s.heap.objs.size) { s with heap := h' } := fun its r' hz h' c' kp e =>
    ⟨.ref s.heap.objs.size, _, I.laid (t' := s.toks) kp (Nat.le_refl _) (show ObjOk X.prog X.w _ h' _ (.lst ys) from ⟨hz, its, c', r', e⟩), rfl, q _ (I.hok.fresh (Nat.le_refl _))⟩
  rcases hq with hq | hq
  · obtain ⟨its, r', pl, hz⟩ := I.list hq
    have hlen := r'.length
    obtain ⟨o, ho, hc, n, hd⟩ := pl.isList
    exact call_list_seq p (.inl rfl) ho hc hd (fun h' c' kp e => fin its r' hz h' c' kp e) (by simp only [List.size_toArray] <;> omega)
  · obtain ⟨its, r', pl, hz⟩ := I.tuple hq
    have hlen := r'.length
    obtain ⟨o, ho, hc, n, hd⟩ := pl
    exact call_list_seq p (.inr rfl) ho hc hd (fun h' c' kp e => fin its r' hz h' c' kp e) (by simp only [List.size_toArray] <;> omega)
theorem call_tuple_of : CallR X (.type "tuple") (fun xs H Q => ∃ p ys, xs = [.ref p] ∧ ((SqL X.K H p ys ∧ ∀ l, H l = none → Q (.ref l) (upd H l (.tup ys))) ∨ (SqT X.K H p ys ∧ Q (.ref p) H))) := by
  intro pins s σ H xs us Q I r h
  obtain ⟨p, ys, rfl, h⟩ := h
  obtain ⟨u, rfl, rx⟩ := vals1 r
  cases rx
  rcases h with ⟨hq, q⟩ | ⟨hq, q⟩
  · obtain ⟨its, r', pl, hz⟩ := I.list hq
    have hlen := r'.length
    refine call_tuple_list pl.isList (fun h' kp => ?_) (by simp only [List.size_toArray] <;> omega)
    have I1 : Inv X pins σ H { s with heap := h' } := I.kept (t' := s.toks) kp
    have I2 : Inv X pins σ (upd H h'.objs.size (.tup ys)) { s with heap := h'.push { cls := .type "tuple", data := .seq its.toArray } } :=
      I1.laid (t' := s.toks) (fun b o e => Heap.get?_push_of_some _ e) (Nat.le_refl _) (show ObjOk X.prog X.w _ _ _ (.tup ys) from ⟨hz, its, r', IsTup.new _ _⟩)
    exact ⟨.ref h'.objs.size, _, I2, rfl, q _ (I1.hok.fresh (Nat.le_refl _))⟩
  · obtain ⟨its, r', pl, hz⟩ := I.tuple hq
    exact call_tuple_same pl ⟨.ref p, H, I, rfl, q⟩

/-! ### the call of a builtin's method: o.m(..) -/
/-- the value is of that builtin type -/
def tyV (K : PySem.W.Frag) (T : String) (x : V) (H : Hp) : Prop := match x with
  | .str _ => T = "str"
  | .int _ => T = "int"
  | .ref p => (T = "list" ∧ ∃ xs, SqL K H p xs) ∨ (T = "tuple" ∧ ∃ o, K.lookup p = some o ∧ o.cls = .type "tuple" ∧ o.dict = none) ∨
      (T = "dict" ∧ ((∃ kvs, H p = some (.dK kvs)) ∨ ∃ kvs, H p = some (.dT kvs))) ∨ (T = "set" ∧ ∃ S n, H p = some (.set S n))
  | _ => False
theorem tyV_is {pins : List (Addr × Obj)} {σ : St} {H : Hp} {s : Shared} {T : String} {x : V} {v : Value} (I : Inv X pins σ H s) (r : RelV x v) (ty : tyV X.K T x H) :
    s.TypeIs v T ∧ ∀ a, v = .ref a → ∃ ob, s.heap.get? a = some ob ∧ ob.dict = none := by
  cases x with
  | str z =>
    obtain ⟨t, rfl⟩ := r
    cases (show T = "str" from ty)
    exact ⟨typeIs_str s z t, fun _ e => nomatch e⟩
  | int i =>
    obtain ⟨t, rfl⟩ := r
    cases (show T = "int" from ty)
    exact ⟨typeIs_int s i t, fun _ e => nomatch e⟩
  | ref p =>
    cases r
    rcases ty with ⟨rfl, xs, hq⟩ | ⟨rfl, o, hk, hc, hd⟩ | ⟨rfl, hk⟩ | ⟨rfl, S, n, hk⟩
    · obtain ⟨its, _, pl, _⟩ := I.list hq
      refine ⟨pl.isList.typeIs, fun a e => ?_⟩
      cases e
      obtain ⟨o, n, e, c, hd, _⟩ := pl
      exact ⟨o, e, hd⟩
    · refine ⟨⟨o, I.kIn p o hk, hc⟩, fun a e => ?_⟩
      cases e
      exact ⟨o, I.kIn _ o hk, hd⟩
    · have z : ∃ o, s.heap.get? p = some o ∧ o.ExactDict := by
        rcases hk with ⟨kvs, hk⟩ | ⟨kvs, hk⟩
        · obtain ⟨_, _, _, _, o, _, _, e, ex, _⟩ := I.hok p _ hk
          exact ⟨o, e, ex⟩
        · obtain ⟨_, _, _, _, o, _, _, e, ex, _⟩ := I.hok p _ hk
          exact ⟨o, e, ex⟩
      obtain ⟨o, e, ex⟩ := z
      refine ⟨⟨o, e, ex.1⟩, fun a e2 => ?_⟩
      cases e2
      exact ⟨o, e, ex.2.1⟩
    · obtain ⟨o, _, _, _, e, ex, _⟩ := I.hok p _ hk
      refine ⟨⟨o, e, ex.1⟩, fun a e2 => ?_⟩
      cases e2
      exact ⟨o, e, ex.2.1⟩
  | _ => exact False.elim ty
def tBM0 (K : PySem.W.Frag) (T : String) (r : V → List V → Hp → VK → Prop) (to : TE) : TE := fun σ H Q => to σ H fun x H1 => tyV K T x H1 ∧ r x [] H1 Q
def tBM (K : PySem.W.Frag) (T : String) (r : V → List V → Hp → VK → Prop) (to : TE) (t : TA) : TE := fun σ H Q => to σ H fun x H1 => tyV K T x H1 ∧ t σ H1 fun xs H2 => r x xs H2 Q
variable {o e : Expr} {es : List Expr} {to : TE} {t : TA} {name : Str} {apos cpos : Pos} {T id : String} {r : V → List V → Hp → VK → Prop}
theorem pe_bm0 (pa : PlainAttrs T) (slot : Slot T name id) (hty : typeOf (.builtin id) = pure (.type "method_descriptor")) (hm : MtR X id r) (ho : PE X o to)
    (hbase : attributeBase o name X.env (eval o X.env) = eval o X.env := by rfl) (hline : (apos.endLine == cpos.line) = true := by rfl) : PE X (.Call (.Attribute o name apos) [] [] cpos) (tBM0 X.K T r to) := by
  intro pins s σ H Q I h
  refine wpAny_Call_method0_late hbase hline (thn (ho pins s σ H _ I h) fun v s1 ⟨x, H1, I1, r1, ty, q1⟩ => ?_)
  obtain ⟨h1, h2⟩ := tyV_is I1 r1 ty
  exact ⟨T, id, pa, slot, hty, h1, h2, Calls.callWith_builtin rfl (PySem.evalArgs_none (hm pins s1 σ H1 x [] v [] Q I1 r1 .nil q1))⟩
theorem pe_bm (pa : PlainAttrs T) (slot : Slot T name id) (hty : typeOf (.builtin id) = pure (.type "method_descriptor")) (hm : MtR X id r) (ho : PE X o to) (ha : PA X (e :: es) t)
    (hbase : attributeBase o name X.env (eval o X.env) = eval o X.env := by rfl)
    (hfew : ((backTo cpos (starEach (e :: es) X.env)).all (fun x => !x.1) && (backToKw cpos (keywordEach [] X.env)).all (fun x => x.1.isSome)
      && decide ((e :: es).length + ([] : List Keyword).length + (if ([] : List Keyword).isEmpty then 0 else 1) < 30)) = true := by rfl)
    (hline : (apos.endLine == cpos.line) = true := by rfl) (hs : starEach (e :: es) X.env = (false, eval e X.env) :: starEach es X.env := by rfl) (hplain : (backTo cpos (starEach es X.env)).any (·.1) = false := by rfl) :
    PE X (.Call (.Attribute o name apos) (e :: es) [] cpos) (tBM X.K T r to t) := by
  intro pins s σ H Q I h
  refine wpAny_Call_method_late hbase hfew hline rfl (thn (ho pins s σ H _ I h) fun v s1 ⟨x, H1, I1, r1, ty, q1⟩ => ?_)
  obtain ⟨h1, h2⟩ := tyV_is I1 r1 ty
  refine ⟨T, id, pa, slot, hty, h1, h2, ?_⟩
  have hA := ha cpos pins s1 σ H1 _ I1 q1
  rw [hs] at hA ⊢
  refine Calls.callWith_builtin (by show (false || (backTo cpos (starEach es X.env)).any (·.1)) = false; rw [hplain] <;> rfl) (Calls.evalArgs_plain ?_)
  exact thn hA fun us s2 ⟨vs, H2, I2, r2, q2⟩ => hm pins s2 σ H2 x vs v us Q I2 r1 r2 q2
/- xs.append(e), list.index on a module's tuple .. are MtR facts of 06m -/
end
end L2

namespace L2
open PySem PySem.Spec PyProof.Rows

def MtM (X : Cx) (id : String) (r : V → List V → Hp → VK → Prop) : Prop :=
  ∀ (pins : List (Addr × Obj)) (s : Shared) (σ : St) (H : Hp) (x : V) (xs : List V) (v : Value) (us : List Value) (Q : VK), Inv X pins σ H s → RelV x v → Vals xs us → r x xs H Q →
    wpAny (model X.prog X.w) X.A (call (.builtin id) (v :: us)) (EP X pins σ Q) X.xe s

/-! ### lists of values -/
theorem Vals.one : ∀ {x : V} {us : List Value}, Vals [x] us → ∃ u, us = [u] ∧ RelV x u
  | _, _, .cons r .nil => ⟨_, rfl, r⟩
theorem Vals.two : ∀ {x y : V} {us : List Value}, Vals [x, y] us → ∃ u v, us = [u, v] ∧ RelV x u ∧ RelV y v
  | _, _, _, .cons r (.cons q .nil) => ⟨_, _, rfl, r, q⟩
theorem Vals.zero : ∀ {us : List Value}, Vals [] us → us = []
  | _, .nil => rfl
theorem Vals.dropLast {xs : List V} {us : List Value} (h : Vals xs us) : Vals xs.dropLast us.dropLast := by
  induction h with
  | nil => exact .nil
  | cons r t ih =>
    cases t with
    | nil => exact .nil
    | cons q t' => exact .cons r ih
theorem Vals.eraseIdx : ∀ {xs : List V} {us : List Value} (i : Nat), Vals xs us → Vals (xs.eraseIdx i) (us.eraseIdx i)
  | _, _, _, .nil => .nil
  | _, _, 0, .cons _ t => t
  | _, _, i + 1, .cons r t => .cons r (Vals.eraseIdx i t)
theorem Vals.reverse {xs : List V} {us : List Value} (h : Vals xs us) : Vals xs.reverse us.reverse := by
  induction h with
  | nil => exact .nil
  | cons r t ih => rw [List.reverse_cons, List.reverse_cons]; exact Vals.append ih (.cons r .nil)
theorem Vals.rep {xs : List V} {us : List Value} (h : Vals xs us) : ∀ k : Nat, Vals (List.replicate k xs).flatten (List.replicate k us).flatten
  | 0 => .nil
  | k + 1 => by
    rw [List.replicate_succ, List.replicate_succ, List.flatten_cons, List.flatten_cons]
    exact Vals.append h (Vals.rep h k)
theorem erase_last {α : Type} (l : List α) : l.eraseIdx (l.length - 1) = l.dropLast := by
  induction l with
  | nil => rfl
  | cons a r ih =>
    cases r with
    | nil => rfl
    | cons b r =>
      have e : (a :: b :: r).length - 1 = ((b :: r).length - 1) + 1 := by
        have h1 : (a :: b :: r).length = r.length + 2 := rfl
        have h2 : (b :: r).length = r.length + 1 := rfl
        omega
      rw [e, List.eraseIdx_cons_succ, ih]
      all_goals rfl
theorem len_erase {α : Type} : ∀ (l : List α) (i : Nat), (l.eraseIdx i).length ≤ l.length
  | [], _ => Nat.le_refl _
  | _ :: _, 0 => Nat.le_succ _
  | _ :: r, i + 1 => Nat.succ_le_succ (len_erase r i)
theorem foldl_rep (its : List Value) : ∀ (k : Nat) (acc : List Value),
    List.foldl (fun x1 x2 => x1 ++ x2) acc.toArray (List.replicate k its.toArray) = (acc ++ (List.replicate k its).flatten).toArray
  | 0, acc => by simp
  | k + 1, acc => by
    have e : acc.toArray ++ its.toArray = (acc ++ its).toArray := by simp
    have e2 : (acc ++ its) ++ (List.replicate k its).flatten = acc ++ (List.replicate (k + 1) its).flatten := by
      rw [List.replicate_succ, List.flatten_cons, List.append_assoc]
    rw [← e2, ← foldl_rep its k (acc ++ its), ← e, List.replicate_succ, List.foldl_cons]

section
variable {X : Cx} {pins : List (Addr × Obj)} {σ : St} {H : Hp} {s : Shared} {l b : Addr} {xs ys zs : List V}

/-! ### the two steps: a tracked list is rewritten, a new list is laid -/
theorem Inv.lset {its its' : List Value} {n : Nat} {f : Array Value → Array Value} {t' : Nat} (I : Inv X pins σ H s) (hH : H l = some (.lst xs))
    (e : s.heap.get? l = some { cls := .type "list", data := .seq its.toArray n }) (hf : f its.toArray = its'.toArray) (hv : Vals ys its') (hz : ys.length ≤ sizeLine) :
    Inv X pins σ (upd H l (.lst ys)) { s with heap := s.heap.update l (Obj.mapSeq f), toks := t' } := by
  have q := PySem.IsL.update e f
  rw [hf] at q
  refine I.write (x := l) (e := l) (by rw [hH]; exact trivial) (.inl rfl) (fun b' u hb hu => (Heap.get?_update_other s.heap (Obj.mapSeq f) (Ne.symm hb)).trans hu) ⟨_, q⟩ ?_
  exact ⟨hz, its', _, hv, q⟩
theorem Inv.lnew {its : List Value} {t' : Nat} (I : Inv X pins σ H s) (hv : Vals ys its) (hz : ys.length ≤ sizeLine) :
    Inv X pins σ (upd H s.heap.objs.size (.lst ys)) { s with heap := s.heap.push { cls := .type "list", data := .seq its.toArray }, toks := t' } :=
  I.laid (fun _ _ q => Heap.get?_push_of_some _ q) (Nat.le_refl _) ⟨hz, its, 0, hv, Heap.get?_push_size _ rfl⟩
theorem Inv.fresh (I : Inv X pins σ H s) : H s.heap.objs.size = none := I.hok.fresh (Nat.le_refl _)
theorem Inv.lstM (I : Inv X pins σ H s) (hH : H l = some (.lst xs)) : xs.length ≤ sizeLine ∧ ∃ (its : List Value) (n : Nat), Vals xs its ∧ xs.length = its.length ∧ s.heap.get? l = some { cls := .type "list", data := .seq its.toArray n } := by
  obtain ⟨z, its, n, r, e⟩ := I.hok l _ hH
  exact ⟨z, its, n, r, r.length, e⟩

theorem notLongL {n : Nat} (h : n ≤ sizeLine) : Builtin.List.listTooLong n = false := by
  unfold Builtin.List.listTooLong
  exact decide_eq_false (by omega)
end

section
variable {X : Cx}

/-! ### methods -/
def rAppend : V → List V → Hp → VK → Prop := fun x vs H Q => ∃ l xs y, x = .ref l ∧ vs = [y] ∧ H l = some (.lst xs) ∧ xs.length < sizeLine ∧ Q .non (upd H l (.lst (xs ++ [y])))
theorem mt_append : MtM X "list.append" rAppend := by
  intro pins s σ H x vs v us Q I rx rv h
  obtain ⟨l, xs, y, rfl, rfl, hH, hz, q⟩ := h
  cases rx
  obtain ⟨u, rfl, ru⟩ := rv.one
  obtain ⟨z, its, n, r, hl, e⟩ := I.lstM hH
  refine call_meets F.slot_list_append ⟨_, e, rfl⟩ F.entry_list_append (F.args_list_append_2 _ _) (PySem.list_append l its.toArray n u (by rw [List.size_toArray]; omega)) ⟨e, ?_⟩
  refine ⟨.non, _, I.lset (its' := its ++ [u]) hH e (by simp) (r.append (.cons ru .nil)) ?_, rfl, q⟩
  rw [List.length_append, List.length_singleton]
  omega

def rExtend : V → List V → Hp → VK → Prop := fun x vs H Q => ∃ l b xs zs, x = .ref l ∧ vs = [.ref b] ∧ H l = some (.lst xs) ∧ H b = some (.lst zs) ∧ xs.length + zs.length ≤ sizeLine ∧ Q .non (upd H l (.lst (xs ++ zs)))
theorem mt_extend : MtM X "list.extend" rExtend := by
  intro pins s σ H x vs v us Q I rx rv h
  obtain ⟨l, b, xs, zs, rfl, rfl, hH, hB, hz, q⟩ := h
  cases rx
  obtain ⟨u, rfl, ru⟩ := rv.one
  cases ru
  obtain ⟨z, its, n, r, hl, e⟩ := I.lstM hH
  obtain ⟨z2, its2, n2, r2, hl2, e2⟩ := I.lstM hB
  have hsz : its.toArray.size + its2.toArray.size ≤ sizeLine := by rw [List.size_toArray, List.size_toArray]; omega
  have hlong : ¬ (!its.toArray.isEmpty && Builtin.List.listTooLong (its.toArray.size + its2.toArray.size)) = true := by
    rw [notLongL hsz, Bool.and_false]
    exact Bool.false_ne_true
  refine call_meets F.slot_list_extend ⟨_, e, rfl⟩ F.entry_list_extend (F.args_list_extend_2 _ _)
    (AutoSeq1.list_extend_list_list_0 l its.toArray n b its2.toArray n2 hlong (by rw [List.size_toArray]; omega) (by omega)) ⟨e, e2, ?_⟩
  refine ⟨.non, _, I.lset (its' := its ++ its2) hH e (by simp) (r.append r2) ?_, rfl, q⟩
  rw [List.length_append]
  omega

def rPop : V → List V → Hp → VK → Prop := fun x vs H Q => ∃ l xs y, x = .ref l ∧ vs = [] ∧ H l = some (.lst xs) ∧ xs[xs.length - 1]? = some y ∧ Q y (upd H l (.lst xs.dropLast))
theorem mt_pop : MtM X "list.pop" rPop := by
  intro pins s σ H x vs v us Q I rx rv h
  obtain ⟨l, xs, y, rfl, rfl, hH, hy, q⟩ := h
  cases rx
  have hus := rv.zero
  subst hus
  obtain ⟨z, its, n, r, hl, e⟩ := I.lstM hH
  obtain ⟨u, hu, ru⟩ := r.get hy
  have hy' : its.toArray[its.toArray.size - 1]? = some u := by
    show its.toArray[its.length - 1]? = some u
    rw [← Array.getElem?_toList, ← hl]
    exact hu
  refine call_meets F.slot_list_pop ⟨_, e, rfl⟩ F.entry_list_pop (F.args_list_pop_1 _) (MeetsSeq.list_pop_last l its.toArray n u hy' (by rw [List.size_toArray]; omega)) ⟨e, ?_⟩
  refine ⟨y, _, I.lset (its' := its.dropLast) hH e ?_ r.dropLast ?_, ru, q⟩
  · show its.toArray.eraseIdxIfInBounds (its.toArray.size - 1) = its.dropLast.toArray
    rw [List.size_toArray, List.eraseIdxIfInBounds_toArray, erase_last]
  · rw [List.length_dropLast]
    omega

def rPopAt : V → List V → Hp → VK → Prop := fun x vs H Q => ∃ l xs i k y, x = .ref l ∧ vs = [.int i] ∧ H l = some (.lst xs) ∧ -(2 ^ 63) ≤ i ∧ i < 2 ^ 63 ∧ seqIndex? i xs.length = some k ∧ xs[k]? = some y ∧ Q y (upd H l (.lst (xs.eraseIdx k)))
theorem mt_popAt : MtM X "list.pop" rPopAt := by
  intro pins s σ H x vs v us Q I rx rv h
  obtain ⟨l, xs, i, k, y, rfl, rfl, hH, h1, h2, hk, hy, q⟩ := h
  cases rx
  obtain ⟨u, rfl, ru⟩ := rv.one
  obtain ⟨t, rfl⟩ := ru
  obtain ⟨z, its, n, r, hl, e⟩ := I.lstM hH
  obtain ⟨w, hw, rw'⟩ := r.get hy
  refine call_meets F.slot_list_pop ⟨_, e, rfl⟩ F.entry_list_pop (F.args_list_pop_2 _ _)
    (MeetsSeq.list_pop_at l its.toArray n i t k w (fitsIndex_both h1 h2) (by rw [List.size_toArray, ← hl]; exact hk) (by rw [← Array.getElem?_toList]; exact hw) (by rw [List.size_toArray]; omega)) ⟨e, ?_⟩
  refine ⟨y, _, I.lset (its' := its.eraseIdx k) hH e ?_ (r.eraseIdx k) ?_, rw', q⟩
  · show its.toArray.eraseIdxIfInBounds k = (its.eraseIdx k).toArray
    rw [List.eraseIdxIfInBounds_toArray]
  · have := len_erase xs k
    omega

def rReverse : V → List V → Hp → VK → Prop := fun x vs H Q => ∃ l xs, x = .ref l ∧ vs = [] ∧ H l = some (.lst xs) ∧ Q .non (upd H l (.lst xs.reverse))
theorem mt_reverse : MtM X "list.reverse" rReverse := by
  intro pins s σ H x vs v us Q I rx rv h
  obtain ⟨l, xs, rfl, rfl, hH, q⟩ := h
  cases rx
  have hus := rv.zero
  subst hus
  obtain ⟨z, its, n, r, hl, e⟩ := I.lstM hH
  refine call_meets F.slot_list_reverse ⟨_, e, rfl⟩ F.entry_list_reverse (F.args_list_reverse_1 _) (AutoSeq1.list_reverse_list_0 l its.toArray n (by rw [List.size_toArray]; omega)) ⟨e, ?_⟩
  refine ⟨.non, _, I.lset (its' := its.reverse) hH e (by simp) r.reverse ?_, rfl, q⟩
  rw [List.length_reverse]
  omega

def rClear : V → List V → Hp → VK → Prop := fun x vs H Q => ∃ l xs, x = .ref l ∧ vs = [] ∧ H l = some (.lst xs) ∧ Q .non (upd H l (.lst []))
theorem mt_clear : MtM X "list.clear" rClear := by
  intro pins s σ H x vs v us Q I rx rv h
  obtain ⟨l, xs, rfl, rfl, hH, q⟩ := h
  cases rx
  have hus := rv.zero
  subst hus
  obtain ⟨z, its, n, r, hl, e⟩ := I.lstM hH
  refine call_meets F.slot_list_clear ⟨_, e, rfl⟩ F.entry_list_clear (F.args_list_clear_1 _) (AutoSeq1.list_clear_list_0 l its.toArray n (by rw [List.size_toArray]; omega)) ⟨e, ?_⟩
  exact ⟨.non, _, I.lset (its' := []) (ys := []) hH e rfl .nil (Nat.zero_le _), rfl, q⟩

/-! ### list + list, list += list, list * int -/
def rCat : R2 := fun x y H Q => ∃ l b xs zs, x = .ref l ∧ y = .ref b ∧ H l = some (.lst xs) ∧ H b = some (.lst zs) ∧ xs.length + zs.length ≤ sizeLine ∧ ∀ p, H p = none → Q (.ref p) (upd H p (.lst (xs ++ zs)))
theorem op_cat : OpR X (binaryOp .Add) rCat := by
  intro pins s σ H x y v u Q I rx ry h
  obtain ⟨l, b, xs, zs, rfl, rfl, hH, hB, hz, q⟩ := h
  cases rx
  cases ry
  obtain ⟨z, its, n, r, hl, e⟩ := I.lstM hH
  obtain ⟨z2, its2, n2, r2, hl2, e2⟩ := I.lstM hB
  refine PySem.P.add_list e e2 ?_ (by rw [List.size_toArray, List.size_toArray]; omega)
  have ea : its.toArray ++ its2.toArray = (its ++ its2).toArray := by simp
  rw [ea]
  exact ⟨.ref _, _, I.lnew (t' := s.toks) (r.append r2) (by rw [List.length_append]; omega), rfl, q _ I.fresh⟩
/-- a list times an int (a negative one is nothing) -/
def rRep : R2 := fun x y H Q => ∃ l k xs, x = .ref l ∧ y = .int k ∧ H l = some (.lst xs) ∧ -(2 ^ 63) ≤ k ∧ k < 2 ^ 63 ∧ xs.length * k.toNat ≤ sizeLine ∧
  ∀ p, H p = none → Q (.ref p) (upd H p (.lst (List.replicate k.toNat xs).flatten))
theorem len_rep {α : Type} (xs : List α) (k : Nat) : (List.replicate k xs).flatten.length = k * xs.length := by
  induction k with
  | zero => simp
  | succ k ih => rw [List.replicate_succ, List.flatten_cons, List.length_append, ih, Nat.succ_mul, Nat.add_comm]
theorem op_rep : OpR X (binaryOp .Mult) rRep := by
  intro pins s σ H x y v u Q I rx ry h
  obtain ⟨l, k, xs, rfl, rfl, hH, h1, h2, hz, q⟩ := h
  cases rx
  obtain ⟨t, rfl⟩ := ry
  obtain ⟨z, its, n, r, hl, e⟩ := I.lstM hH
  have hlen : its.toArray.size * k.toNat ≤ sizeLine := by rw [List.size_toArray, ← hl]; exact hz
  have hcap : ¬ its.toArray.size * k.toNat > (2 ^ 63 - 1) / 8 := by
    have : (sizeLine : Nat) ≤ (2 ^ 63 - 1) / 8 := by decide
    omega
  have hfit : ¬ (!Builtin.List.listFitsIndex k) = true := by
    rw [fitsIndex_both h1 h2]
    exact Bool.false_ne_true
  have hlong : ¬ Builtin.List.listTooLong (its.toArray.size * k.toNat) = true := by
    rw [notLongL hlen]
    exact Bool.false_ne_true
  have hnew : List.foldl (fun x1 x2 => x1 ++ x2) #[] (List.replicate (if its.toArray.isEmpty = true then 0 else k.toNat) its.toArray) = (List.replicate k.toNat its).flatten.toArray := by
    have f0 : ∀ m : Nat, List.foldl (fun x1 x2 => x1 ++ x2) #[] (List.replicate m its.toArray) = (List.replicate m its).flatten.toArray := fun m => by
      have := foldl_rep its m []
      rw [List.nil_append] at this
      exact this
    rw [f0]
    cases its with
    | nil => simp
    | cons a r' => rw [if_neg (by simp)]
  refine wpAny_binaryOp_repeat_ref (T := "list") (U := "int") (by decide) ⟨_, e, rfl⟩ (fun s' => typeIs_int s' k t) noFill_list_mul F.fills_int_mul F.slot_int_rmul repeat_list F.slot_int_index.lookup
    (call_meets F.slot_int_rmul (typeIs_int s k t) F.entry_int_rmul (F.args_int_rmul_2 _ _) (int___rmul___int_list k t l its.toArray n)
      ⟨e, rfl, ⟨_, e, rfl⟩, call_meets F.slot_list_mul ⟨_, e, rfl⟩ F.entry_list_mul (F.args_list_mul_2 _ _) (AutoListH.list___mul___list_int_3 l its.toArray n k t hfit hcap hlong) ⟨e, ?_⟩⟩)
  rw [hnew]
  exact ⟨.ref _, _, I.lnew (t' := s.toks) (r.rep k.toNat) (by rw [len_rep, Nat.mul_comm]; exact hz), rfl, q _ I.fresh⟩

/-! ### del xs[i] -/
theorem del_list {pins : List (Addr × Obj)} {s : Shared} {σ : St} {H : Hp} {l : Addr} {xs : List V} {i : Int} {t : Tok} {k : Nat} {Q : Unit → Shared → Prop} (I : Inv X pins σ H s) (hH : H l = some (.lst xs))
    (h1 : -(2 ^ 63) ≤ i) (h2 : i < 2 ^ 63) (hk : seqIndex? i xs.length = some k) (h : ∀ s', Inv X pins σ (upd H l (.lst (xs.eraseIdx k))) s' → Q () s') :
    wpAny (model X.prog X.w) X.A (delItem (.ref l) (.int i t)) Q X.xe s := by
  obtain ⟨z, its, n, r, hl, e⟩ := I.lstM hH
  refine PySem.P.delItem_list (k := k) e (fitsIndex_both h1 h2) (by rw [List.size_toArray, ← hl]; exact hk) (h _ ?_) (by rw [List.size_toArray]; omega)
  refine I.lset (its' := its.eraseIdx k) (t' := s.toks) hH e ?_ (r.eraseIdx k) ?_
  · show its.toArray.eraseIdxIfInBounds k = (its.eraseIdx k).toArray
    rw [List.eraseIdxIfInBounds_toArray]
  · have := len_erase xs k
    omega
end

/-! ### xs[a:b] = ys -/
section
variable {prog : Program} {w : World} {A : Around} {E : Value → Shared → Prop} {s : Shared}
theorem splice_eq (its its2 : List Value) (a c : Nat) : its.toArray.extract 0 a ++ its2.toArray ++ its.toArray.extract c its.toArray.size = (its.take a ++ its2 ++ its.drop c).toArray := by
  apply Array.toList_inj.mp
  first
    | (simp
       exact List.take_of_length_le (by simp))
    | simp [List.take_of_length_le]
    | simp
theorem bounds_run {a c n : Nat} (hac : a ≤ c) (hc : c ≤ n) : sliceBounds (some (a : Int)) (some (c : Int)) none n = ((a : Int), (c : Int), 1) := by
  simp only [sliceBounds, Option.getD_none]
  have h1 : ¬ ((a : Int) < 0) := by omega
  have h2 : ¬ ((c : Int) < 0) := by omega
  simp only [h1, h2, if_false, show (1 : Int) > 0 by decide, if_true]
  congr 1
  · omega
  · congr 1; omega
set_option maxRecDepth 100000 in
/-- list.__setitem__ with a slice of step one and another list -/
theorem setItem_slice {l b sl : Addr} {items new : Array Value} {n n2 : Nat} {vl vu : Value} {a c : Nat} {Q : Unit → Shared → Prop}
    (e : s.heap.get? l = some { cls := .type "list", data := .seq items n }) (e2 : s.heap.get? b = some { cls := .type "list", data := .seq new n2 }) (hne : l ≠ b)
    (hs : s.heap.IsSliceOf sl vl vu .none) (pl : IsPart vl (some (a : Int))) (pu : IsPart vu (some (c : Int))) (hac : a ≤ c) (hc : c ≤ items.size)
    (hsz : items.size + new.size ≤ sizeLine) (h : Q () { s with heap := s.heap.update l (Obj.mapSeq fun xs => xs.extract 0 a ++ new ++ xs.extract c xs.size) }) :
    wpAny (model prog w) A (setItem (.ref l) (.ref sl) (.ref b)) Q E s := by
  have hl : s.heap.IsList l items := PySem.IsL.isList e
  have hb : s.heap.IsList b new := PySem.IsL.isList e2
  obtain ⟨os, hos, hcs, hds⟩ := id hs
  have hTs : s.TypeIs (.ref sl) "slice" := ⟨os, hos, hcs⟩
  have hstep : ¬ ((rawPart none == rawInt 0) = true) := Bool.false_ne_true
  have hsame : Builtin.List.listSameRef (.ref l) (.ref b) = false := by
    unfold Builtin.List.listSameRef
    exact beq_eq_false_iff_ne.mpr hne
  have hmax : (max (a : Int) (c : Int)).toNat = c := by omega
  have hz' : ((fun xs : Array Value => xs.extract 0 a ++ new ++ xs.extract c xs.size) items).size ≤ sizeLine + 1 := by
    simp only [Array.size_append, Array.size_extract]
    omega
  unfold setItem
  try with_reducible refine wpAny_holding ?_
  first | refine wpAny_bind (wpAny_pure ?_) | skip
  refine wpAny_bind (wpAny_sequenceKey hl.typeIs (by decide) ?_)
  refine wpAny_bind (wpAny_callSpecial?_slot (name := Str.ofString "__setitem__") hl.typeIs slot_list_setitem
    (wpAny_call_entry slot_list_setitem hl.typeIs entry_list_setitem ?_ (args_list_setitem _ _ _)))
  show wpAny _ _ (Builtin.List.listSubscript? (.ref sl) >>= _) _ _ s
  refine wpAny_bind ?_
  unfold Builtin.List.listSubscript?
  refine wpAny_bind (wpAny_specialOf hTs slice_no_index ?_)
  simp only [Option.isNone_none, if_true]
  refine wpAny_pure ?_
  show wpAny _ _ (typeOf (.ref sl) >>= _) _ _ s
  refine wpAny_bind (wpAny_typeOf hTs ?_)
  first
    | rw [if_neg (by decide)]
    | refine PySem.W.KFB.if_not (by decide) ?_
  rw [listSliceParts_eq]
  refine wpAny_bind (wpAny_bind (wpAny_field hos hds (x := .none) rfl (wpAny_bind (wpAny_listPart .none ?_))))
  rw [if_neg hstep]
  refine wpAny_bind (wpAny_field hos hds (x := vl) rfl (wpAny_bind (wpAny_listPart pl ?_)))
  refine wpAny_bind (wpAny_field hos hds (x := vu) rfl (wpAny_bind (wpAny_listPart pu (wpAny_pure ?_))))
  first
    | simp only [hsame, Bool.false_eq_true, if_false]
    | refine PySem.W.KFB.if_not hsame ?_
    | (dsimp only
       rw [if_neg (by rw [hsame]; exact Bool.false_ne_true)])
  refine wpAny_bind (m := Builtin.List.listAllItems (.ref b) "must assign iterable to extended slice") ?_
  unfold Builtin.List.listAllItems
  refine wpAny_bind (wpAny_typeOf hb.typeIs ?_)
  first
    | refine PySem.W.KFB.if_so (by decide) ?_
    | rw [if_pos (by decide)]
    | simp only [beq_self_eq_true, Bool.true_or, if_true]
  unfold Builtin.List.listItems
  refine wpAny_bind (wpAny_seqItems e2 rfl (wpAny_pure ?_))
  refine wpAny_bind (wpAny_bind (wpAny_seqItems e rfl (wpAny_pure ?_)))
  refine wpAny_bind (wpAny_of_eq ((sliceIndices_raw (some (a : Int)) (some (c : Int)) none items.size (by simp)).trans (congrArg (pure : Int × Int × Int → Sem (Int × Int × Int)) (bounds_run hac hc))) ?_)
  show wpAny _ _ (if ((1 : Int) == 1) = true then _ else _) _ _ s
  rw [if_pos (by decide)]
  refine wpAny_bind (wpAny_rule ?_)
  first
    | simp only [notLongL hsz, Bool.false_eq_true, if_false]
    | refine PySem.W.KFB.if_not (notLongL hsz) ?_
  first | refine wpAny_bind (wpAny_pure ?_) | skip
  show wpAny _ _ (updateSeq l (fun xs => xs.extract 0 ((a : Int)).toNat ++ new ++ xs.extract (max (a : Int) (c : Int)).toNat xs.size) >>= _) _ _ s
  rw [hmax, Int.toNat_natCast]
  refine wpAny_bind (wpAny_updateSeq (hz := Nat.le_trans (Nat.le_add_right _ _) hsz) (_hz' := hz') e rfl ?_)
  refine wpAny_bind (wpAny_letGo ?_)
  first
    | exact wpAny_bind (wpAny_pure (wpAny_pure ⟨.none, rfl, wpAny_pure h⟩))
    | exact wpAny_pure ⟨.none, rfl, wpAny_pure h⟩
end

section
variable {X : Cx}
/-- xs[a:c] = ys of another list, at the value level: sl is the slice object that was just made -/
theorem set_slice {pins : List (Addr × Obj)} {s : Shared} {σ : St} {H : Hp} {l b sl : Addr} {xs ys : List V} {a c : Int} {vl vu : Value} {Q : Unit → Shared → Prop} (I : Inv X pins σ H s)
    (hH : H l = some (.lst xs)) (hB : H b = some (.lst ys)) (hne : l ≠ b) (hs : s.heap.IsSliceOf sl vl vu .none) (ra : RelV (.int a) vl) (rc : RelV (.int c) vu) (h0 : 0 ≤ a) (hac : a ≤ c) (hc : c ≤ xs.length)
    (hz : xs.length + ys.length ≤ sizeLine) (h : ∀ s', Inv X pins σ (upd H l (.lst (xs.take a.toNat ++ ys ++ xs.drop c.toNat))) s' → Q () s') :
    wpAny (model X.prog X.w) X.A (setItem (.ref l) (.ref sl) (.ref b)) Q X.xe s := by
  obtain ⟨ta, rfl⟩ := ra
  obtain ⟨tc, rfl⟩ := rc
  obtain ⟨z, its, n, r, hl, e⟩ := I.lstM hH
  obtain ⟨z2, its2, n2, r2, hl2, e2⟩ := I.lstM hB
  obtain ⟨a', rfl⟩ := Int.eq_ofNat_of_zero_le h0
  obtain ⟨c', rfl⟩ := Int.eq_ofNat_of_zero_le (Int.le_trans h0 hac)
  simp only [Int.toNat_natCast] at h
  refine setItem_slice (a := a') (c := c') e e2 hne hs (.int _ _) (.int _ _) (by omega) (by rw [List.size_toArray]; omega) (by rw [List.size_toArray, List.size_toArray]; omega) (h _ ?_)
  refine I.lset (its' := its.take a' ++ its2 ++ its.drop c') (t' := s.toks) hH e ?_ (Vals.append (Vals.append (r.take _) r2) (r.drop _)) ?_
  · exact splice_eq its its2 a' c'
  · rw [List.length_append, List.length_append, List.length_take, List.length_drop]
    omega
end
end L2

namespace Att
open PySem PySem.W PySem.Calls PyProof.Rows

/-! ### the script -/
theorem ints_of_wellAll {P : Params} {h : Heap} : ∀ (ns : List Int) (vs : List Value), WellAll P h vs (ns.map WData.int) → IntsAre vs ns := by
  intro ns
  induction ns with
  | nil =>
    intro vs w
    rw [List.map_nil] at w
    cases w
    exact .nil
  | cons n ns ih =>
    intro vs w
    rw [List.map_cons] at w
    cases w with
    | cons a b =>
      cases a
      exact .cons _ _ (ih _ b)

theorem script_of {l : OpenLaw} {n : Nat} (hn : l.most = some n) {P : Params} {h : Heap} {args : List WData} {vals : List Value}
    (hpre : l.row.toRowW.claim.pre args = true) (hwl : WellAll P h vals args) :
    ∃ a vs ns, vals = [Value.ref a] ∧ args = [WData.list (ns.map WData.int)] ∧ h.get? a = some { cls := .type "list", data := .seq vs.toArray } ∧ IntsAre vs ns ∧ ns.length ≤ n := by
  have hsh : WShape.hasAll [] args [.list .int] = true := (pre_splitW hpre).1
  have hc : l.pre.holds [] { args := args } = true := (pre_splitW hpre).2
  obtain ⟨d, r, rfl, h1, h2⟩ := hasAllW_cons hsh
  obtain rfl := hasAllW_nil h2
  obtain ⟨xs, rfl, h3⟩ := hasW_list h1
  obtain ⟨ns, rfl⟩ := items_int h3
  have hlen : ns.length ≤ n := by
    unfold OpenLaw.pre at hc
    have h4 : (WTm.not (.lt (.lit (.int (n : Int))) (.len (.arg 0)))).holds [] { args := [.list (ns.map .int)] } = true := by
      have h4 := (holds_andW hc).1
      rw [hn] at h4
      exact h4
    have h5 := condW_of h4 (w_not (w_lt w_lit (w_len_list (w_arg rfl))))
    rw [List.length_map] at h5
    refine Nat.le_of_not_lt fun q => ?_
    have q' : (n : Int) < ((ns.length : Nat) : Int) := by omega
    first
      | (rw [decide_eq_true q'] at h5; exact absurd h5 (by decide))
      | (simp at h5; omega)
  cases hwl with
  | cons w1 w2 =>
    cases w2
    cases w1 with
    | list ho hall => exact ⟨_, _, ns, rfl, rfl, ho, ints_of_wellAll ns _ hall, hlen⟩

theorem post_true (l : OpenLaw) (args : List WData) : l.row.toRowW.claim.post args (.bool true) args = true :=
  postW_of (r := l.row.toRowW) (X := (true == true))
    (show WShape.has [] (.bool true) .bool = true by first | rfl | decide | simp [WShape.has, WShape.arms, WShape.armsAll])
    (show (WTm.eq .res (.lit (.bool true))).value [] { args := args, res := some (.bool true), after := args } = some (.bool (true == true)) from w_eq_bool (w_res rfl) w_lit) rfl

/-! ### the attachment: holds_open's last premise (the goal 'hc' behind k_head) from a wpAny of the law's body -/
theorem attach {l : OpenLaw} {n : Nat} {q : Program} {loose : List Str} {XP : (Str → Option Value) → Heap → Prop} {YP : World → Heap → Prop} {d : DefRec} {x : Str}
    (hn : l.most = some n) (hdf : d.params.defaults = [])
    (hbind : ∀ pm cd doc v : Value, bindArgs (docDef d.name d.params d.body d.scope pm cd doc) ⟨[v], []⟩ = pure [(x, v)])
    (hx : d.scope.names.lookup x = some .local ∨ d.scope.names.lookup x = some .cell)
    (hk : d.scope.kind = .function) (hco : d.scope.isCoroutine = false) (hgen : d.scope.isGenerator = false)
    (body : ∀ (w : World) (s₀ s₁ s : Shared) (mg mb : Str → Option Value) (fa : Addr) (o : Obj) (pm cd doc : Value) (a : Addr) (vs : List Value) (ns : List Int),
      Ground q loose [] XP w s₀ mg mb s₁.heap → YP w s₁.heap →
      s₁.heap.get? fa = some o → o.data = .func (docDef d.name d.params d.body d.scope pm cd doc) → s₁.heap.CodeRec cd d.name → mg d.name = some (.ref fa) →
      s₁.heap.get? a = some { cls := .type "list", data := .seq vs.toArray } → IntsAre vs ns → ns.length ≤ n →
      s.gens = #[] → s.os = s₁.os →
      Fr s₁.heap s₁.heap.objs.size s.heap (bindL (envOfC d.name d.scope s₁.heap.objs.size fa cd).kindOf [(x, .ref a)] fun _ => none) →
      Cl s₁.heap.objs.size (cellsFrom (s₁.heap.objs.size + 1) d.scope.names []) s.heap (bindC (envOfC d.name d.scope s₁.heap.objs.size fa cd).kindOf [(x, .ref a)] fun _ => none) →
      wpAny (model l.prog w) (callerA.deeper (envOfC d.name d.scope s₁.heap.objs.size fa cd)) (execs d.body (envOfC d.name d.scope s₁.heap.objs.size fa cd))
        (fun f s' => f = .ret (.bool true) ∧ OldK s₁.heap s'.heap ∧ s'.os = s₁.os ∧ AllBare s'.gens) (fun _ _ => False) s) :
    WalkO q loose XP YP l.row.toRowW d [] (fun f vs => PySem.call f vs) := by
  intro w s₀ s₁ mg mb G Y fa o pm cd doc dV kV ho hd hcd hD hmg hg args vals as hpre hlay hrd hwl hlo
  obtain rfl : dV = .none := Dflts.none hD hdf
  obtain rfl : kV = .none := Dflts.noKw hD
  obtain ⟨a, vs, ns, rfl, rfl, hobj, hints, hlen⟩ := script_of hn hpre hwl
  refine enter_call ?_
  refine call_cells_ret (o := o) (by rw [depth_caller]; decide) ho (fd_plain hd) G.T.nolimit hcd (hbind pm cd doc (.ref a)) (fun y hy => ?_) (fun h₁ tk F X => ?_) hco hgen hk
  · obtain rfl : y = (x, Value.ref a) := List.mem_singleton.mp hy
    rcases hx with e | e
    · exact .inl e
    · exact .inr ⟨e, cellsFrom_some _ _ _ (.inl e)⟩
  · refine wpAny_mono (body w s₀ s₁ { s₁ with heap := h₁, toks := tk } mg mb fa o pm cd doc a vs ns G Y ho (fd_plain hd) hcd hmg hobj hints hlen hg rfl F X) (fun f s' hq => ?_) (fun _ _ hq => hq)
    obtain ⟨rfl, h2, h3, h4⟩ := hq
    exact ⟨.inl ⟨.bool true, .bool true, [], rfl, fun _ => rfl, .bool true, post_true l _, fun _ => ⟨List.Pairwise.nil, fun _ hm => (nomatch hm)⟩⟩, h2, h3, h4⟩

/-- the same from a codeAny of the CALL (for a layer whose function contracts speak of calls) -/
theorem attach_call {l : OpenLaw} {n : Nat} {q : Program} {loose : List Str} {XP : (Str → Option Value) → Heap → Prop} {YP : World → Heap → Prop} {d : DefRec}
    (hn : l.most = some n) (hdf : d.params.defaults = [])
    (call : ∀ (w : World) (s₀ s₁ : Shared) (mg mb : Str → Option Value) (fa : Addr) (o : Obj) (pm cd doc : Value) (a : Addr) (vs : List Value) (ns : List Int),
      Ground q loose [] XP w s₀ mg mb s₁.heap → YP w s₁.heap →
      s₁.heap.get? fa = some o → o.data = .func (docDef d.name d.params d.body d.scope pm cd doc) → s₁.heap.CodeRec cd d.name → mg d.name = some (.ref fa) →
      s₁.heap.get? a = some { cls := .type "list", data := .seq vs.toArray } → IntsAre vs ns → ns.length ≤ n → s₁.gens = #[] →
      codeAny (model l.prog w) callerA (.call (.ref fa) ⟨[.ref a], []⟩) (fun r s' => r = .ok (.ret (.bool true)) ∧ OldK s₁.heap s'.heap ∧ s'.os = s₁.os ∧ AllBare s'.gens) s₁) :
    WalkO q loose XP YP l.row.toRowW d [] (fun f vs => PySem.call f vs) := by
  intro w s₀ s₁ mg mb G Y fa o pm cd doc dV kV ho hd hcd hD hmg hg args vals as hpre hlay hrd hwl hlo
  obtain rfl : dV = .none := Dflts.none hD hdf
  obtain rfl : kV = .none := Dflts.noKw hD
  obtain ⟨a, vs, ns, rfl, rfl, hobj, hints, hlen⟩ := script_of hn hpre hwl
  refine enter_call (codeAny_mono (call w s₀ s₁ mg mb fa o pm cd doc a vs ns G Y ho (fd_plain hd) hcd hmg hobj hints hlen hg) fun r s' hq => ?_)
  obtain ⟨rfl, h2, h3, h4⟩ := hq
  exact ⟨.inl ⟨.bool true, .bool true, [], rfl, fun _ => rfl, .bool true, post_true l _, fun _ => ⟨List.Pairwise.nil, fun _ hm => (nomatch hm)⟩⟩, h2, h3, h4⟩

/-- the same where the top left finished generators (o_head chose holds_openN): nothing may have changed at all and no generator may be left -/
theorem attachN {l : OpenLaw} {n : Nat} {q : Program} {loose : List Str} {XP : (Str → Option Value) → Heap → Prop} {YP : World → Heap → Prop} {d : DefRec} {x : Str}
    (hn : l.most = some n) (hdf : d.params.defaults = [])
    (hbind : ∀ pm cd doc v : Value, bindArgs (docDef d.name d.params d.body d.scope pm cd doc) ⟨[v], []⟩ = pure [(x, v)])
    (hx : d.scope.names.lookup x = some .local ∨ d.scope.names.lookup x = some .cell)
    (hk : d.scope.kind = .function) (hco : d.scope.isCoroutine = false) (hgen : d.scope.isGenerator = false)
    (body : ∀ (w : World) (s₀ s₁ s : Shared) (mg mb : Str → Option Value) (fa : Addr) (o : Obj) (pm cd doc : Value) (a : Addr) (vs : List Value) (ns : List Int),
      Ground q loose [] XP w s₀ mg mb s₁.heap → YP w s₁.heap →
      s₁.heap.get? fa = some o → o.data = .func (docDef d.name d.params d.body d.scope pm cd doc) → s₁.heap.CodeRec cd d.name → mg d.name = some (.ref fa) →
      s₁.heap.get? a = some { cls := .type "list", data := .seq vs.toArray } → IntsAre vs ns → ns.length ≤ n →
      s.gens = #[] → s.os = s₁.os →
      Fr s₁.heap s₁.heap.objs.size s.heap (bindL (envOfC d.name d.scope s₁.heap.objs.size fa cd).kindOf [(x, .ref a)] fun _ => none) →
      Cl s₁.heap.objs.size (cellsFrom (s₁.heap.objs.size + 1) d.scope.names []) s.heap (bindC (envOfC d.name d.scope s₁.heap.objs.size fa cd).kindOf [(x, .ref a)] fun _ => none) →
      wpAny (model l.prog w) (callerA.deeper (envOfC d.name d.scope s₁.heap.objs.size fa cd)) (execs d.body (envOfC d.name d.scope s₁.heap.objs.size fa cd))
        (fun f s' => f = .ret (.bool true) ∧ (∀ b o, s₁.heap.get? b = some o → s'.heap.get? b = some o) ∧ s'.os = s₁.os ∧ s'.gens = #[]) (fun _ _ => False) s) :
    WalkN q loose XP YP l.row.toRowW d [] (fun f vs => PySem.call f vs) := by
  intro w s₀ s₁ mg mb G Y fa o pm cd doc dV kV ho hd hcd hD hmg hg args vals as hpre hlay hrd hwl hlo
  obtain rfl : dV = .none := Dflts.none hD hdf
  obtain rfl : kV = .none := Dflts.noKw hD
  obtain ⟨a, vs, ns, rfl, rfl, hobj, hints, hlen⟩ := script_of hn hpre hwl
  refine enter_callW ?_
  refine call_cells_ret (o := o) (by rw [depth_caller]; decide) ho (fd_plain hd) G.T.nolimit hcd (hbind pm cd doc (.ref a)) (fun y hy => ?_) (fun h₁ tk F X => ?_) hco hgen hk
  · obtain rfl : y = (x, Value.ref a) := List.mem_singleton.mp hy
    rcases hx with e | e
    · exact .inl e
    · exact .inr ⟨e, cellsFrom_some _ _ _ (.inl e)⟩
  · refine wpAny_mono (body w s₀ s₁ { s₁ with heap := h₁, toks := tk } mg mb fa o pm cd doc a vs ns G Y ho (fd_plain hd) hcd hmg hobj hints hlen hg rfl F X) (fun f s' hq => ?_) (fun _ _ hq => hq)
    obtain ⟨rfl, h2, h3, h4⟩ := hq
    exact ⟨.inl ⟨.bool true, .bool true, [], rfl, fun _ => rfl, .bool true, post_true l _, fun _ => ⟨List.Pairwise.nil, fun _ hm => (nomatch hm)⟩⟩, h2, h3, h4⟩

/-! ### rules over ANY heap (no ledger) from facts about the written part K: the library's own take a ledger (News) for what they write -/
section
variable {prog : Program} {w : World} {A : Around} {E : Value → Shared → Prop} {s : Shared} {K : Frag}

/-- a def of the module, or a method (qual 'C.m'), entered: the frame is the next address; cells behind it -/
theorem call_fn {R : Result → Shared → Prop} {name qual : Str} {params : Arguments} {body : List Stmt} {scope : Scope} {dV kV doc pm cdv ct oc : Value} {an od : Option Addr} {osl : Array (Option Value)} {f : Addr} {args : Args} {binds : List (Str × Value)}
    (X : K.In s.heap) (hlim : s.heap.NoLimit) (ho : K.lookup f = some ⟨oc, od, .func (fnOf name qual params body scope dV kV doc pm an cdv ct), osl⟩) (hcd : codeIn K cdv qual = true) (hroom : A.depth < recursionLimit)
    (hbind : BindsTo s (fnOf name qual params body scope dV kV doc pm an cdv ct) args binds)
    (hkind : (binds.all fun y => scope.names.lookup y.1 == some .local || scope.names.lookup y.1 == some .cell) = true)
    (h : ∀ s₁, InCallC s s.heap.objs.size (bindL (envOfC qual scope s.heap.objs.size f cdv).kindOf binds fun _ => none) (cellsFrom (s.heap.objs.size + 1) scope.names [])
        (bindC (envOfC qual scope s.heap.objs.size f cdv).kindOf binds fun _ => none) s₁ →
      wpAny (model prog w) (A.deeper (envOfC qual scope s.heap.objs.size f cdv)) (execs body (envOfC qual scope s.heap.objs.size f cdv))
        (fun fl s' => R (.ok (.ret (match fl with | .ret v => v | _ => .none))) s')
        (fun e s' => wpAny (model prog w) (A.deeper (envOfC qual scope s.heap.objs.size f cdv)) (leaving (envOfC qual scope s.heap.objs.size f cdv) e) (fun _ s'' => R (.error e) s'') (fun e' s'' => R (.error e') s'') s') s₁)
    (hco : scope.isCoroutine = false) (hgen : scope.isGenerator = false) (hk : scope.kind = .function) : codeAny (model prog w) A (.call (.ref f) args) R s := by
  refine codeAny_call_function hroom (X _ _ ho) rfl hco hgen rfl (codeRec_of X hcd) (hbind _ _ _ _ ?_)
  refine wpAny_newFunctionEnv_cells hk (kindsX hkind _) fun env he s₁ x => ?_
  subst he
  exact ⟨hlim.keeps x.toInCall.keep, codeAny_func (h s₁ x)⟩

/-- C(..): dict at size, instance at size + 1, then __init__ -/
theorem make_obj {R : Result → Shared → Prop} {C fI : Addr} {rest : List Value} {kw : List (Str × Value)}
    (X : K.In s.heap) (hm : makesIn K C = true) (hi : findIn K (.ref C) "__init__" = some (some (.ref fI))) (hf : isFn K (.ref fI) = true)
    (h : codeAny (model prog w) (A.under (.builtin "type.__call__" ⟨.ref C :: rest, kw⟩)) (.call (.ref fI) ⟨.ref (s.heap.objs.size + 1) :: rest, kw⟩) (InitBack (s.heap.objs.size + 1) R)
      { s with heap := (s.heap.push emptyDict).push (instObj C s.heap.objs.size) }) : codeAny (model prog w) A (.call (.ref C) ⟨rest, kw⟩) R s := by
  obtain ⟨hh, g, d, t, os⟩ := s
  exact make_core (makes_of X hm) (looks_findIn X hi) (fun self => bind_fn X self (beq_iff_eq.mp hf)) (.inl rfl) h

/-- x.name where the instance's dict holds the name and the class does not -/
theorem get_field {x C : Addr} {ox : Obj} {es : List DictEntry} {n : Nat} {name : Str} {expr : Bool} {v : Value} {Q : Value → Shared → Prop}
    (X : K.In s.heap) (I : PySem.W.InstAt s.heap x ox C (some (dictOf es n))) (hg : plainGet K C name = true) (hh : hasDictIn K C = true) (ha : findIn K (.ref C) name = some none)
    (hl : getL name es = some (some v)) (hv : handedIn v = true) (h : Q v { s with toks := s.toks + 1 }) : wpAny (model prog w) A (getAttr (.ref x) name expr) Q E s :=
  get_value X I (plainGet_of hg).1 (findObj_own hh ha rfl hl) hv h

/-- x.m(..): the method found in the class -/
theorem get_method {x C f : Addr} {ox : Obj} {es : List DictEntry} {n : Nat} {name : Str} {pl : Sem Bool} {Q : Value × List Value → Shared → Prop}
    (X : K.In s.heap) (I : PySem.W.InstAt s.heap x ox C (some (dictOf es n))) (hg : plainGet K C name = true) (hf : findIn K (.ref C) name = some (some (.ref f))) (ht : isFn K (.ref f) = true)
    (hl : getL name es = some none) (h : Q (.ref f, [.ref x]) s) : wpAny (model prog w) A (getMethod (.ref x) name pl) Q E s :=
  method_fn X I (plainGet_of hg).1 (plainGet_of hg).2 hf (beq_iff_eq.mp ht) (by show (lookIn name (dictOf es n)).map _ = _; rw [lookIn_dict, hl]; rfl) h

/-! the whole heap as the ledger: makes every rule that writes through a ledger a rule over any heap -/
def noObjs (h : Heap) : Heap := { h with objs := #[] }
theorem noObjs_get (h : Heap) (b : Addr) : (noObjs h).get? b = none := by
  cases e : (noObjs h).get? b with
  | none => rfl
  | some o => exact absurd (Heap.lt_size e) (Nat.not_lt_zero _)
def ledger (h : Heap) (L d : Addr) : List (Addr × Obj) := (List.range h.objs.size).filterMap fun a => if a = L ∨ a = d then none else (h.get? a).map fun o => (a, o)
theorem mem_ledger {h : Heap} {L d a : Addr} {o : Obj} : (a, o) ∈ ledger h L d ↔ a ≠ L ∧ a ≠ d ∧ h.get? a = some o := by
  unfold ledger
  rw [List.mem_filterMap]
  constructor
  · rintro ⟨b, _, e⟩
    split at e
    · cases e
    · rename_i hb
      obtain ⟨o', ho, e'⟩ := Option.map_eq_some_iff.mp e
      cases e'
      exact ⟨fun q => hb (.inl q), fun q => hb (.inr q), ho⟩
  · rintro ⟨n1, n2, ho⟩
    refine ⟨a, List.mem_range.mpr (Heap.lt_size ho), ?_⟩
    rw [if_neg (show ¬ (a = L ∨ a = d) from fun q => q.elim n1 n2), ho] <;> rfl
theorem news_ledger {h : Heap} {L d : Addr} {od : Obj} (hne : d ≠ L) (ho : h.get? d = some od) : News (noObjs h) L h ([] ++ (d, od) :: ledger h L d) := by
  rintro ⟨a, o⟩ hp
  rcases List.mem_cons.mp hp with e | hp
  · cases e
    exact ⟨ho, hne, noObjs_get _ _⟩
  · obtain ⟨n1, n2, e⟩ := mem_ledger.mp hp
    exact ⟨e, n1, noObjs_get _ _⟩
theorem fr_all {h : Heap} {L : Addr} {m : Str → Option Value} (n : h.Ns L m) : Fr (noObjs h) L h m :=
  ⟨n, fun b o e => (by rw [noObjs_get] at e; cases e), Nat.zero_le _⟩
/-- Upd of the head entry (for append_K, setItem_K ..) -/
theorem upd_ledger {h : Heap} {L d : Addr} {o o' : Obj} : Upd d o o' ((d, o) :: ledger h L d) ((d, o') :: ledger h L d) :=
  .head fun ⟨_, _⟩ hp => (mem_ledger.mp hp).2.1

/-- x.name = v over any heap: L is any namespace of the heap (the frame's, say): its map stays, its object is not told; all else but the dict stays -/
theorem set_field {x C dx L : Addr} {ox : Obj} {m : Str → Option Value} {es es' : List DictEntry} {n n' : Nat} {name : Str} {v : Value} {Q : Unit → Shared → Prop}
    (X : K.In s.heap) (I : PySem.W.InstAt s.heap x ox C (some (dictOf es n))) (hd : ox.dict = some dx) (hL : s.heap.Ns L m) (hne : dx ≠ L)
    (hs : findIn K (.ref C) "__setattr__" = some (some (.builtin "object.__setattr__"))) (hp : plainOver K C = true) (ht : takerIn K C name = some none) (hh : hasDictIn K C = true) (hl : (getL name es).isSome = true)
    (e : (putL name (PyData.keyHash w.params name) (.str name (s.toks + 1)) v es, putN name es n) = (es', n')) (hz : es'.length ≤ 1000)
    (h : ∀ h' : Heap, h'.Ns L m → h'.get? dx = some (dictOf es' n') → (∀ b o, b ≠ dx → b ≠ L → s.heap.get? b = some o → h'.get? b = some o) → Q () { s with heap := h', toks := s.toks + 2 }) :
    wpAny (model prog w) A (setAttr (.ref x) name v) Q E s := by
  obtain ⟨e1, e2⟩ := Prod.mk.inj e
  have hdx : s.heap.get? dx = some (dictOf es n) := by
    have := I.dict
    rw [hd] at this
    exact this
  refine set_plain X I hs (osa_dict (s := { s with toks := s.toks + 1 }) (h₀ := noObjs s.heap) (L := L) (m := m) (od := dictOf es n) (od' := dictOf es' n') (es := es') (n := n') (pre := []) (post := ledger s.heap L dx)
    (fr_all hL) (news_ledger hne hdx) X I hd hp ht hh hl (fun _ q => nomatch q) (fun ⟨_, _⟩ q => (mem_ledger.mp q).2.1) (by rw [putName_dict, e1, e2]) rfl hz fun h' F' N' => ?_)
  exact h h' F'.ns (N'.get (List.Mem.head _)) fun b o n1 n2 ho => N'.get (List.Mem.tail _ (mem_ledger.mpr ⟨n2, n1, ho⟩))
end
end Att

namespace L2
open PySem PySem.Spec PyProof.Rows

theorem vals_ints : ∀ {vs : List Value} {ns : List Int}, IntsAre vs ns → Vals (ns.map V.int) vs
  | _, _, .nil => .nil
  | _, _, .cons n t h => .cons ⟨t, rfl⟩ (vals_ints h)

/-- nothing is tracked but the script, known to the object (or it is an object of the module) -/
def Only (H : Hp) : Prop := ∀ b, H b = none ∨ ∃ o xs, H b = some (.frz o (.lst xs))

/-- THE HEAD: the law's promise, at the heap behind the top. F, the promise of the law's def, may use that base is part of the heap (so K.In base, base.Ns mainGlobals mg stand in Mod) -/
theorem law_call {P : Program} {w : World} {K : PySem.W.Frag} {mg mb : Str → Option Value} {CX : CXT} {k : Nat} {fa a : Addr} {fd : FuncData} {x : Str} {sp : Sp} {s₁ : Shared} {vs : List Value} {ns : List Int}
    (KX : K.In s₁.heap) (hns : s₁.heap.Ns mainGlobals mg) (hb : s₁.heap.Ns builtinsNs mb) (hbb : ∀ x : Str, x ≠ "__name__" → mb x = bootBuiltins x) (hlim : s₁.heap.NoLimit) (hg : s₁.gens = #[])
    (ha : s₁.heap.get? a = some { cls := .type "list", data := .seq vs.toArray }) (hi : IntsAre vs ns) (hl : ns.length ≤ sizeLine) (hr : Room k callerA)
    (F : ∀ base : Heap, K.In base → base.Ns mainGlobals mg → FnOk P w K mg base CX k fa fd [x] sp) (hbind : ∀ (s : Shared) (u : Value), BindsTo s fd ⟨[u], []⟩ [(x, u)])
    (hsp : ∀ H : Hp, Only H → SqL K H a (ns.map V.int) → sp [.ref a] H (fun v _ => v = .bl true) fun _ _ _ => False)
    (hCX : ∀ H e s', CX [] H s₁ (fun _ _ _ => False) e s' → False) :
    codeAny (model P w) callerA (.call (.ref fa) ⟨[.ref a], []⟩) (fun r s' => r = .ok (.ret (.bool true)) ∧ OldK s₁.heap s'.heap ∧ s'.os = s₁.os ∧ AllBare s'.gens) s₁ := by
  have rv := vals_ints hi
  have lenV := hi.length
  -- from an abstract heap in which nothing but the script may be tracked
  have core : ∀ H : Hp, Only H → SqL K H a (ns.map V.int) → HOk P w H s₁.heap → (∀ b, H b ≠ none → b = a) → (H a ≠ none → K.lookup a = none) →
      codeAny (model P w) callerA (.call (.ref fa) ⟨[.ref a], []⟩) (fun r s' => r = .ok (.ret (.bool true)) ∧ OldK s₁.heap s'.heap ∧ s'.os = s₁.os ∧ AllBare s'.gens) s₁ := by
    intro H hO hS hok hA hK
    have base_of : ∀ {b : Addr} {o : Obj}, s₁.heap.get? b = some o → H b = none → (hidT s₁.heap H).get? b = some o := fun e n => hidT_get e n
    have noA : ∀ {b : Addr} {o : Obj} {es : Array DictEntry} {ep : Nat}, s₁.heap.get? b = some o → o.data = .dict es ep → H b = none := fun {b o es ep} e d => by
      cases q : H b with
      | none => rfl
      | some u =>
        have e' : b = a := hA b (by rw [q]; simp)
        subst e'
        rw [ha] at e; cases e
        have d' : Data.seq vs.toArray _ = Data.dict es ep := d
        cases d'
    have nsK : ∀ {b : Addr} {m : Str → Option Value}, s₁.heap.Ns b m → (hidT s₁.heap H).Ns b m := fun {b m} ⟨o, es, ep, e, d, r⟩ => ⟨o, es, ep, base_of e (noA e d), d, r⟩
    have hKb : K.In (hidT s₁.heap H) := fun b o e => base_of (KX b o e) (by
      cases q : H b with
      | none => rfl
      | some u =>
        have e' : b = a := hA b (by rw [q]; simp)
        subst e'
        rw [hK (by rw [q]; simp)] at e; cases e)
    have hM : Mod K mg (hidT s₁.heap H) := ⟨hKb, nsK hns, ⟨mb, nsK hb, hbb⟩, let ⟨mc, h1, h2⟩ := hlim; ⟨mc, nsK h1, h2⟩⟩
    have e0 : Env0 P w K mg (hidT s₁.heap H) callerA [] s₁ H := ⟨rfl, hM, fun b o e => of_hidT e, Nat.le_of_eq (hidT_size _ _), trivial, fun b hb => absurd (show b ∈ ([] : List Addr) from hb) (by simp), hok, .of_eq hg⟩
    refine codeAny_mono ((F _ hKb (nsK hns)).run callerA [] s₁ H ⟨[.ref a], []⟩ [.ref a] [.ref a] _ _ hr e0 (hbind s₁ (.ref a)) (.cons rfl .nil) (hsp H hO hS)) fun r s' h => ?_
    cases r with
    | error e => exact (hCX H e s' h).elim
    | ok fl =>
      cases fl with
      | next => exact False.elim h
      | brk => exact False.elim h
      | cont => exact False.elim h
      | ret u =>
        obtain ⟨v, H', os, bare, un, hok', r', q⟩ := h
        have q' : v = .bl true := q
        subst q'
        obtain rfl : u = Value.bool true := r'
        refine ⟨rfl, OldK.of_keep fun b o e => ?_, os, bare⟩
        cases q : H b with
        | none => exact un.keep b o e q (by intro z; exact absurd (show b ∈ ([] : List Addr) from z) (by simp)) (by simp)
        | some u =>
          rcases hO b with z | ⟨ob, xs, z⟩
          · rw [q] at z; cases z
          · have z2 := un.frzs b ob _ z
            obtain ⟨e1, _⟩ := hok b _ z
            obtain ⟨e2, _⟩ := hok' b _ z2
            rw [e] at e1; cases e1
            exact e2
  cases hk : K.lookup a with
  | some o =>
    -- the script is one of the module's own objects
    have e := KX a o hk
    rw [ha] at e
    cases e
    refine core (fun _ => none) (fun _ => .inl rfl) (.inr ⟨_, vs.toArray, _, hk, rfl, rfl, rfl, by rw [List.size_toArray, lenV]; exact hl, by simpa using rv⟩) (fun b u z => by have z' : (none : Option HO) = some u := z; cases z') (fun b z => absurd rfl z) fun z => absurd rfl z
  | none =>
    refine core (fun b => if b = a then some (.frz { cls := .type "list", data := .seq vs.toArray } (.lst (ns.map V.int))) else none) (fun b => ?_) (.inl (.inr ⟨{ cls := .type "list", data := .seq vs.toArray }, if_pos rfl⟩)) (fun b u z => ?_) (fun b z => ?_) fun _ => hk
    · by_cases hb : b = a
      · exact .inr ⟨_, _, if_pos hb⟩
      · exact .inl (if_neg hb)
    · by_cases hb : b = a
      · have z' := (if_pos hb).symm.trans z
        cases z'
        subst hb
        exact ⟨ha, by rw [List.length_map]; exact hl, vs, _, rv, ha⟩
      · have z' := (if_neg hb).symm.trans z
        cases z'
    · by_cases hb : b = a
      · exact hb
      · exact absurd (if_neg hb) z
end L2

namespace L2
open PySem PySem.Spec PyProof.Rows

abbrev KOf {K : PySem.W.Frag} {h : Heap} (_ : K.In h) : PySem.W.Frag := K

/-- the goal that k_head leaves (case hc), from the law's promise. F gives the function object fd (K's own) once, then the promise over every base -/
theorem walk_of {l : PySem.W.OpenLaw} {n k : Nat} {q : Program} {loose : List Str} {XP : (Str → Option Value) → Heap → Prop} {YP : World → Heap → Prop} {d : DefRec} {K : Params → PySem.W.Frag} {CX : World → CXT} {sp : World → Sp} {x : Str}
    (hn : l.most = some n) (hn2 : n ≤ sizeLine) (hdf : d.params.defaults = []) (hr : Room k callerA)
    (hY : ∀ (w : World) (h : Heap), YP w h → (K w.params).In h)
    (F : ∀ (w : World) (mg : Str → Option Value) (fa : Addr) (h : Heap), (K w.params).In h → h.Ns mainGlobals mg → mg d.name = some (.ref fa) →
      ∃ fd : FuncData, (∀ (s : Shared) (u : Value), BindsTo s fd ⟨[u], []⟩ [(x, u)]) ∧
        ∀ base : Heap, (K w.params).In base → base.Ns mainGlobals mg → FnOk l.prog w (K w.params) mg base (CX w) k fa fd [x] (sp w))
    (hsp : ∀ (w : World) (H : Hp) (a : Addr) (ns : List Int), ns.length ≤ n → Only H → SqL (K w.params) H a (ns.map V.int) → sp w [.ref a] H (fun v _ => v = .bl true) fun _ _ _ => False)
    (hCX : ∀ (w : World) (H : Hp) (s : Shared) (e : Value) (s' : Shared), CX w [] H s (fun _ _ _ => False) e s' → False) :
    PySem.W.WalkO q loose XP YP l.row.toRowW d [] (fun f vs => PySem.call f vs) := by
  refine Att.attach_call hn hdf fun w s₀ s₁ mg mb fa o pm cd doc a vs ns G Y ho hd hcd hmg hobj hints hlen hg => ?_
  have KX := hY w _ Y
  obtain ⟨fd, hb, hF⟩ := F w mg fa _ KX G.T.g hmg
  exact law_call KX G.T.g G.T.b G.T.builtins G.T.nolimit hg hobj hints (Nat.le_trans hlen hn2) hr hF hb (fun H hO hS => hsp w H a ns hlen hO hS) fun H e s' => hCX w H s₁ e s'
/-- the same where the promise hangs on the written part alone: (sp := My.sp_law), no hole under a binder -/
theorem walk_ofK {l : PySem.W.OpenLaw} {n k : Nat} {q : Program} {loose : List Str} {XP : (Str → Option Value) → Heap → Prop} {YP : World → Heap → Prop} {d : DefRec} {K : Params → PySem.W.Frag} {CX : CXT} {sp : PySem.W.Frag → Sp} {x : Str}
    (hn : l.most = some n) (hn2 : n ≤ sizeLine) (hdf : d.params.defaults = []) (hr : Room k callerA)
    (hY : ∀ (w : World) (h : Heap), YP w h → (K w.params).In h)
    (F : ∀ (w : World) (mg : Str → Option Value) (fa : Addr) (h : Heap), (K w.params).In h → h.Ns mainGlobals mg → mg d.name = some (.ref fa) →
      ∃ fd : FuncData, (∀ (s : Shared) (u : Value), BindsTo s fd ⟨[u], []⟩ [(x, u)]) ∧
        ∀ base : Heap, (K w.params).In base → base.Ns mainGlobals mg → FnOk l.prog w (K w.params) mg base CX k fa fd [x] (sp (K w.params)))
    (hsp : ∀ (K : PySem.W.Frag) (H : Hp) (a : Addr) (ns : List Int), ns.length ≤ n → Only H → SqL K H a (ns.map V.int) → sp K [.ref a] H (fun v _ => v = .bl true) fun _ _ _ => False)
    (hCX : ∀ (H : Hp) (s : Shared) (e : Value) (s' : Shared), CX [] H s (fun _ _ _ => False) e s' → False) :
    PySem.W.WalkO q loose XP YP l.row.toRowW d [] (fun f vs => PySem.call f vs) :=
  walk_of (K := K) (CX := fun _ => CX) (sp := fun w => sp (K w.params)) hn hn2 hdf hr hY F (fun w H a ns h1 h2 h3 => hsp (K w.params) H a ns h1 h2 h3) fun _ H s e s' => hCX H s e s'
end L2

/- THE LAST THEOREM (shape; LID, My.* are yours):
   My.Adr: a structure of the addresses that your layer names (classes, functions); My.Txt K t: a structure (Prop) of the equations over K;
   My.txt_mk : {K} {implicit addresses ..} (e1 : nsIn K mainGlobals "law" = some (some (.ref f))) (e2 : K.lookup f = some ⟨oc, od, .func (fnOf "law" "law" params body scope dV kV doc pm an cdv ct), sl⟩) (e3 : codeIn K cdv "law" = true) .. : ∃ t, My.Txt K t

set_option maxRecDepth 100000 in
set_option maxHeartbeats 0 in
theorem PySem.Challenge.cw_LID_holds : PySem.Challenge.rw_LID.Holds := by
  w_on; o_law; k_head; (case hw => w_witness2)
  k_fill
  refine L2.walk_of (l := PySem.Challenge.rw_LID) (n := 63) (k := 40) (x := "script") (CX := fun w => ..) (sp := fun _ => My.sp_law) rfl (by decide) rfl ⟨rfl, by decide, by decide⟩ (fun w h Y => PySem.W.kIn_of Y) ?F ?S ?C
  case F =>
    intro w mg fa h KX G hmg
    have T : ∃ t, My.Txt (L2.KOf KX) t := by
      dsimp only [L2.KOf]                          -- K must stand as «<heap const> w.params» for k_is
      refine' My.txt_mk ?e1 ?e2 ?e3 ..
      (case e1 => PySem.W.k_is)                    -- in the order: a name -> its address -> its object -> its parts
      (case e2 => PySem.W.k_is)
      ..
    obtain ⟨t, T⟩ := T
    have e0 := hmg.symm.trans (PySem.W.mg_of KX G T.law)
    cases e0                                       -- fa is the law's own address
    exact ⟨_, fun s u => .of_eq rfl, fun base kb nb => My.law_fn T kb nb⟩     -- if «.of_eq rfl» comes too early: refine' ⟨_, ?b, fun base kb nb => My.law_fn T kb nb⟩; exact fun s u => .of_eq rfl
  case S => exact fun w H a ns hl hO hS => ..
  case C => exact ..
(the tactic k_is has no namespace: write k_is) -/

/-! SHORT WORDS over the layer: a def of the text, its body, what a loop and a test want. -/
namespace L2
open PySem PySem.Spec PyProof.Rows

/-! ### the text by places -/
/-- the j-th statement of a class's body -/
def inClass (s : Stmt) (j : Nat) : Stmt := match s with
  | .ClassDef _ _ _ body _ _ _ _ _ _ _ => body.getD j (.Pass ⟨0, 0, 0, 0⟩)
  | _ => .Pass ⟨0, 0, 0, 0⟩
def defArgs (s : Stmt) : Arguments := match s with
  | .FunctionDef _ a _ _ _ _ _ _ _ _ => a
  | _ => { posonlyargs := [], args := [], vararg := none, kwonlyargs := [], kw_defaults := [], kwarg := none, defaults := [] }
def defBody (s : Stmt) : List Stmt := match s with
  | .FunctionDef _ _ b _ _ _ _ _ _ _ => b
  | _ => []
def defScope (s : Stmt) : Scope := match s with
  | .FunctionDef _ _ _ _ _ _ sc _ _ _ => sc
  | _ => { kind := .function, names := [], isGenerator := false, isCoroutine := false }

/-! ### no exception leaves a def -/
abbrev CX0 : CXT := fun _ _ _ _ _ _ => False
abbrev E0 : XK := fun _ _ _ => False
theorem pass0 {X : Cx} : Passes CX0 X E0 := fun _ _ _ _ _ _ _ h => h.elim

/-! ### a def (or method) of the text as it stands behind the top -/
structure Fun (K : PySem.W.Frag) (x qual : Str) (st : Stmt) (f : Addr) (fd : FuncData) : Prop where
  ex : ∃ (oc : Value) (od : Option Addr) (kV doc pm : Value) (an : Option Addr) (cdv ct : Value) (osl : Array (Option Value)),
    fd = PySem.W.fnOf x qual (defArgs st) (defBody st) (defScope st) .none kV doc pm an cdv ct ∧ K.lookup f = some ⟨oc, od, .func fd, osl⟩ ∧ PySem.W.codeIn K cdv qual = true
  kp : PySem.W.keepIn K (.ref f) = true
section
variable {P : Program} {w : World} {K : PySem.W.Frag} {mg : Str → Option Value} {base : Heap}
/-- THE RULE for a def: its body as a term of rules, and the reading of that term -/
theorem Fun.ok {x qual : Str} {st : Stmt} {f : Addr} {fd : FuncData} {N ps : List Str} {k : Nat} {sp : Sp} (F : Fun K x qual st f fd) (S : FnScope N ps (defScope st)) (len : ∀ vs H Q E, sp vs H Q E → vs.length = ps.length)
    (hbody : ∀ (cdv : Value) (A : Around) (outer : List Env) (s : Shared) (H : Hp) (vs : List V) (Q : VK) (E : XK), Room k (A.deeper (envOfC qual (defScope st) s.heap.objs.size f cdv)) → sp vs H Q E →
      ∃ t, PSs (cxOf CX0 P w K mg base N qual (defScope st) f cdv A outer s H E).nox (defBody st) t ∧ t { nx := fun _ H' => Q .non H', rt := Q } (start N vs) H) : FnOk P w K mg base CX0 (k + 1) f fd ps sp := by
  obtain ⟨oc, od, kV, doc, pm, an, cdv, ct, osl, rfl, lk, hcd⟩ := F.ex
  refine fn_of lk hcd S len fun A outer s H vs Q E hr hsp => ?_
  obtain ⟨t, h, q⟩ := hbody cdv A outer s H vs Q E hr hsp
  exact ⟨t, h.nox, q⟩
/-- how its arguments bind (no defaults): h is «fun _ _ _ _ _ _ us hl => match us, hl with | [_, _], _ => rfl», one _ a parameter -/
theorem Fun.binds {x qual : Str} {st : Stmt} {f : Addr} {fd : FuncData} {ps : List Str} (F : Fun K x qual st f fd)
    (h : ∀ (kV doc pm : Value) (an : Option Addr) (cdv ct : Value) (us : List Value), us.length = ps.length → bindArgs (PySem.W.fnOf x qual (defArgs st) (defBody st) (defScope st) .none kV doc pm an cdv ct) ⟨us, []⟩ = pure (ps.zip us)) : Binds K fd ps [] := by
  obtain ⟨oc, od, kV, doc, pm, an, cdv, ct, osl, rfl, lk, hcd⟩ := F.ex
  exact .all (h kV doc pm an cdv ct)
theorem fun_mk {x qual : Str} {st : Stmt} {f : Addr} {oc : Value} {od an : Option Addr} {osl : Array (Option Value)} {kV doc pm cdv ct : Value} (l : K.lookup f = some ⟨oc, od, .func (PySem.W.fnOf x qual (defArgs st) (defBody st) (defScope st) .none kV doc pm an cdv ct), osl⟩)
    (c : PySem.W.codeIn K cdv qual = true) (k : PySem.W.keepIn K (.ref f) = true) : Fun K x qual st f (PySem.W.fnOf x qual (defArgs st) (defBody st) (defScope st) .none kV doc pm an cdv ct) := ⟨⟨oc, od, kV, doc, pm, an, cdv, ct, osl, rfl, l, c⟩, k⟩
end
theorem hu_of {A : Around} {k : Nat} (hr : Room k A) : A.units + 1 < cLine := Nat.lt_of_le_of_lt (Nat.add_le_add_left (by decide : 1 ≤ 64) _) hr.units
theorem small1000 {n : Nat} (h : n ≤ 1000) : n < sizeLine := Nat.lt_of_le_of_lt h (by decide)

/-! ### expressions in short: the name that stands in the i-th slot -/
section
variable {X : Cx}
theorem pv (i : Nat) {x : Str} {pos : Pos} (hN : X.N[i]? = some x := by rfl) (hv : Vis X.env.scope x := by first | exact Or.inl rfl | exact Or.inr (Or.inl rfl) | exact Or.inr (Or.inr rfl)) (hd : (x == ("__debug__" : Str)) = false := by decide)
    (hcd : (x == ("__classdict__" : Str)) = false := by decide) : PE X (.Name x pos) (tVar i) := pe_var hN hv hd hcd
/-- len of a dict -/
theorem call_lenD : CallR X (.builtin "len") (fun xs H Q => ∃ a kvs, xs = [V.ref a] ∧ H a = some (.dK kvs) ∧ Q (.int kvs.length) H) := by
  intro pins s σ H xs us Q I r h
  obtain ⟨a, kvs, rfl, ha, q⟩ := h
  obtain ⟨u, rfl, ru⟩ := vals1 r
  cases ru
  exact d_len I (.inl ha) fun t s' I' => ⟨.int kvs.length, H, I', ⟨t, rfl⟩, q⟩
end

/-! ### tests -/
theorem iteF {A B : Prop} (h : B) : if false = true then A else B := by
  rw [if_neg Bool.false_ne_true]
  exact h
theorem iteT {A B : Prop} (h : A) : if true = true then A else B := by
  rw [if_pos rfl]
  exact h
theorem ite2 {c A B : Prop} [Decidable c] (h1 : c → A) (h2 : ¬ c → B) : if c then A else B := by
  by_cases h : c
  · rw [if_pos h]
    exact h1 h
  · rw [if_neg h]
    exact h2 h
theorem iteNS {c A B : Prop} [Decidable c] (hc : c) (h : B) : if (!decide c) = true then A else B := by
  rw [decide_eq_true hc]
  exact iteF h

/-! ### heaps -/
/-- all that was tracked is as it was -/
def Same (H H' : Hp) : Prop := ∀ b o, H b = some o → H' b = some o
theorem Same.refl (H : Hp) : Same H H := fun _ _ h => h
theorem Same.trans {H H1 H2 : Hp} (a : Same H H1) (b : Same H1 H2) : Same H H2 := fun c o h => b c o (a c o h)
theorem Same.free {H H' : Hp} (e : Same H H') {l : Addr} (h : H' l = Option.none) : H l = Option.none := by
  cases q : H l with
  | none => rfl
  | some o =>
    rw [e l o q] at h
    cases h
theorem Same.seq {K : PySem.W.Frag} {H H' : Hp} {a : Addr} {xs : List V} (e : Same H H') (h : SqL K H a xs) : SqL K H' a xs := by
  rcases h with (h | ⟨o, h⟩) | h
  · exact .inl (.inl (e _ _ h))
  · exact .inl (.inr ⟨o, e _ _ h⟩)
  · exact .inr h

/-! ### a dict's pairs: keys that differ -/
section
variable {κ : Type} [DecidableEq κ]
theorem valV_not {kvs : List (κ × V)} {k : κ} (h : valV kvs k = none) : ¬ k ∈ kvs.map (·.1) := by
  intro m
  obtain ⟨p, hp, e⟩ := List.mem_map.mp m
  have q : (kvs.any fun kv => decide (kv.1 = k)) = true := List.any_eq_true.mpr ⟨p, hp, decide_eq_true e⟩
  rw [valV_any, h] at q
  exact absurd q (by simp)
theorem valV_in {kvs : List (κ × V)} {k : κ} {v : V} (h : valV kvs k = some v) : k ∈ kvs.map (·.1) := by
  have q : (kvs.any fun kv => decide (kv.1 = k)) = true := by
    rw [valV_any, h]
    all_goals rfl
  obtain ⟨p, hp, e⟩ := List.any_eq_true.mp q
  exact List.mem_map.mpr ⟨p, hp, of_decide_eq_true e⟩
theorem nd_snoc : ∀ {l : List κ} {k : κ}, l.Nodup → ¬ k ∈ l → (l ++ [k]).Nodup
  | [], k, _, _ => by simp
  | a :: r, k, h, hk => by
    obtain ⟨h1, h2⟩ := List.nodup_cons.mp h
    show (a :: (r ++ [k])).Nodup
    refine List.nodup_cons.mpr ⟨fun m => ?_, nd_snoc h2 fun m => hk (List.mem_cons.mpr (Or.inr m))⟩
    rcases List.mem_append.mp m with q | q
    · exact h1 q
    · exact hk (List.mem_cons.mpr (Or.inl (List.mem_singleton.mp q).symm))
theorem nd_putK {kvs : List (κ × V)} {k : κ} (v : V) (hn : (kvs.map (·.1)).Nodup) (h : valV kvs k = none) : ((putK kvs k v).map (·.1)).Nodup := by
  rw [putK_new v h, List.map_append]
  exact nd_snoc hn (valV_not h)
theorem dropK_pos {p : κ × V} {r : List (κ × V)} {k : κ} (e : p.1 = k) : dropK (p :: r) k = dropK r k := by
  unfold dropK
  rw [List.filter_cons, if_neg (by simp [e])]
theorem dropK_neg {p : κ × V} {r : List (κ × V)} {k : κ} (e : ¬ p.1 = k) : dropK (p :: r) k = p :: dropK r k := by
  unfold dropK
  rw [List.filter_cons, if_pos (by simp [e])]
theorem dropK_no : ∀ {kvs : List (κ × V)} {k : κ}, ¬ k ∈ kvs.map (·.1) → dropK kvs k = kvs
  | [], _, _ => rfl
  | p :: r, k, h => by
    have h' : ¬ k ∈ r.map (·.1) := fun m => by
      obtain ⟨q, hq, e⟩ := List.mem_map.mp m
      exact h (List.mem_map.mpr ⟨q, List.mem_cons.mpr (Or.inr hq), e⟩)
    rw [dropK_neg fun e => h (List.mem_map.mpr ⟨p, List.mem_cons.mpr (Or.inl rfl), e⟩), dropK_no h']
theorem dropK_mem {kvs : List (κ × V)} {k : κ} {p : κ × V} (h : p ∈ dropK kvs k) : p ∈ kvs := (List.mem_filter.mp h).1
theorem nd_dropK : ∀ {kvs : List (κ × V)} {k : κ}, (kvs.map (·.1)).Nodup → ((dropK kvs k).map (·.1)).Nodup
  | [], _, _ => List.nodup_nil
  | p :: r, k, h => by
    have h : (p.1 :: r.map (·.1)).Nodup := h
    obtain ⟨h1, h2⟩ := List.nodup_cons.mp h
    by_cases e : p.1 = k
    · rw [dropK_pos e]
      exact nd_dropK h2
    · rw [dropK_neg e]
      show (p.1 :: (dropK r k).map (·.1)).Nodup
      refine List.nodup_cons.mpr ⟨fun m => h1 ?_, nd_dropK h2⟩
      obtain ⟨q, hq, eq⟩ := List.mem_map.mp m
      exact List.mem_map.mpr ⟨q, dropK_mem hq, eq⟩
theorem dropK_len : ∀ {kvs : List (κ × V)} {k : κ}, (kvs.map (·.1)).Nodup → k ∈ kvs.map (·.1) → (dropK kvs k).length + 1 = kvs.length
  | [], _, _, m => by simp at m
  | p :: r, k, h, m => by
    have h : (p.1 :: r.map (·.1)).Nodup := h
    have m : k = p.1 ∨ k ∈ r.map (·.1) := List.mem_cons.mp m
    obtain ⟨h1, h2⟩ := List.nodup_cons.mp h
    by_cases e : p.1 = k
    · subst e
      rw [dropK_pos rfl, dropK_no h1]
      all_goals rfl
    · have m' : k ∈ r.map (·.1) := m.resolve_left fun z => e z.symm
      have q := dropK_len h2 m'
      rw [dropK_neg e, List.length_cons, List.length_cons]
      omega
end
end L2

end
section
set_option maxRecDepth 100000
set_option maxHeartbeats 4000000
/-! ## COMPREHENSIONS (own) -/
namespace L2
open PySem PySem.Spec PyProof.Rows

/-- the cells that a block closes over -/
def clOf (cells : List (Str × Addr)) : List (Str × NameKind) → List (Str × Addr) → List (Str × Addr)
  | [], acc => acc
  | (n, k) :: r, acc => clOf cells r (if k == NameKind.free then (n, (cells.lookup n).getD 0) :: acc else acc)

theorem closure_clOf {env : Env} : ∀ (names : List (Str × NameKind)) (acc : List (Str × Addr)), (∀ y ∈ names, y.2 = .free → ∃ c, env.cells.lookup y.1 = some c) →
    (forIn names acc fun (x : Str × NameKind) (cs : List (Str × Addr)) => (match x with
      | (name, kind) => if kind == .free then do let a ← cellOf env name; pure (ForInStep.yield ((name, a) :: cs)) else pure (ForInStep.yield cs) : Sem (ForInStep (List (Str × Addr))))) = pure (clOf env.cells names acc)
  | [], acc, _ => by simp [clOf]
  | (n, k) :: r, acc, h => by
    rw [List.forIn_cons]
    by_cases hk : k = NameKind.free
    · subst hk
      obtain ⟨c, hc⟩ := h (n, .free) List.mem_cons_self rfl
      have e : cellOf env n = pure c := by unfold cellOf; rw [hc]
      simp only [beq_self_eq_true, if_true, e, pure_bind, clOf, hc, Option.getD_some]
      exact closure_clOf r _ fun y hy => h y (List.mem_cons_of_mem _ hy)
    · have hb : (k == NameKind.free) = false := by simpa using hk
      simp only [hb, Bool.false_eq_true, if_false, pure_bind, clOf]
      exact closure_clOf r _ fun y hy => h y (List.mem_cons_of_mem _ hy)

theorem closureFor_clOf {env : Env} {scope : Scope} (h : ∀ y ∈ scope.names, y.2 = .free → ∃ c, env.cells.lookup y.1 = some c) : closureFor scope env = pure (clOf env.cells scope.names []) := by
  unfold closureFor
  have := closure_clOf (env := env) scope.names [] h
  simp only [bind_pure]
  exact this

theorem clOf_lookup {cells : List (Str × Addr)} : ∀ (names : List (Str × NameKind)) (acc : List (Str × Addr)) {x : Str} {c : Addr}, (clOf cells names acc).lookup x = some c →
    acc.lookup x = some c ∨ ((x, NameKind.free) ∈ names ∧ c = (cells.lookup x).getD 0)
  | [], acc, x, c, h => .inl h
  | (n, k) :: r, acc, x, c, h => by
    rcases clOf_lookup r _ h with q | ⟨q1, q2⟩
    · by_cases hk : k = NameKind.free
      · subst hk
        simp only [beq_self_eq_true, if_true] at q
        cases hx : x == n with
        | true =>
          have e : x = n := by simpa using hx
          subst e
          rw [List.lookup_cons, hx] at q
          exact .inr ⟨List.mem_cons_self, (Option.some.inj q).symm⟩
        | false =>
          rw [List.lookup_cons, hx] at q
          exact .inl q
      · have hb : (k == NameKind.free) = false := by simpa using hk
        simp only [hb, Bool.false_eq_true, if_false] at q
        exact .inl q
    · exact .inr ⟨List.mem_cons_of_mem _ q1, q2⟩

theorem clOf_has {cells : List (Str × Addr)} : ∀ (names : List (Str × NameKind)) (acc : List (Str × Addr)) {x : Str}, ((x, NameKind.free) ∈ names ∨ ∃ c, acc.lookup x = some c) → ∃ c, (clOf cells names acc).lookup x = some c
  | [], acc, x, h => by
    rcases h with h | h
    · simp at h
    · exact h
  | (n, k) :: r, acc, x, h => by
    refine clOf_has r _ ?_
    rcases h with h | ⟨c, h⟩
    · rcases List.mem_cons.mp h with e | e
      · cases e
        exact .inr ⟨(cells.lookup n).getD 0, by simp [List.lookup_cons]⟩
      · exact .inl e
    · by_cases hk : k = NameKind.free
      · subst hk
        simp only [beq_self_eq_true, if_true]
        cases hx : x == n with
        | true => exact .inr ⟨(cells.lookup n).getD 0, by rw [List.lookup_cons, hx]⟩
        | false => exact .inr ⟨c, by rw [List.lookup_cons, hx]; exact h⟩
      · have hb : (k == NameKind.free) = false := by simpa using hk
        simp only [hb, Bool.false_eq_true, if_false]
        exact .inr ⟨c, h⟩

/-- the context of a comprehension's block: s, H at its entry (the new list laid) -/
def cxComp (X : Cx) (scope : Scope) (N' : List Str) (fp : List Addr) (s : Shared) (H : Hp) : Cx where
  prog := X.prog
  w := X.w
  K := X.K
  mg := X.mg
  base := X.base
  A := X.A
  N := N'
  s₀ := s
  H₀ := H
  env := compEnvC scope (clOf X.env.cells scope.names []) s.heap.objs.size X.env
  outer := X.stack
  stack := X.stack
  ex := fp
  fn := fun _ => false
  calm := X.calm
  pn := []
  xe := fun _ _ => False

/-- what the scope of a block must be: own names first, then those of the body's that it reads -/
structure CScope (X : Cx) (scope : Scope) (own : List Str) (kp : List Nat) (kn : List Str) : Prop where
  kind : scope.kind = .function
  nocell : ∀ y ∈ scope.names, y.2 ≠ .cell
  nd : ∀ y ∈ scope.names, y.2 = .local → scope.names.lookup y.1 = some .local
  free : ∀ y ∈ scope.names, y.2 = .free → X.env.kindOf y.1 = some .cell ∨ X.env.kindOf y.1 = some .free
  names : kn.length = kp.length
  at_ : ∀ (j i : Nat) (x : Str), kp[j]? = some i → kn[j]? = some x → X.N[i]? = some x
  isfree : ∀ x ∈ kn, scope.names.lookup x = some .free

/-- the slots at a turn's start -/
def cStart (own : List Str) (kp : List Nat) (σ : St) : St := List.replicate own.length none ++ kp.map fun i => (σ[i]?).getD none

section
variable {X : Cx} {scope : Scope} {own : List Str} {kp : List Nat} {kn : List Str}

theorem lookup_relabel {env : Env} : ∀ {names : List (Str × NameKind)} {x : Str} {k : NameKind},
    (names.map fun (n, k) => if (k == NameKind.free && env.scope.kind == .function && env.kindOf n == some .cell) then (n, NameKind.cell) else (n, k)).lookup x = some k →
    names.lookup x = some k ∨ (k = .cell ∧ names.lookup x = some .free)
  | [], _, _, h => by simp at h
  | (n, k) :: r, x, k', h => by
    have ih := @lookup_relabel env r x k'
    have h : List.lookup x ((if (k == NameKind.free && env.scope.kind == .function && env.kindOf n == some .cell) = true then (n, NameKind.cell) else (n, k)) :: _) = some k' := h
    by_cases hc : (k == NameKind.free && env.scope.kind == .function && env.kindOf n == some .cell) = true
    · rw [if_pos hc] at h
      have hkf : k = .free := by
        simp only [Bool.and_eq_true, beq_iff_eq] at hc
        exact hc.1.1
      cases hx : x == n with
      | true =>
        rw [List.lookup_cons, hx] at h
        cases h
        exact .inr ⟨rfl, by rw [List.lookup_cons, hx, hkf]⟩
      | false =>
        rw [List.lookup_cons, hx] at h
        rw [List.lookup_cons, hx]
        exact ih h
    · rw [if_neg hc] at h
      cases hx : x == n with
      | true =>
        rw [List.lookup_cons, hx] at h
        rw [List.lookup_cons, hx]
        exact .inl h
      | false =>
        rw [List.lookup_cons, hx] at h
        rw [List.lookup_cons, hx]
        exact ih h

theorem cells_have {pins : List (Addr × Obj)} {σ : St} {H : Hp} {s : Shared} (C : CScope X scope own kp kn) (I : Inv X pins σ H s) : ∀ y ∈ scope.names, y.2 = .free → ∃ c, X.env.cells.lookup y.1 = some c := fun y hy hf =>
  I.ok.has y.1 (C.free y hy hf)

/-- the block's start -/
theorem inv_comp {pins : List (Addr × Obj)} {σ : St} {H : Hp} {s : Shared} {fp : List Addr} {h₁ : Heap} {tk : Nat} (C : CScope X scope own kp kn) (I : Inv X pins σ H s) (hf : ∀ b ∈ fp, FpOk X pins H b) (hb : ∀ b ∈ fp, b < s.heap.objs.size)
    (hn : h₁.Ns s.heap.objs.size (fun _ => none)) (hk : ∀ b o, s.heap.get? b = some o → h₁.get? b = some o) : Inv (cxComp X scope (own ++ kn) fp s H) [] (cStart own kp σ) H { s with heap := h₁, toks := tk } := by
  have cl : ∀ x c, (clOf X.env.cells scope.names []).lookup x = some c → X.env.cells.lookup x = some c := fun x c e => by
    rcases clOf_lookup scope.names [] e with q | ⟨q1, q2⟩
    · simp at q
    · obtain ⟨c', hc'⟩ := cells_have C I (x, .free) q1 rfl
      have hc' : X.env.cells.lookup x = some c' := hc'
      rw [hc'] at q2
      rw [hc', q2]
      rfl
  have clh : ∀ x, scope.names.lookup x = some .free → ∃ c, (clOf X.env.cells scope.names []).lookup x = some c := fun x hx => clOf_has scope.names [] (.inl (PySem.mem_of_lookup hx))
  refine ⟨⟨I.ok.mod, C.kind, I.ok.glob, I.ok.blt, Nat.le_refl _, fun x y c h1 h2 => I.ok.inj x y c (cl x c h1) (cl y c h2), fun x hx => ?_, fun x c h => (by cases h), I.ok.hd, I.ok.frames, .inl rfl, fun b hb' => ⟨Nat.ne_of_lt (hb b hb'), fun x c e z => (hf b hb').2.2.2.2.1 x c (cl x c e) z⟩,
      fun b o e => I.bs b o e, Nat.le_trans I.ok.bsz I.sz, fun b o e hb' => ?_, fun b hb' hs => ?_, I.stack, I.stkFree⟩,
    rfl, I.bare, Un.kept hk, ⟨_, hn, fun i x v h1 h2 h3 => ?_⟩, fun x c e => ?_, I.hok.fresh (Nat.le_refl _), fun x c e => I.freeC x c (cl x c e), fun p hp => (by cases hp), I.hok.kept hk, ?_⟩
  · have hx : (relabel scope X.env).names.lookup x = some .cell ∨ (relabel scope X.env).names.lookup x = some .free := hx
    rcases hx with hx | hx
    · rcases lookup_relabel hx with q | ⟨_, q⟩
      · exact absurd rfl (C.nocell _ (PySem.mem_of_lookup q))
      · exact clh x q
    · rcases lookup_relabel hx with q | ⟨q, _⟩
      · exact clh x q
      · cases q
  · rcases (hf b hb').2.2.2.1 with z | z
    · exact I.ok.noex b o e z
    · exact absurd (Nat.lt_of_lt_of_le (Heap.lt_size (I.ok.bs b o e).1) z) (Nat.lt_irrefl _)
  · rcases List.mem_cons.mp (I.stkSub b hs) with z | z
    · exact (hf b hb').2.1 z
    · exact (hf b hb').2.2.1 z
  · -- a kept name
    have h1 : (own ++ kn)[i]? = some x := h1
    have h2 : (cStart own kp σ)[i]? = some (some v) := h2
    unfold cStart at h2
    by_cases hi : i < own.length
    · rw [List.getElem?_append_left (by simpa using hi), List.getElem?_replicate] at h2
      split at h2 <;> cases h2
    · rw [List.getElem?_append_right (by simpa using hi), List.length_replicate, List.getElem?_map] at h2
      rw [List.getElem?_append_right (by simpa using hi)] at h1
      cases e : kp[i - own.length]? with
      | none => rw [e] at h2; cases h2
      | some j =>
        rw [e] at h2
        have h2 : (σ[j]?).getD none = some v := Option.some.inj h2
        have hj : X.N[j]? = some x := C.at_ _ j x e h1
        have hσ : σ[j]? = some (some v) := by
          cases q : σ[j]? with
          | none => rw [q] at h2; cases h2
          | some y => rw [q] at h2; exact congrArg some h2
        have hfree : scope.names.lookup x = some .free := C.isfree x (List.mem_of_getElem? h1)
        have hkind := C.free (x, .free) (PySem.mem_of_lookup hfree) rfl
        obtain ⟨m, hm, hl⟩ := I.loc
        obtain ⟨u, r, l⟩ := hl j x v hj hσ (hkind.elim (fun q => Or.inr (Or.inl q)) fun q => Or.inr (Or.inr q))
        refine ⟨u, r, .inr ⟨?_, ?_⟩⟩
        · have h3 : (relabel scope X.env).names.lookup x = some .local ∨ (relabel scope X.env).names.lookup x = some .cell ∨ (relabel scope X.env).names.lookup x = some .free := h3
          rcases h3 with q | q | q
          · rcases lookup_relabel q with z | ⟨z, _⟩
            · rw [hfree] at z; cases z
            · cases z
          · exact .inl q
          · exact .inr q
        · rcases l with ⟨k, _⟩ | ⟨_, c, hc, hcell⟩
          · rcases hkind with q | q
            · rw [show X.env.kindOf x = some .cell from q] at k; cases k
            · rw [show X.env.kindOf x = some .free from q] at k; cases k
          · obtain ⟨c', hc'⟩ := clh x hfree
            have := cl x c' hc'
            rw [hc] at this
            cases this
            obtain ⟨o, ho, hd⟩ := hcell
            exact ⟨c, hc', o, hk c o ho, hd⟩
  · obtain ⟨v, o, ho, hd⟩ := I.cell x c (cl x c e)
    exact ⟨v, o, hk c o ho, hd⟩
  · show (cStart own kp σ).length = (own ++ kn).length
    unfold cStart
    rw [List.length_append, List.length_replicate, List.length_map, List.length_append, C.names]

/-- behind the block: back in the body -/
theorem inv_back {pins : List (Addr × Obj)} {σ σ' : St} {H H' : Hp} {s s' : Shared} {fp : List Addr} {N' : List Str} (I : Inv X pins σ H s) (hf : ∀ b ∈ fp, FpOk X pins H b) (J : Inv (cxComp X scope N' fp s H) [] σ' H' s') : Inv X pins σ H' s' :=
  I.call' (ch := fp) J.os J.base J.hok J.bare fun b hb => ⟨(hf b hb).2.2.2.1, (hf b hb).2.1, (hf b hb).2.2.2.2.1, (hf b hb).2.2.2.2.2⟩
end

/-- tests of a comprehension's clause -/
def PIfs (X : Cx) (ifs : List Expr) (t : TT) : Prop :=
  ∀ (pins : List (Addr × Obj)) (s : Shared) (σ : St) (H : Hp) (Q : Bool → Hp → Prop), Inv X pins σ H s → t σ H Q →
    wpAny (model X.prog X.w) X.A (forIn ifs true fun c r => if r = true then do let ok ← isTrue c X.env (eval c X.env); pure (ForInStep.yield ok) else pure (ForInStep.yield r)) (TP X pins σ Q) X.xe s
def tYes : TT := fun _ H Q => Q true H
theorem pifs_nil {X : Cx} : PIfs X [] tYes := fun _ _ _ H _ I h => wpAny_tests_nil ⟨H, I, h⟩
theorem pifs_one {X : Cx} {c : Expr} {t : TT} (h : PT X c t) : PIfs X [c] t := fun pins s σ H Q I hq => wpAny_tests_one (h pins s σ H Q I hq)

/-- a list comprehension's reading: D the new list; W the invariant by the turn, a measure, the items so far -/
def tComp (wi : TI) (g : TG) (tc : TT) (te : TE) (own : List Str) (kp : List Nat) : TE := fun σ H Q => wi σ H fun J H1 => ∀ D, H1 D = none →
  ∃ W : Nat → Nat → List V → Hp → Prop, (∃ m, W 0 m [] (upd H1 D (.lst []))) ∧ ∀ i m ys H, W i m ys H →
    (J.stop i H ∧ Q (.ref D) H) ∨ (J.go i H ∧ ∀ x H', J.yld i H x H' → g x (cStart own kp σ) H' fun σ2 H2 => tc σ2 H2 fun c H3 =>
      if c = true then te σ2 H3 fun y H4 => H4 D = some (.lst ys) ∧ ys.length < sizeLine ∧ ∃ m', m' < m ∧ W (i + 1) m' (ys ++ [y]) (upd H4 D (.lst (ys ++ [y])))
      else ∃ m', m' < m ∧ W (i + 1) m' ys H3)

section
variable {X : Cx} {scope : Scope} {own : List Str} {kp : List Nat} {kn : List Str} {tg iter elt : Expr} {ifs : List Expr} {wi : TI} {g : TG} {tc : TT} {te : TE} {pos : Pos}

/-- the loop of the block -/
theorem comp_run {pins : List (Addr × Obj)} {σ : St} {H : Hp} {s : Shared} {fp : List Addr} {it D : Addr} {tn : Nat → Heap → Prop} {J : It} {Q : VK} {h₁ : Heap} {tk : Nat} {R : Result → Shared → Prop}
    (hc : X.calm = true) (C : CScope X scope own kp kn) (I : Inv X pins σ H s) (hf : ∀ b ∈ fp, FpOk X pins H b) (hb : ∀ b ∈ fp, b < s.heap.objs.size) (T : Turn X.prog X.w X.K tg J fp it tn)
    (hg : PG (cxComp X scope (own ++ kn) fp s H) tg g) (hi : PIfs (cxComp X scope (own ++ kn) fp s H) ifs tc) (he : PE (cxComp X scope (own ++ kn) fp s H) elt te)
    (hn : h₁.Ns s.heap.objs.size (fun _ => none)) (hk : ∀ b o, s.heap.get? b = some o → h₁.get? b = some o) (st : tn 0 s.heap)
    (W : Nat → Nat → List V → Hp → Prop) (w0 : ∃ m, W 0 m [] H)
    (turn : ∀ i m ys H, W i m ys H →
      (J.stop i H ∧ Q (.ref D) H) ∨ (J.go i H ∧ ∀ x H', J.yld i H x H' → g x (cStart own kp σ) H' fun σ2 H2 => tc σ2 H2 fun c H3 =>
        if c = true then te σ2 H3 fun y H4 => H4 D = some (.lst ys) ∧ ys.length < sizeLine ∧ ∃ m', m' < m ∧ W (i + 1) m' (ys ++ [y]) (upd H4 D (.lst (ys ++ [y])))
        else ∃ m', m' < m ∧ W (i + 1) m' ys H3))
    (hR : ∀ H' s' σ', Inv (cxComp X scope (own ++ kn) fp s H) [] σ' H' s' → Q (.ref D) H' → R (.ok .next) s') :
    codeAny (model X.prog X.w) X.A (.compStart (.ListComp elt [⟨tg, iter, ifs, 0⟩] scope pos) 0 (.ref it) (.ref D) (cxComp X scope (own ++ kn) fp s H).env) R { s with heap := h₁, toks := tk } := by
  have I1 : Inv (cxComp X scope (own ++ kn) fp s H) [] (cStart own kp σ) H { s with heap := h₁, toks := tk } := inv_comp C I hf hb hn hk
  have st1 : tn 0 h₁ := T.keep _ _ _ st fun b _ o e => hk b o e
  have fp1 : ∀ {H' : Hp} {p : List (Addr × Obj)}, (∀ b ∈ fp, H' b = none) → (∀ b ∈ fp, ∀ q ∈ p, q.1 ≠ b) → ∀ b ∈ fp, FpOk (cxComp X scope (own ++ kn) fp s H) p H' b := fun {H' p} hn hp b hb' =>
    ⟨hn b hb', (I1.ok.exf b hb').1, I1.ok.exfs b hb', .inl hb', fun x c e => (I1.ok.exf b hb').2 x c e, fun q hq => hp b hb' q hq⟩
  obtain ⟨m0, w0⟩ := w0
  have loop : codeAny (model X.prog X.w) X.A (.compLoop (.ListComp elt [⟨tg, iter, ifs, 0⟩] scope pos) 0 (.ref it) (.ref D) (cxComp X scope (own ++ kn) fp s H).env) R { s with heap := h₁, toks := tk } := by
    refine codeAny_loop rfl (fun n s' => ∃ i ys H', Inv (cxComp X scope (own ++ kn) fp s H) [] (cStart own kp σ) H' s' ∧ tn i s'.heap ∧ (∀ b ∈ fp, H' b = none) ∧ W i n ys H') (fun n s' hI => ?_) m0 ⟨0, [], H, I1, st1, fun b hb' => (hf b hb').1, w0⟩
    obtain ⟨i, ys, H3, I3, st3, fr3, w3⟩ := hI
    show wpAny _ _ ((compTurn (.ListComp elt [⟨tg, iter, ifs, 0⟩] scope pos) 0 (.ref it) (.ref D) (cxComp X scope (own ++ kn) fp s H).env).onRaise (fun x => do noteFrame x (cxComp X scope (own ++ kn) fp s H).env; theTreesLotGoes x)) _ _ s'
    refine wpAny_noted (wpAny_noRaise ?_)
    rw [compTurn_list]
    refine wpAny_bind (wpAny_standAt (wpAny_bind ?_))
    rcases turn i n ys H3 w3 with ⟨stop, q⟩ | ⟨go, step⟩
    · refine thn (T.done (cxComp X scope (own ++ kn) fp s H) rfl rfl rfl hc i [] s' _ H3 _ I3 (fp1 fr3 (fun _ _ q hq => by cases hq)) st3 stop) fun r s4 ⟨hr, I4⟩ => ?_
      subst hr
      exact wpAny_pure (hR H3 s4 _ I4 q)
    · refine thn (T.item (cxComp X scope (own ++ kn) fp s H) rfl rfl rfl hc i [] s' _ H3 _ I3 (fp1 fr3 (fun _ _ q hq => by cases hq)) st3 go) fun r s4 ⟨u, hr, h4⟩ => ?_
      subst hr
      refine wpAny_bind (thn h4 fun _ s5 ⟨x, H5, I5, r5, y5, st5, fr5⟩ => ?_)
      have I5' := I5.pinned (fp1 fr5 (fun _ _ q hq => by cases hq)) (T.obj _ _ st5)
      have keepIt : ∀ {σ7 : St} {H7 : Hp} {s7 : Shared}, Inv (cxComp X scope (own ++ kn) fp s H) ([] ++ pinsAt fp s5.heap) σ7 H7 s7 → tn (i + 1) s7.heap ∧ ∀ b ∈ fp, H7 b = none := fun {σ7 H7 s7} I7 => by
        refine ⟨T.keep _ _ _ st5 fun b hb o e => (I7.pin (b, o) (List.mem_append_right _ (List.mem_append_right _ (mem_pinsAt hb e)))).1, fun b hb => ?_⟩
        obtain ⟨o, e, d⟩ := T.obj _ _ st5 b hb
        exact (I7.pin (b, o) (List.mem_append_right _ (List.mem_append_right _ (mem_pinsAt hb e)))).2.1
      -- back to the turn's start
      have reset : ∀ {σ7 : St} {H7 : Hp} {s7 : Shared}, Inv (cxComp X scope (own ++ kn) fp s H) ([] ++ pinsAt fp s5.heap) σ7 H7 s7 → Inv (cxComp X scope (own ++ kn) fp s H) [] (cStart own kp σ) H7 s7 := fun {σ7 H7 s7} I7 => by
        have I8 := I7.unpinned
        have hun : Un (frs X.stack) fp H H7 s.heap s7.heap := I8.base
        have I9 : Inv X pins σ H7 s7 := inv_back I hf I8
        refine ⟨I8.ok, I8.os, I8.bare, I8.base, ?_, I8.cell, I8.free, I8.freeC, I8.pin, I8.hok, I1.len⟩
        obtain ⟨m, hm, _⟩ := I8.loc
        refine ⟨m, hm, fun i x v h1 h2 h3 => ?_⟩
        obtain ⟨m1, hm1, hl1⟩ := I1.loc
        obtain ⟨u1, r1, l1⟩ := hl1 i x v h1 h2 h3
        have h1 : (own ++ kn)[i]? = some x := h1
        have h2 : (cStart own kp σ)[i]? = some (some v) := h2
        unfold cStart at h2
        by_cases hi : i < own.length
        · rw [List.getElem?_append_left (by simpa using hi), List.getElem?_replicate] at h2
          split at h2 <;> cases h2
        · rw [List.getElem?_append_right (by simpa using hi), List.length_replicate, List.getElem?_map] at h2
          rw [List.getElem?_append_right (by simpa using hi)] at h1
          cases e : kp[i - own.length]? with
          | none => rw [e] at h2; cases h2
          | some j =>
            rw [e] at h2
            have h2 : (σ[j]?).getD none = some v := Option.some.inj h2
            have hj : X.N[j]? = some x := C.at_ _ j x e h1
            have hσ : σ[j]? = some (some v) := by
              cases q : σ[j]? with
              | none => rw [q] at h2; cases h2
              | some y => rw [q] at h2; exact congrArg some h2
            have hfree : scope.names.lookup x = some .free := C.isfree x (List.mem_of_getElem? h1)
            have hkind := C.free (x, .free) (PySem.mem_of_lookup hfree) rfl
            obtain ⟨m9, hm9, hl9⟩ := I9.loc
            obtain ⟨u, r, l⟩ := hl9 j x v hj hσ (hkind.elim (fun q => Or.inr (Or.inl q)) fun q => Or.inr (Or.inr q))
            refine ⟨u, r, .inr ?_⟩
            rcases l1 with ⟨k, k2⟩ | ⟨k, c, hc, hcell⟩
            · have k : (relabel scope X.env).names.lookup x = some .local := k
              rcases lookup_relabel k with z | ⟨z, _⟩
              · rw [hfree] at z; cases z
              · cases z
            · refine ⟨k, c, hc, ?_⟩
              rcases l with ⟨k', _⟩ | ⟨_, c', hc', hcell'⟩
              · rcases hkind with q | q
                · rw [show X.env.kindOf x = some .cell from q] at k'; cases k'
                · rw [show X.env.kindOf x = some .free from q] at k'; cases k'
              · have hcl : (clOf X.env.cells scope.names []).lookup x = some c := hc
                rcases clOf_lookup scope.names [] hcl with q | ⟨q1, q2⟩
                · simp at q
                · rw [hc'] at q2
                  have q2 : c = c' := q2
                  rw [q2]
                  exact hcell'
      have hmm := hg ([] ++ pinsAt fp s5.heap) s5 (cStart own kp σ) H5 x u _ I5' r5 (step x H5 y5)
      refine wpAny_bind (thn hmm fun _ s6 ⟨σ6, H6, I6, q6⟩ => ?_)
      refine wpAny_bind (thn (hi _ s6 σ6 H6 _ I6 q6) fun ok s7 ⟨H7, I7, q7⟩ => ?_)
      cases ok with
      | false =>
        simp only [Bool.false_eq_true, if_false] at q7 ⊢
        obtain ⟨m', hm', w7⟩ := q7
        obtain ⟨a1, a2⟩ := keepIt I7
        exact wpAny_pure ⟨rfl, m', hm', i + 1, ys, H7, reset I7, a1, a2, w7⟩
      | true =>
        simp only [if_true] at q7 ⊢
        refine wpAny_bind (wpAny_bind (thn (he _ s7 σ6 H7 _ I7 q7) fun yv s8 ⟨y, H8, I8, r8, hD, hlt, m', hm', w8⟩ => wpAny_bind ?_))
        obtain ⟨a1, a2⟩ := keepIt I8
        refine thn (mt_append _ s8 σ6 H8 (.ref D) [y] (.ref D) [yv] (fun v H9 => v = .non ∧ H9 = upd H8 D (.lst (ys ++ [y]))) I8 rfl (.cons r8 .nil) ⟨D, ys, y, rfl, rfl, hD, hlt, rfl, rfl⟩) fun _ s9 ⟨v9, H9, I9, _, _, e9⟩ => ?_
        subst e9
        obtain ⟨b1, b2⟩ := keepIt I9
        exact wpAny_pure (wpAny_pure ⟨rfl, m', hm', i + 1, ys ++ [y], _, reset I9, b1, b2, w8⟩)
  exact codeAny_compStart_list loop (T.self _ _ _ _ _ st1 loop)

/-- [elt for tg in iter if ..] as a value -/
theorem pe_comp (hc : X.calm = true) (C : CScope X scope own kp kn) (hi : PI X tg iter wi) (hg : ∀ fp s H, PG (cxComp X scope (own ++ kn) fp s H) tg g) (hif : ∀ fp s H, PIfs (cxComp X scope (own ++ kn) fp s H) ifs tc)
    (he : ∀ fp s H, PE (cxComp X scope (own ++ kn) fp s H) elt te) (hs : ∀ x, foldedSetIterable iter X.env x = pure x := by intro _; rfl) : PE X (.ListComp elt [⟨tg, iter, ifs, 0⟩] scope pos) (tComp wi g tc te own kp) := by
  intro pins s σ H Q I h
  rw [eval_ListComp]
  refine wpAny_comprehension_free (use := none) rfl hs (closureFor_clOf (cells_have C I)) C.kind C.nd (thn (hi pins s σ H _ I h) fun v s1 h1 => thn h1 fun itv s2 h2 => ?_)
  obtain ⟨it, fp, tn, J, H2, e, I2, T, st2, f2, q⟩ := h2
  subst e
  refine wpAny_newObj_type ?_
  have I3 : Inv X pins σ (upd H2 s2.heap.objs.size (.lst [])) { s2 with heap := s2.heap.push { cls := .type "list", dict := none, data := .seq ([] : List Value).toArray } } := I2.lnew (its := []) (t' := s2.toks) .nil (Nat.zero_le _)
  obtain ⟨W, w0, turn⟩ := q s2.heap.objs.size I2.fresh
  have fne : ∀ b ∈ fp, b < s2.heap.objs.size := fun b hb => let ⟨o, e, _⟩ := T.obj _ _ st2 b hb; Heap.lt_size e
  have f3 : ∀ b ∈ fp, FpOk X pins (upd H2 s2.heap.objs.size (.lst [])) b := fun b hb => ⟨by rw [upd_ne (Nat.ne_of_lt (fne b hb))]; exact (f2 b hb).1, (f2 b hb).2⟩
  generalize hs3 : ({ s2 with heap := s2.heap.push { cls := .type "list", dict := none, data := .seq ([] : List Value).toArray } } : Shared) = s3 at I3 ⊢
  have st3 : tn 0 s3.heap := by rw [← hs3]; exact T.keep _ _ _ st2 fun b _ o e => Heap.get?_push_of_some _ e
  have fne3 : ∀ b ∈ fp, b < s3.heap.objs.size := fun b hb => by rw [← hs3]; exact Nat.lt_of_lt_of_le (fne b hb) (by rw [Heap.size_push]; exact Nat.le_succ _)
  refine wpAny_newFunctionEnv (fun y hy => C.nocell y hy) (by intro y hy; simp at hy) (fun h₁ hns₁ hsb₁ => ?_) C.kind
  have hk : ∀ b o, s3.heap.get? b = some o → h₁.get? b = some o := fun b o e => hsb₁.extBut b o (Nat.ne_of_lt (Heap.lt_size e)) (Heap.get?_push_of_some _ e)
  refine comp_run (D := s2.heap.objs.size) hc C I3 f3 fne3 T (hg fp s3 _) (hif fp s3 _) (he fp s3 _) hns₁ hk st3 W w0 turn fun H' s' σ' J' hq => ?_
  have B := inv_back I3 f3 J'
  obtain ⟨m', hm', _⟩ := J'.loc
  refine ⟨m', hm', fun h' sb => ⟨.ref s2.heap.objs.size, H', ?_, rfl, hq⟩⟩
  have fC := I3.fpOk (H' := H') (b := s3.heap.objs.size) (Nat.le_refl _) J'.free
  exact B.turned (it := s3.heap.objs.size) (t' := s'.toks) (fun b o hb e => (sb.2 b hb).trans e) fC.1 fC.2.1 fC.2.2.2.1 fC.2.2.2.2.1 fC.2.2.2.2.2

/-- name = [elt for tg in iter if ..], the name a plain local of the body -/
theorem ps_setComp {i : Nat} {x : Str} {pos' spos : Pos} (hc : X.calm = true) (hN : X.N.Nodup) (hx : X.N[i]? = some x) (hxl : X.env.scope.names.lookup x = some .local) (C : CScope X scope own kp kn) (hi : PI X tg iter wi)
    (hg : ∀ fp s H, PG (cxComp X scope (own ++ kn) fp s H) tg g) (hif : ∀ fp s H, PIfs (cxComp X scope (own ++ kn) fp s H) ifs tc)
    (he : ∀ fp s H, PE (cxComp X scope (own ++ kn) fp s H) elt te)
    (hsw : swapsWith (.ListComp elt [⟨tg, iter, ifs, 0⟩] scope pos) (some (.Name x pos')) spos.line X.env = pure true := by rfl)
    (hs : ∀ x, foldedSetIterable iter X.env x = pure x := by intro _; rfl) :
    PS X (.Assign [.Name x pos'] (.ListComp elt [⟨tg, iter, ifs, 0⟩] scope pos) spos) (tAsg (tComp wi g tc te own kp) (gName i)) := by
  intro pins s σ H D I h
  rw [exec_Assign_Name_used _ _ _ _ hsw]
  refine wpAny_bind (wpAny_standAt (wpAny_bind ?_))
  show wpAny _ X.A (do let _ ← comprehension (.ListComp elt [⟨tg, iter, ifs, 0⟩] scope pos) scope X.env _ (newList []) false (eval iter X.env) (some (assign (.Name x pos') X.env))) _ _ s
  refine wpAny_bind (wpAny_mono (wpAny_comprehension_free (use := some (assign (.Name x pos') X.env)) (Q := fun _ s' => SP X pins D .next s') rfl hs (closureFor_clOf (cells_have C I)) C.kind C.nd
    (thn (hi pins s σ H _ I h) fun v s1 h1 => thn h1 fun itv s2 h2 => ?_)) (fun _ s' hq => wpAny_pure (wpAny_pure hq)) fun _ _ e => e)
  obtain ⟨it, fp, tn, J, H2, e, I2, T, st2, f2, q⟩ := h2
  subst e
  refine wpAny_newObj_type ?_
  have I3 : Inv X pins σ (upd H2 s2.heap.objs.size (.lst [])) { s2 with heap := s2.heap.push { cls := .type "list", dict := none, data := .seq ([] : List Value).toArray } } := I2.lnew (its := []) (t' := s2.toks) .nil (Nat.zero_le _)
  obtain ⟨W, w0, turn⟩ := q s2.heap.objs.size I2.fresh
  have fne : ∀ b ∈ fp, b < s2.heap.objs.size := fun b hb => let ⟨o, e, _⟩ := T.obj _ _ st2 b hb; Heap.lt_size e
  have f3 : ∀ b ∈ fp, FpOk X pins (upd H2 s2.heap.objs.size (.lst [])) b := fun b hb => ⟨by rw [upd_ne (Nat.ne_of_lt (fne b hb))]; exact (f2 b hb).1, (f2 b hb).2⟩
  generalize hs3 : ({ s2 with heap := s2.heap.push { cls := .type "list", dict := none, data := .seq ([] : List Value).toArray } } : Shared) = s3 at I3 ⊢
  have st3 : tn 0 s3.heap := by rw [← hs3]; exact T.keep _ _ _ st2 fun b _ o e => Heap.get?_push_of_some _ e
  have fne3 : ∀ b ∈ fp, b < s3.heap.objs.size := fun b hb => by rw [← hs3]; exact Nat.lt_of_lt_of_le (fne b hb) (by rw [Heap.size_push]; exact Nat.le_succ _)
  refine wpAny_newFunctionEnv (fun y hy => C.nocell y hy) (by intro y hy; simp at hy) (fun h₁ hns₁ hsb₁ => ?_) C.kind
  have hk : ∀ b o, s3.heap.get? b = some o → h₁.get? b = some o := fun b o e => hsb₁.extBut b o (Nat.ne_of_lt (Heap.lt_size e)) (Heap.get?_push_of_some _ e)
  refine comp_run (Q := fun x H1 => gName i x σ H1 D.nx) (D := s2.heap.objs.size) hc C I3 f3 fne3 T (hg fp s3 _) (hif fp s3 _) (he fp s3 _) hns₁ hk st3 W w0 turn fun H' s' σ' J' hq => ?_
  have B := inv_back I3 f3 J'
  obtain ⟨m', hm', _⟩ := J'.loc
  have fC := I3.fpOk (H' := H') (b := s3.heap.objs.size) (Nat.le_refl _) J'.free
  show wpAny _ X.A (assign (.Name x pos') X.env (.ref s2.heap.objs.size)) _ _ s'
  refine wpAny_assign_Name (store_ok2 B hN hx (.inl hxl) (v := .ref s2.heap.objs.size) rfl (fun s4 I4 ⟨a, sb, ha⟩ => ?_) (.inr hxl))
  have ha' : s3.heap.objs.size ≠ a := by
    rcases ha with rfl | z
    · exact fC.2.1
    · exact fun e => fC.2.2.2.2.1 x a z e.symm
  refine ⟨m', hm'.sameBut sb ha', fun h' sb' => ⟨_, H', ?_, hq⟩⟩
  exact I4.turned (it := s3.heap.objs.size) (t' := s4.toks) (fun b o hb e => (sb'.2 b hb).trans e) fC.1 fC.2.1 fC.2.2.2.1 fC.2.2.2.2.1 fC.2.2.2.2.2
end
end L2

end
section
set_option maxRecDepth 100000
set_option maxHeartbeats 4000000
/-! ## THE DATUM LAYER (own): values without addresses; what a pure expression, a statement, a def is worth -/
namespace L2
open PySem PySem.Spec PyProof.Rows

inductive D where
  | non | bl (b : Bool) | int (i : Int) | str (x : Str) | lst (ds : List D) | tup (ds : List D) | dct (ks : List Key) (ds : List D)

/-- a result: a value, an exception, or nothing known -/
inductive R (α : Type) where
  | ok (a : α) | ex (c : Nat) | no
def R.bind {α β : Type} : R α → (α → R β) → R β
  | .ok a, f => f a
  | .ex c, _ => .ex c
  | .no, _ => .no
theorem R.bind_ok {α β : Type} {r : R α} {f : α → R β} {b : β} (h : r.bind f = .ok b) : ∃ a, r = .ok a ∧ f a = .ok b := by
  cases r with
  | ok a => exact ⟨a, rfl, h⟩
  | ex c => cases h
  | no => cases h
@[simp] theorem R.ok_bind {α β : Type} (a : α) (f : α → R β) : (R.ok a).bind f = f a := rfl
def R.when {α : Type} (c : Bool) (r : R α) : R α := if c then r else .no
theorem R.when_ok {α : Type} {c : Bool} {r : R α} {a : α} (h : R.when c r = .ok a) : c = true ∧ r = .ok a := by
  cases c with
  | true => exact ⟨rfl, h⟩
  | false => cases h
@[simp] theorem R.when_true {α : Type} (r : R α) : R.when true r = r := rfl

/-- a list that doesn't change any more; a tuple -/
def LsF (K : PySem.W.Frag) (B : List Addr) (H : Hp) (a : Addr) (xs : List V) : Prop :=
  (a ∉ B ∧ Rd H a (.lst xs)) ∨ ∃ (its : List Value) (n : Nat), K.lookup a = some { cls := .type "list", data := .seq its.toArray n } ∧ xs.length ≤ sizeLine ∧ Vals xs its
def TpF (K : PySem.W.Frag) (B : List Addr) (H : Hp) (a : Addr) (xs : List V) : Prop :=
  (a ∉ B ∧ Rd H a (.tup xs)) ∨ ∃ (o : Obj) (its : Array Value) (n : Nat), K.lookup a = some o ∧ o.cls = .type "tuple" ∧ o.data = .seq its n ∧ its.size ≤ sizeLine ∧ Vals xs its.toList
theorem LsF.sq {K : PySem.W.Frag} {B : List Addr} {H : Hp} {a : Addr} {xs : List V} (h : LsF K B H a xs) : SqL K H a xs := by
  rcases h with z | ⟨its, n, hk, hz, r⟩
  · exact .inl z.2
  · exact .inr ⟨_, its.toArray, n, hk, rfl, rfl, rfl, by rw [List.size_toArray, ← r.length]; exact hz, by simpa using r⟩
theorem TpF.sq {K : PySem.W.Frag} {B : List Addr} {H : Hp} {a : Addr} {xs : List V} (h : TpF K B H a xs) : SqT K H a xs := h.elim (fun z => .inl z.2) .inr

mutual
/-- the value shows the datum; B: the lists that may still change -/
def Rep (K : PySem.W.Frag) (B : List Addr) (H : Hp) : D → V → Prop
  | .non, v => v = .non
  | .bl b, v => v = .bl b
  | .int i, v => v = .int i
  | .str x, v => v = .str x
  | .lst ds, v => ∃ a xs, v = .ref a ∧ LsF K B H a xs ∧ Reps K B H ds xs
  | .tup ds, v => ∃ a xs, v = .ref a ∧ TpF K B H a xs ∧ Reps K B H ds xs
  | .dct ks ds, v => ∃ (a : Addr) (kvs : List (Key × V)), v = .ref a ∧ (a ∉ B ∧ H a = some (.dK kvs)) ∧ kvs.map (·.1) = ks ∧ Reps K B H ds (kvs.map (·.2))
def Reps (K : PySem.W.Frag) (B : List Addr) (H : Hp) : List D → List V → Prop
  | [], xs => xs = []
  | d :: ds, xs => ∃ x r, xs = x :: r ∧ Rep K B H d x ∧ Reps K B H ds r
end

/-- what stands still from (B, H) to (B', H') -/
def Pres (B : List Addr) (H : Hp) (B' : List Addr) (H' : Hp) : Prop := ∀ b o, H b = some o → b ∉ B → H' b = some o ∧ b ∉ B'
theorem Pres.rd {B B' : List Addr} {H H' : Hp} (p : Pres B H B' H') {a : Addr} {u : HO} (h : Rd H a u) (n : a ∉ B) : Rd H' a u ∧ a ∉ B' := by
  rcases h with e | ⟨o, e⟩
  · exact ⟨.inl (p a _ e n).1, (p a _ e n).2⟩
  · exact ⟨.inr ⟨o, (p a _ e n).1⟩, (p a _ e n).2⟩
theorem Pres.trans {B B' B'' : List Addr} {H H' H'' : Hp} (p : Pres B H B' H') (q : Pres B' H' B'' H'') : Pres B H B'' H'' := fun b o e n =>
  let ⟨e1, n1⟩ := p b o e n; q b o e1 n1
theorem Pres.same {B : List Addr} {H H' : Hp} (s : Same H H') : Pres B H B H' := fun b o e n => ⟨s b o e, n⟩
theorem Pres.refl (B : List Addr) (H : Hp) : Pres B H B H := Pres.same (Same.refl H)

theorem LsF.pres {K : PySem.W.Frag} {B B' : List Addr} {H H' : Hp} (p : Pres B H B' H') {a : Addr} {xs : List V} (l : LsF K B H a xs) : LsF K B' H' a xs :=
  l.elim (fun z => .inl ⟨(p.rd z.2 z.1).2, (p.rd z.2 z.1).1⟩) .inr
mutual
theorem Rep.pres {K : PySem.W.Frag} {B B' : List Addr} {H H' : Hp} (p : Pres B H B' H') : ∀ {d : D} {v : V}, Rep K B H d v → Rep K B' H' d v
  | .non, _, h => h
  | .bl _, _, h => h
  | .int _, _, h => h
  | .str _, _, h => h
  | .lst ds, v, h => by
    unfold Rep at h ⊢
    obtain ⟨a, xs, e, l, r⟩ := h
    exact ⟨a, xs, e, l.pres p, Reps.pres p r⟩
  | .tup ds, v, h => by
    unfold Rep at h ⊢
    obtain ⟨a, xs, e, l, r⟩ := h
    exact ⟨a, xs, e, l.elim (fun z => .inl ⟨(p.rd z.2 z.1).2, (p.rd z.2 z.1).1⟩) .inr, Reps.pres p r⟩
  | .dct ks ds, v, h => by
    unfold Rep at h ⊢
    obtain ⟨a, kvs, e, ⟨n, l⟩, k, r⟩ := h
    exact ⟨a, kvs, e, ⟨(p a _ l n).2, (p a _ l n).1⟩, k, Reps.pres p r⟩
theorem Reps.pres {K : PySem.W.Frag} {B B' : List Addr} {H H' : Hp} (p : Pres B H B' H') : ∀ {ds : List D} {xs : List V}, Reps K B H ds xs → Reps K B' H' ds xs
  | [], _, h => h
  | d :: ds, xs, h => by
    unfold Reps at h ⊢
    obtain ⟨x, r, e, h1, h2⟩ := h
    exact ⟨x, r, e, Rep.pres p h1, Reps.pres p h2⟩
end
theorem Rep.same {K : PySem.W.Frag} {B : List Addr} {H H' : Hp} {d : D} {v : V} (h : Rep K B H d v) (s : Same H H') : Rep K B H' d v := h.pres (Pres.same s)
theorem Reps.same {K : PySem.W.Frag} {B : List Addr} {H H' : Hp} {d : List D} {v : List V} (h : Reps K B H d v) (s : Same H H') : Reps K B H' d v := h.pres (Pres.same s)
theorem Reps.nil {K : PySem.W.Frag} {B : List Addr} {H : Hp} : Reps K B H [] [] := by unfold Reps; rfl
theorem Reps.cons {K : PySem.W.Frag} {B : List Addr} {H : Hp} {d : D} {ds : List D} {x : V} {xs : List V} (h : Rep K B H d x) (t : Reps K B H ds xs) : Reps K B H (d :: ds) (x :: xs) := by
  unfold Reps; exact ⟨x, xs, rfl, h, t⟩
theorem Reps.uncons {K : PySem.W.Frag} {B : List Addr} {H : Hp} {d : D} {ds : List D} {xs : List V} (h : Reps K B H (d :: ds) xs) : ∃ x r, xs = x :: r ∧ Rep K B H d x ∧ Reps K B H ds r := by
  unfold Reps at h; exact h
theorem Reps.length {K : PySem.W.Frag} {B : List Addr} {H : Hp} : ∀ {ds : List D} {xs : List V}, Reps K B H ds xs → ds.length = xs.length
  | [], _, h => by unfold Reps at h; rw [h]; rfl
  | d :: ds, xs, h => by
    obtain ⟨x, r, rfl, _, h2⟩ := h.uncons
    simp [h2.length]
theorem Reps.get {K : PySem.W.Frag} {B : List Addr} {H : Hp} : ∀ {ds : List D} {xs : List V} {i : Nat} {d : D}, Reps K B H ds xs → ds[i]? = some d → ∃ x, xs[i]? = some x ∧ Rep K B H d x
  | [], _, _, _, _, e => by simp at e
  | d :: ds, xs, 0, d', h, e => by
    obtain ⟨x, r, rfl, h1, h2⟩ := h.uncons
    simp at e; subst e
    exact ⟨x, rfl, h1⟩
  | d :: ds, xs, i + 1, d', h, e => by
    obtain ⟨x, r, rfl, h1, h2⟩ := h.uncons
    obtain ⟨y, e1, e2⟩ := Reps.get (i := i) h2 (by simpa using e)
    exact ⟨y, by simpa using e1, e2⟩
theorem Reps.append {K : PySem.W.Frag} {B : List Addr} {H : Hp} : ∀ {ds es : List D} {xs ys : List V}, Reps K B H ds xs → Reps K B H es ys → Reps K B H (ds ++ es) (xs ++ ys)
  | [], _, _, _, h, t => by unfold Reps at h; subst h; exact t
  | d :: ds, es, xs, ys, h, t => by
    obtain ⟨x, r, rfl, h1, h2⟩ := h.uncons
    exact Reps.cons h1 (Reps.append h2 t)
theorem Reps.drop {K : PySem.W.Frag} {B : List Addr} {H : Hp} : ∀ {ds : List D} {xs : List V} (n : Nat), Reps K B H ds xs → Reps K B H (ds.drop n) (xs.drop n)
  | _, _, 0, h => h
  | [], _, n + 1, h => by unfold Reps at h; subst h; exact Reps.nil
  | d :: ds, xs, n + 1, h => by
    obtain ⟨x, r, rfl, h1, h2⟩ := h.uncons
    exact Reps.drop n h2
theorem Reps.take {K : PySem.W.Frag} {B : List Addr} {H : Hp} : ∀ {ds : List D} {xs : List V} (n : Nat), Reps K B H ds xs → Reps K B H (ds.take n) (xs.take n)
  | _, _, 0, h => Reps.nil
  | [], _, n + 1, h => by unfold Reps at h; subst h; exact Reps.nil
  | d :: ds, xs, n + 1, h => by
    obtain ⟨x, r, rfl, h1, h2⟩ := h.uncons
    exact Reps.cons h1 (Reps.take n h2)

/-- an atom -/
def D.atom : D → Bool
  | .non => true | .bl _ => true | .int _ => true | .str _ => true | _ => false
theorem Rep.atom {K : PySem.W.Frag} {B B' : List Addr} {H H' : Hp} {d : D} {v : V} (a : d.atom = true) (h : Rep K B H d v) : Rep K B' H' d v := by
  cases d <;> first | exact h | cases a

/-- a slot: unset, a value, a list that is being built -/
inductive Sl where
  | un | val (d : D) | bld (ds : List D)
abbrev DEnv := List Sl

structure EnvR (K : PySem.W.Frag) (Z B : List Addr) (H : Hp) (σ : St) (δ : DEnv) : Prop where
  len : δ.length = σ.length
  bs : ∀ a ∈ B, ∃ o, H a = some o
  zb : ∀ a ∈ Z, a ∈ B
  val : ∀ (i : Nat) (d : D), δ[i]? = some (.val d) → ∃ v, σ[i]? = some (some v) ∧ Rep K B H d v
  bld : ∀ (i : Nat) (ds : List D), δ[i]? = some (.bld ds) → ∃ a xs, σ[i]? = some (some (.ref a)) ∧ a ∈ B ∧ a ∉ Z ∧ H a = some (.lst xs) ∧ Reps K B H ds xs
  dis : ∀ (i j : Nat) (a : Addr) (ds es : List D), δ[i]? = some (.bld ds) → δ[j]? = some (.bld es) → σ[i]? = some (some (.ref a)) → σ[j]? = some (some (.ref a)) → i = j

theorem EnvR.same {K : PySem.W.Frag} {Z B : List Addr} {H H' : Hp} {σ : St} {δ : DEnv} (E : EnvR K Z B H σ δ) (s : Same H H') : EnvR K Z B H' σ δ where
  len := E.len
  bs := fun a ha => let ⟨o, e⟩ := E.bs a ha; ⟨o, s a o e⟩
  zb := E.zb
  val := fun i d e => let ⟨v, h1, h2⟩ := E.val i d e; ⟨v, h1, h2.same s⟩
  bld := fun i ds e => let ⟨a, xs, h1, h2, h3, h4, h5⟩ := E.bld i ds e; ⟨a, xs, h1, h2, h3, s a _ h4, h5.same s⟩
  dis := E.dis

/-- all lists that are being built, seen as values -/
def thaw (δ : DEnv) : DEnv := δ.map fun x => match x with | .bld ds => .val (.lst ds) | y => y
theorem EnvR.thaw {K : PySem.W.Frag} {Z B : List Addr} {H : Hp} {σ : St} {δ : DEnv} (E : EnvR K Z B H σ δ) : EnvR K [] [] H σ (thaw δ) where
  len := by unfold L2.thaw; rw [List.length_map]; exact E.len
  bs := fun a ha => by cases ha
  zb := fun a ha => by cases ha
  val := fun i d e => by
    unfold L2.thaw at e
    rw [List.getElem?_map] at e
    have p : Pres B H [] H := fun b o e _ => ⟨e, by simp⟩
    cases q : δ[i]? with
    | none => rw [q] at e; cases e
    | some x =>
      rw [q] at e
      cases x with
      | un => cases e
      | val d' => cases e; obtain ⟨v, h1, h2⟩ := E.val i d q; exact ⟨v, h1, h2.pres p⟩
      | bld ds =>
        cases e
        obtain ⟨a, xs, h1, _, _, h4, h5⟩ := E.bld i ds q
        refine ⟨.ref a, h1, ?_⟩
        unfold Rep
        exact ⟨a, xs, rfl, .inl ⟨by simp, .inl h4⟩, h5.pres p⟩
  bld := fun i ds e => by
    unfold L2.thaw at e
    rw [List.getElem?_map] at e
    cases q : δ[i]? with
    | none => rw [q] at e; cases e
    | some x => rw [q] at e; cases x <;> cases e
  dis := fun i j a ds es e => by
    unfold L2.thaw at e
    rw [List.getElem?_map] at e
    cases q : δ[i]? with
    | none => rw [q] at e; cases e
    | some x => rw [q] at e; cases x <;> cases e

theorem PE.imp {X : Cx} {e : Expr} {t t' : TE} (h : PE X e t) (w : ∀ σ H Q, t' σ H Q → t σ H Q) : PE X e t' := fun pins s σ H Q I hq => h pins s σ H Q I (w σ H Q hq)
theorem PT.imp {X : Cx} {e : Expr} {t t' : TT} (h : PT X e t) (w : ∀ σ H Q, t' σ H Q → t σ H Q) : PT X e t' := fun pins s σ H Q I hq => h pins s σ H Q I (w σ H Q hq)
theorem PA.imp {X : Cx} {e : List Expr} {t t' : TA} (h : PA X e t) (w : ∀ σ H Q, t' σ H Q → t σ H Q) : PA X e t' := fun pos pins s σ H Q I hq => h pos pins s σ H Q I (w σ H Q hq)
theorem PS.imp {X : Cx} {e : Stmt} {t t' : TS} (h : PS X e t) (w : ∀ D σ H, t' D σ H → t D σ H) : PS X e t' := fun pins s σ H D I hq => h pins s σ H D I (w D σ H hq)
theorem PSs.imp {X : Cx} {e : List Stmt} {t t' : TS} (h : PSs X e t) (w : ∀ D σ H, t' D σ H → t D σ H) : PSs X e t' := fun pins s σ H D I hq => h pins s σ H D I (w D σ H hq)
theorem PG.imp {X : Cx} {e : Expr} {t t' : TG} (h : PG X e t) (w : ∀ v σ H Q, t' v σ H Q → t v σ H Q) : PG X e t' := fun pins s σ H v u Q I r hq => h pins s σ H v u Q I r (w v σ H Q hq)
theorem PI.imp {X : Cx} {tg e : Expr} {t t' : TI} (h : PI X tg e t) (w : ∀ σ H Q, t' σ H Q → t σ H Q) : PI X tg e t' := fun pins s σ H Q I hq => h pins s σ H Q I (w σ H Q hq)

/-! ### readings -/
abbrev FD := DEnv → R D
/-- an expression worth f -/
def tD (K : PySem.W.Frag) (f : FD) : TE := fun σ H Q => ∃ Z B δ d, EnvR K Z B H σ δ ∧ f δ = .ok d ∧ ∀ v H', Same H H' → Rep K B H' d v → Q v H'
/-- an expression worth a new list -/
def tN (K : PySem.W.Frag) (f : DEnv → R (List D)) : TE := fun σ H Q => ∃ Z B δ ds, EnvR K Z B H σ δ ∧ f δ = .ok ds ∧ ∀ a xs H', Same H H' → H a = none → H' a = some (.lst xs) → Reps K (a :: B) H' ds xs → Q (.ref a) H'
/-- a test -/
def tTD (K : PySem.W.Frag) (f : DEnv → R Bool) : TT := fun σ H Q => ∃ Z B δ b, EnvR K Z B H σ δ ∧ f δ = .ok b ∧ ∀ H', Same H H' → Q b H'
/-- arguments -/
def tAD (K : PySem.W.Frag) (f : DEnv → R (List D)) : TA := fun σ H Q => ∃ Z B δ ds, EnvR K Z B H σ δ ∧ f δ = .ok ds ∧ ∀ vs H', Same H H' → Reps K B H' ds vs → Q vs H'
abbrev PD (X : Cx) (e : Expr) (f : FD) : Prop := PE X e (tD X.K f)
abbrev PN (X : Cx) (e : Expr) (f : DEnv → R (List D)) : Prop := PE X e (tN X.K f)
abbrev PB (X : Cx) (e : Expr) (f : DEnv → R Bool) : Prop := PT X e (tTD X.K f)
abbrev PAs (X : Cx) (es : List Expr) (f : DEnv → R (List D)) : Prop := PA X es (tAD X.K f)

section
variable {X : Cx}
theorem tD.intro {K : PySem.W.Frag} {f : FD} {σ : St} {H : Hp} {Q : VK} {Z B : List Addr} {δ : DEnv} {d : D} (E : EnvR K Z B H σ δ) (h : f δ = .ok d) (q : ∀ v H', Same H H' → Rep K B H' d v → Q v H') : tD K f σ H Q := ⟨Z, B, δ, d, E, h, q⟩

/-- a new list as a value -/
def eNew (f : DEnv → R (List D)) : FD := fun δ => (f δ).bind fun ds => .ok (.lst ds)
theorem pd_new {e : Expr} {f : DEnv → R (List D)} (h : PN X e f) : PD X e (eNew f) := h.imp fun σ H Q ⟨Z, B, δ, d, E, hf, q⟩ => by
  obtain ⟨ds, h1, h2⟩ := R.bind_ok hf
  cases h2
  refine ⟨Z, B, δ, ds, E, h1, fun a xs H' s n e r => q _ H' s ?_⟩
  unfold Rep
  refine ⟨a, xs, rfl, .inl ⟨fun ha => ?_, .inl e⟩, r.pres fun b o e nb => ⟨e, fun hb => nb (List.mem_cons_of_mem _ hb)⟩⟩
  obtain ⟨o, ho⟩ := E.bs a ha
  rw [n] at ho; cases ho

theorem pres_new {B : List Addr} {H : Hp} {p : Addr} {o : HO} (h : H p = none) : Pres B H (p :: B) (upd H p o) := fun b u e nb =>
  ⟨by rw [upd_ne (ne_of_none e h)]; exact e, fun hb => by
    rcases List.mem_cons.mp hb with z | z
    · exact ne_of_none e h z
    · exact nb z⟩
/-- an atom of lists that are being built -/
def eThaw (f : FD) : FD := fun δ => (f (thaw δ)).bind fun d => R.when d.atom (.ok d)
theorem pd_thaw {e : Expr} {f : FD} (h : PD X e f) : PD X e (eThaw f) := h.imp fun σ H Q ⟨Z, B, δ, d, E, hf, q⟩ => by
  obtain ⟨d', h1, h2⟩ := R.bind_ok hf
  obtain ⟨ha, h3⟩ := R.when_ok h2
  cases h3
  exact ⟨[], [], L2.thaw δ, d, E.thaw, h1, fun v H' s r => q v H' s (r.atom ha)⟩
def bThaw (f : DEnv → R Bool) : DEnv → R Bool := fun δ => f (thaw δ)
theorem pb_thaw {e : Expr} {f : DEnv → R Bool} (h : PB X e f) : PB X e (bThaw f) := h.imp fun σ H Q ⟨Z, B, δ, d, E, hf, q⟩ => ⟨[], [], L2.thaw δ, d, E.thaw, hf, q⟩

/-! names, constants -/
def eVar (i : Nat) : FD := fun δ => match δ[i]? with | some (.val d) => .ok d | _ => .no
def eC (d : D) : FD := fun _ => .ok d
theorem pd_var (i : Nat) {x : Str} {pos : Pos} (hN : X.N[i]? = some x := by rfl) (hv : Vis X.env.scope x := by first | exact Or.inl rfl | exact Or.inr (Or.inl rfl) | exact Or.inr (Or.inr rfl)) (hd : (x == ("__debug__" : Str)) = false := by decide)
    (hcd : (x == ("__classdict__" : Str)) = false := by decide) : PD X (.Name x pos) (eVar i) := (pe_var hN hv hd hcd).imp fun σ H Q ⟨Z, B, δ, d, E, hf, q⟩ => by
  unfold eVar at hf
  split at hf
  · rename_i d' e
    cases hf
    obtain ⟨v, h1, h2⟩ := E.val i d e
    exact ⟨v, h1, q v H (Same.refl H) h2⟩
  · cases hf
theorem pd_const {e : Expr} {v : V} {d : D} (h : PE X e (tC v)) (r : ∀ B H, Rep X.K B H d v) : PD X e (eC d) := h.imp fun σ H Q ⟨Z, B, δ, d', E, hf, q⟩ => by
  cases hf
  exact q v H (Same.refl H) (r B H)
theorem pd_int {i j pos} : PD X (.Constant (.int i) j pos) (eC (.int i)) := pd_const pe_int fun _ _ => by unfold Rep; rfl
theorem pd_bl {b j pos} : PD X (.Constant (.bool b) j pos) (eC (.bl b)) := pd_const pe_bl fun _ _ => by unfold Rep; rfl
theorem pd_non {j pos} : PD X (.Constant .none j pos) (eC .non) := pd_const pe_non fun _ _ => by unfold Rep; rfl
theorem pd_str {x j pos} : PD X (.Constant (.str x) j pos) (eC (.str x)) := pd_const pe_str fun _ _ => by unfold Rep; rfl
/-- a constant of the module -/
def Glob (K : PySem.W.Frag) (mg : Str → Option Value) (x : Str) (d : D) : Prop := ∃ (u : Value) (v : V), mg x = some u ∧ RelV v u ∧ ∀ B H, Rep K B H d v
theorem pd_glob {x : Str} {d : D} {pos : Pos} (g : Glob X.K X.mg x d) (hg : Gl X x) (hd : (x == ("__debug__" : Str)) = false := by decide) : PD X (.Name x pos) (eC d) := by
  obtain ⟨u, v, hm, r, h⟩ := g
  exact pd_const (pe_glob hg hm r hd) h

/-! arguments, displays -/
def aNil : DEnv → R (List D) := fun _ => .ok []
def aCons (f : FD) (g : DEnv → R (List D)) : DEnv → R (List D) := fun δ => (f δ).bind fun d => (g δ).bind fun ds => .ok (d :: ds)
theorem pas_nil : PAs X [] aNil := pa_nil.imp fun σ H Q ⟨Z, B, δ, d, E, hf, q⟩ => by
  cases hf
  exact q [] H (Same.refl H) Reps.nil
theorem pas_cons {e : Expr} {es : List Expr} {f : FD} {g : DEnv → R (List D)} (h : PD X e f) (t : PAs X es g) (hs : starEach (e :: es) X.env = (false, eval e X.env) :: starEach es X.env := by rfl) : PAs X (e :: es) (aCons f g) :=
  (pa_cons h t hs).imp fun σ H Q ⟨Z, B, δ, d, E, hf, q⟩ => by
    obtain ⟨d1, h1, h2⟩ := R.bind_ok hf
    obtain ⟨ds, h3, h4⟩ := R.bind_ok h2
    cases h4
    exact ⟨Z, B, δ, d1, E, h1, fun v H1 s1 r1 => ⟨Z, B, δ, ds, E.same s1, h3, fun vs H2 s2 r2 => q _ H2 (s1.trans s2) (Reps.cons (r1.same s2) r2)⟩⟩
def eTup (g : DEnv → R (List D)) : FD := fun δ => (g δ).bind fun ds => R.when (decide (ds.length ≤ sizeLine)) (.ok (.tup ds))
def nLst (g : DEnv → R (List D)) : DEnv → R (List D) := fun δ => (g δ).bind fun ds => R.when (decide (ds.length ≤ sizeLine)) (.ok ds)
theorem same_upd {H : Hp} {p : Addr} {o : HO} (h : H p = none) : Same H (upd H p o) := fun b u e => by rw [upd_ne (ne_of_none e h)]; exact e
theorem pd_tup {es : List Expr} {g : DEnv → R (List D)} {x1 pos} (h : PAs X es g) : PD X (.Tuple es x1 pos) (eTup g) := (pe_tup h).imp fun σ H Q ⟨Z, B, δ, d, E, hf, q⟩ => by
  obtain ⟨ds, h1, h2⟩ := R.bind_ok hf
  obtain ⟨hl, h3⟩ := R.when_ok h2
  cases h3
  refine ⟨Z, B, δ, ds, E, h1, fun vs H1 s1 r1 => ⟨by rw [← r1.length]; exact of_decide_eq_true hl, fun p hp => q _ _ (s1.trans (same_upd hp)) ?_⟩⟩
  unfold Rep
  refine ⟨p, vs, rfl, .inl ⟨fun ha => ?_, .inl upd_same⟩, r1.same (same_upd hp)⟩
  obtain ⟨o, ho⟩ := (E.same s1).bs p ha
  rw [hp] at ho; cases ho
theorem pn_lst {es : List Expr} {g : DEnv → R (List D)} {pos} (h : PAs X es g) : PN X (.List es pos) (nLst g) := (pe_lst h).imp fun σ H Q ⟨Z, B, δ, d, E, hf, q⟩ => by
  obtain ⟨ds, h1, h2⟩ := R.bind_ok hf
  obtain ⟨hl, h3⟩ := R.when_ok h2
  cases h3
  exact ⟨Z, B, δ, _, E, h1, fun vs H1 s1 r1 => ⟨by rw [← r1.length]; exact of_decide_eq_true hl, fun p hp => q p vs _ (s1.trans (same_upd hp)) (s1.free hp) upd_same (r1.pres (pres_new hp))⟩⟩

/-! operations on two values -/
/-- f at values that show da, db gives a value that shows g da db -/
def OpD (X : Cx) (f : Value → Value → Sem Value) (g : D → D → R D) : Prop :=
  ∀ (pins : List (Addr × Obj)) (s : Shared) (σ : St) (H : Hp) (B : List Addr) (da db d : D) (x y : V) (v u : Value), Inv X pins σ H s → (∀ a ∈ B, ∃ o, H a = some o) → RelV x v → RelV y u → Rep X.K B H da x → Rep X.K B H db y → g da db = .ok d →
    wpAny (model X.prog X.w) X.A (f v u) (EP X pins σ fun z H' => Same H H' ∧ Rep X.K B H' d z) X.xe s
def e2 (g : D → D → R D) (fa fb : FD) : FD := fun δ => (fa δ).bind fun a => (fb δ).bind fun b => g a b
theorem OpD.r {f : Value → Value → Sem Value} {g : D → D → R D} (h : OpD X f g) : OpR X f (fun x y H Q => ∃ B da db d, (∀ a ∈ B, ∃ o, H a = some o) ∧ Rep X.K B H da x ∧ Rep X.K B H db y ∧ g da db = .ok d ∧ ∀ z H', Same H H' → Rep X.K B H' d z → Q z H') := by
  intro pins s σ H x y v u Q I rx ry ⟨B, da, db, d, hb, ha, hb', hg, q⟩
  exact thn (h pins s σ H B da db d x y v u I hb rx ry ha hb' hg) fun z s' ⟨zv, H', I', r', s1, r1⟩ => ⟨zv, H', I', r', q zv H' s1 r1⟩
theorem e2_r {K : PySem.W.Frag} {g : D → D → R D} {fa fb : FD} {σ : St} {H : Hp} {Q : VK} (h : tD K (e2 g fa fb) σ H Q) :
    tOp (fun x y H Q => ∃ B da db d, (∀ a ∈ B, ∃ o, H a = some o) ∧ Rep K B H da x ∧ Rep K B H db y ∧ g da db = .ok d ∧ ∀ z H', Same H H' → Rep K B H' d z → Q z H') (tD K fa) (tD K fb) σ H Q := by
  obtain ⟨Z, B, δ, d, E, hf, q⟩ := h
  obtain ⟨d1, h1, h2⟩ := R.bind_ok hf
  obtain ⟨d2, h3, h4⟩ := R.bind_ok h2
  exact ⟨Z, B, δ, d1, E, h1, fun v1 H1 s1 r1 => ⟨Z, B, δ, d2, E.same s1, h3, fun v2 H2 s2 r2 => ⟨B, d1, d2, d, (E.same (s1.trans s2)).bs, r1.same s2, r2, h4, fun z H' s3 r3 => q z H' (s1.trans (s2.trans s3)) r3⟩⟩⟩
theorem pd_op {op : Operator} {g : D → D → R D} {a b : Expr} {fa fb : FD} {pos : Pos} (ho : OpD X (binaryOp op) g) (ha : PD X a fa) (hb : PD X b fb) : PD X (.BinOp a op b pos) (e2 g fa fb) :=
  (pe_op ho.r ha hb).imp fun σ H Q h => e2_r h
theorem pd_cmp {op : CmpOp} {g : D → D → R D} {a b : Expr} {fa fb : FD} {pos : Pos} (ho : OpD X (compareOp op) g) (ha : PD X a fa) (hb : PD X b fb) (hm : behindInMarks op b = false) : PD X (.Compare a [op] [b] pos) (e2 g fa fb) :=
  (pe_cmpR ho.r ha hb hm).imp fun σ H Q h => e2_r h
/-- a bool as a test -/
def b2 (g : D → D → R D) (fa fb : FD) : DEnv → R Bool := fun δ => (e2 g fa fb δ).bind fun d => match d with | .bl b => .ok b | _ => .no
theorem pb_cmp {op : CmpOp} {g : D → D → R D} {a b : Expr} {fa fb : FD} {pos : Pos} (ho : OpD X (compareOp op) g) (ha : PD X a fa) (hb : PD X b fb) (hm : behindInMarks op b = false) : PB X (.Compare a [op] [b] pos) (b2 g fa fb) :=
  (pt_cmpR ho.r ha hb hm).imp fun σ H Q ⟨Z, B, δ, b, E, hf, q⟩ => by
    obtain ⟨d, h1, h2⟩ := R.bind_ok hf
    cases d with
    | bl k =>
      cases h2
      exact e2_r (g := g) (Q := fun x H' => ∃ k, x = .bl k ∧ Q k H') ⟨Z, B, δ, .bl b, E, h1, fun v H' s r => ⟨b, by unfold Rep at r; exact r, q H' s⟩⟩
    | _ => cases h2
/-- a op1 b op2 c -/
def eChain (g g' : D → D → R D) (fa fb fc : FD) : FD := fun δ => (fa δ).bind fun a => (fb δ).bind fun b => (g a b).bind fun r => match r with
  | .bl true => (fc δ).bind fun c => g' b c
  | .bl false => .ok (.bl false)
  | _ => .no
theorem chain_r {K : PySem.W.Frag} {g g' : D → D → R D} {fa fb fc : FD} {σ : St} {H : Hp} {Q : VK} (h : tD K (eChain g g' fa fb fc) σ H Q) :
    tChain (fun x y H Q => ∃ B da db d, (∀ a ∈ B, ∃ o, H a = some o) ∧ Rep K B H da x ∧ Rep K B H db y ∧ g da db = .ok d ∧ ∀ z H', Same H H' → Rep K B H' d z → Q z H')
      (fun x y H Q => ∃ B da db d, (∀ a ∈ B, ∃ o, H a = some o) ∧ Rep K B H da x ∧ Rep K B H db y ∧ g' da db = .ok d ∧ ∀ z H', Same H H' → Rep K B H' d z → Q z H') (tD K fa) (tD K fb) (tD K fc) σ H Q := by
  obtain ⟨Z, B, δ, d, E, hf, q⟩ := h
  obtain ⟨d1, h1, h2⟩ := R.bind_ok hf
  obtain ⟨d2, h3, h4⟩ := R.bind_ok h2
  obtain ⟨d3, h5, h6⟩ := R.bind_ok h4
  refine ⟨Z, B, δ, d1, E, h1, fun v1 H1 s1 r1 => ⟨Z, B, δ, d2, E.same s1, h3, fun v2 H2 s2 r2 => ⟨B, d1, d2, d3, (E.same (s1.trans s2)).bs, r1.same s2, r2, h5, fun z H3 s3 r3 => ?_⟩⟩⟩
  cases d3 with
  | bl k =>
    refine ⟨k, by unfold Rep at r3; exact r3, ?_⟩
    cases k with
    | true =>
      rw [if_pos rfl]
      obtain ⟨d4, h7, h8⟩ := R.bind_ok h6
      exact ⟨Z, B, δ, d4, E.same (s1.trans (s2.trans s3)), h7, fun v4 H4 s4 r4 => ⟨B, d2, d4, d, (E.same (s1.trans (s2.trans (s3.trans s4)))).bs, r2.same (s3.trans s4), r4, h8, fun z H' s5 r5 => q z H' (s1.trans (s2.trans (s3.trans (s4.trans s5)))) r5⟩⟩
    | false =>
      rw [if_neg (by decide)]
      cases h6
      exact q _ H3 (s1.trans (s2.trans s3)) (by unfold Rep; rfl)
  | _ => cases h6
theorem pd_chain {op op' : CmpOp} {g g' : D → D → R D} {a b c : Expr} {fa fb fc : FD} {pos : Pos} (ho : OpD X (compareOp op) g) (ho' : OpD X (compareOp op') g') (ha : PD X a fa) (hb : PD X b fb) (hc : PD X c fc)
    (hm : lastMarks [op, op'] [b, c] = false := by with_unfolding_all rfl) : PD X (.Compare a [op, op'] [b, c] pos) (eChain g g' fa fb fc) :=
  (pe_chain ho.r ho'.r ha hb hc hm).imp fun σ H Q h => chain_r h
theorem pb_chain {op op' : CmpOp} {g g' : D → D → R D} {a b c : Expr} {fa fb fc : FD} {pos : Pos} (ho : OpD X (compareOp op) g) (ho' : OpD X (compareOp op') g') (ha : PD X a fa) (hb : PD X b fb) (hc : PD X c fc)
    (hm : lastMarks [op, op'] [b, c] = false := by with_unfolding_all rfl) : PB X (.Compare a [op, op'] [b, c] pos) (fun δ => (eChain g g' fa fb fc δ).bind fun d => match d with | .bl b => .ok b | _ => .no) :=
  (pt_chain ho.r ho'.r ha hb hc hm).imp fun σ H Q ⟨Z, B, δ, b, E, hf, q⟩ => by
    obtain ⟨d, h1, h2⟩ := R.bind_ok hf
    cases d with
    | bl k =>
      cases h2
      exact chain_r (g := g) (g' := g') (Q := fun x H' => ∃ k, x = .bl k ∧ Q k H') ⟨Z, B, δ, .bl b, E, h1, fun v H' s r => ⟨b, by unfold Rep at r; exact r, q H' s⟩⟩
    | _ => cases h2

/-! truth, and, or, not, if -/
def truD : D → R Bool
  | .non => .ok false
  | .bl b => .ok b
  | .int i => .ok (i != 0)
  | .str x => R.when (decide (x.length ≤ sizeLine)) (.ok ((x.length : Int) != 0))
  | .lst ds => .ok (!ds.isEmpty)
  | .tup ds => .ok (!ds.isEmpty)
  | .dct _ _ => .no
def bTru (f : FD) : DEnv → R Bool := fun δ => (f δ).bind truD
theorem Reps.isEmpty {K : PySem.W.Frag} {B : List Addr} {H : Hp} {ds : List D} {xs : List V} (h : Reps K B H ds xs) : ds.isEmpty = xs.isEmpty := by
  have := h.length
  cases ds <;> cases xs <;> simp_all
theorem truD_v {K : PySem.W.Frag} {B : List Addr} {H : Hp} {d : D} {v : V} {b : Bool} (r : Rep K B H d v) (h : truD d = .ok b) : TruV K v H b := by
  cases d with
  | non => unfold Rep at r; subst r; cases h; exact rfl
  | bl k => unfold Rep at r; subst r; cases h; exact rfl
  | int i => unfold Rep at r; subst r; cases h; exact rfl
  | str x => unfold Rep at r; subst r; obtain ⟨h1, h2⟩ := R.when_ok h; cases h2; exact ⟨of_decide_eq_true h1, rfl⟩
  | lst ds => unfold Rep at r; obtain ⟨a, xs, rfl, l, r⟩ := r; cases h; exact .inl ⟨xs, l.sq, by rw [r.isEmpty]⟩
  | tup ds => unfold Rep at r; obtain ⟨a, xs, rfl, l, r⟩ := r; cases h; exact .inr (.inl ⟨xs, l.sq, by rw [r.isEmpty]⟩)
  | dct _ _ => cases h
theorem pb_tru {a : Expr} {f : FD} (ha : PD X a f) (he : ∀ whole, isTrue a X.env whole = (do let v ← whole; standAt a.pos; holding [v] (truthy v)) := by intro _; rfl) : PB X a (bTru f) :=
  (pt_truth ha he).imp fun σ H Q ⟨Z, B, δ, b, E, hf, q⟩ => by
    obtain ⟨d, h1, h2⟩ := R.bind_ok hf
    exact ⟨Z, B, δ, d, E, h1, fun v H' s r => ⟨b, truD_v r h2, q H' s⟩⟩
def bAnd (f g : DEnv → R Bool) : DEnv → R Bool := fun δ => (f δ).bind fun b => if b then g δ else .ok false
def bOr (f g : DEnv → R Bool) : DEnv → R Bool := fun δ => (f δ).bind fun b => if b then .ok true else g δ
def bNot (f : DEnv → R Bool) : DEnv → R Bool := fun δ => (f δ).bind fun b => .ok (!b)
def PBW (X : Cx) (e : Expr) (f : DEnv → R Bool) : Prop := PW X e (tTD X.K f)
theorem PBW.pb {e : Expr} {f : DEnv → R Bool} (h : PBW X e f) : PB X e f := PW.pt h
theorem pbw_and1 {a : Expr} {f : DEnv → R Bool} {pos : Pos} (h : PB X a f) : PBW X (.BoolOp .And [a] pos) f := pw_and1 h
theorem pbw_or1 {a : Expr} {f : DEnv → R Bool} {pos : Pos} (h : PB X a f) : PBW X (.BoolOp .Or [a] pos) f := pw_or1 h
theorem pbw_and {a b : Expr} {rest : List Expr} {f g : DEnv → R Bool} {pos : Pos} (ha : PB X a f) (hb : PBW X (.BoolOp .And (b :: rest) pos) g) : PBW X (.BoolOp .And (a :: b :: rest) pos) (bAnd f g) := by
  intro wh pins s σ H Q I ⟨Z, B, δ, k, E, hf, q⟩
  refine pw_and ha hb wh pins s σ H Q I ?_
  obtain ⟨c, h1, h2⟩ := R.bind_ok hf
  refine ⟨Z, B, δ, c, E, h1, fun H1 s1 => ?_⟩
  cases c with
  | true => rw [if_pos rfl] at h2 ⊢; exact ⟨Z, B, δ, k, E.same s1, h2, fun H' s2 => q H' (s1.trans s2)⟩
  | false => rw [if_neg (by decide)] at h2 ⊢; cases h2; exact q H1 s1
theorem pbw_or {a b : Expr} {rest : List Expr} {f g : DEnv → R Bool} {pos : Pos} (ha : PB X a f) (hb : PBW X (.BoolOp .Or (b :: rest) pos) g) : PBW X (.BoolOp .Or (a :: b :: rest) pos) (bOr f g) := by
  intro wh pins s σ H Q I ⟨Z, B, δ, k, E, hf, q⟩
  refine pw_or ha hb wh pins s σ H Q I ?_
  obtain ⟨c, h1, h2⟩ := R.bind_ok hf
  refine ⟨Z, B, δ, c, E, h1, fun H1 s1 => ?_⟩
  cases c with
  | true => rw [if_pos rfl] at h2 ⊢; cases h2; exact q H1 s1
  | false => rw [if_neg (by decide)] at h2 ⊢; exact ⟨Z, B, δ, k, E.same s1, h2, fun H' s2 => q H' (s1.trans s2)⟩
theorem pb_not {a : Expr} {f : DEnv → R Bool} {pos : Pos} (ha : PB X a f) : PB X (.UnaryOp .Not a pos) (bNot f) := (pt_not ha).imp fun σ H Q ⟨Z, B, δ, k, E, hf, q⟩ => by
  obtain ⟨c, h1, h2⟩ := R.bind_ok hf
  cases h2
  exact ⟨Z, B, δ, c, E, h1, fun H1 s1 => q H1 s1⟩
/-- .. as values (bools) -/
def asB (f : FD) : DEnv → R Bool := fun δ => (f δ).bind fun d => match d with | .bl b => .ok b | _ => .no
def eAnd (f g : FD) : FD := fun δ => (asB f δ).bind fun b => if b then g δ else .ok (.bl false)
def eOr (f g : FD) : FD := fun δ => (asB f δ).bind fun b => if b then .ok (.bl true) else g δ
def eNot (f : FD) : FD := fun δ => (asB f δ).bind fun b => .ok (.bl (!b))
theorem asB_ok {f : FD} {δ : DEnv} {b : Bool} (h : asB f δ = .ok b) : f δ = .ok (.bl b) := by
  obtain ⟨d, h1, h2⟩ := R.bind_ok h
  cases d with
  | bl k => cases h2; exact h1
  | _ => cases h2
theorem pd_one {a : Expr} {op} {f : FD} {pos : Pos} (h : PD X a f) : PD X (.BoolOp op [a] pos) f := pe_one h
theorem pd_and {a b : Expr} {rest : List Expr} {f g : FD} {pos : Pos} (ha : PD X a f) (hb : PD X (.BoolOp .And (b :: rest) pos) g) : PD X (.BoolOp .And (a :: b :: rest) pos) (eAnd f g) := (pe_and ha hb).imp fun σ H Q ⟨Z, B, δ, k, E, hf, q⟩ => by
  obtain ⟨c, h1, h2⟩ := R.bind_ok hf
  refine ⟨Z, B, δ, .bl c, E, asB_ok h1, fun v H1 s1 r1 => ⟨c, by unfold Rep at r1; exact r1, ?_⟩⟩
  cases c with
  | true => rw [if_pos rfl] at h2 ⊢; exact ⟨Z, B, δ, k, E.same s1, h2, fun v H' s2 r2 => q v H' (s1.trans s2) r2⟩
  | false => rw [if_neg (by decide)] at h2 ⊢; cases h2; exact q _ H1 s1 (by unfold Rep; rfl)
theorem pd_or {a b : Expr} {rest : List Expr} {f g : FD} {pos : Pos} (ha : PD X a f) (hb : PD X (.BoolOp .Or (b :: rest) pos) g) : PD X (.BoolOp .Or (a :: b :: rest) pos) (eOr f g) := (pe_or ha hb).imp fun σ H Q ⟨Z, B, δ, k, E, hf, q⟩ => by
  obtain ⟨c, h1, h2⟩ := R.bind_ok hf
  refine ⟨Z, B, δ, .bl c, E, asB_ok h1, fun v H1 s1 r1 => ⟨c, by unfold Rep at r1; exact r1, ?_⟩⟩
  cases c with
  | true => rw [if_pos rfl] at h2 ⊢; cases h2; exact q _ H1 s1 (by unfold Rep; rfl)
  | false => rw [if_neg (by decide)] at h2 ⊢; exact ⟨Z, B, δ, k, E.same s1, h2, fun v H' s2 r2 => q v H' (s1.trans s2) r2⟩
theorem pd_not {a : Expr} {f : FD} {pos : Pos} (ha : PD X a f) : PD X (.UnaryOp .Not a pos) (eNot f) := (pe_not ha).imp fun σ H Q ⟨Z, B, δ, k, E, hf, q⟩ => by
  obtain ⟨c, h1, h2⟩ := R.bind_ok hf
  cases h2
  exact ⟨Z, B, δ, .bl c, E, asB_ok h1, fun v H1 s1 r1 => ⟨c, by unfold Rep at r1; exact r1, q _ H1 s1 (by unfold Rep; rfl)⟩⟩
def eIf (c : DEnv → R Bool) (f g : FD) : FD := fun δ => (c δ).bind fun b => if b then f δ else g δ
theorem pd_if {c a b : Expr} {fc : DEnv → R Bool} {f g : FD} {pos : Pos} (hc : PB X c fc) (ha : PD X a f) (hb : PD X b g) : PD X (.IfExp c a b pos) (eIf fc f g) := (pe_ifExp hc ha hb).imp fun σ H Q ⟨Z, B, δ, k, E, hf, q⟩ => by
  obtain ⟨c, h1, h2⟩ := R.bind_ok hf
  refine ⟨Z, B, δ, c, E, h1, fun H1 s1 => ?_⟩
  cases c with
  | true => rw [if_pos rfl] at h2 ⊢; exact ⟨Z, B, δ, k, E.same s1, h2, fun v H' s2 r2 => q v H' (s1.trans s2) r2⟩
  | false => rw [if_neg (by decide)] at h2 ⊢; exact ⟨Z, B, δ, k, E.same s1, h2, fun v H' s2 r2 => q v H' (s1.trans s2) r2⟩

/-! calls -/
/-- a call of a known value -/
def CallD (X : Cx) (f : Value) (g : List D → R D) : Prop :=
  ∀ (pins : List (Addr × Obj)) (s : Shared) (σ : St) (H : Hp) (B : List Addr) (ds : List D) (d : D) (xs : List V) (us : List Value), Inv X pins σ H s → (∀ a ∈ B, ∃ o, H a = some o) → Vals xs us → Reps X.K B H ds xs → g ds = .ok d →
    wpAny (model X.prog X.w) X.A (call f us) (EP X pins σ fun z H' => Same H H' ∧ Rep X.K B H' d z) X.xe s
def eCall (g : List D → R D) (fs : DEnv → R (List D)) : FD := fun δ => (fs δ).bind g
theorem CallD.r {f : Value} {g : List D → R D} (h : CallD X f g) : CallR X f (fun xs H Q => ∃ B ds d, (∀ a ∈ B, ∃ o, H a = some o) ∧ Reps X.K B H ds xs ∧ g ds = .ok d ∧ ∀ z H', Same H H' → Rep X.K B H' d z → Q z H') := by
  intro pins s σ H xs us Q I rx ⟨B, ds, d, hb, hr, hg, q⟩
  exact thn (h pins s σ H B ds d xs us I hb rx hr hg) fun z s' ⟨zv, H', I', r', s1, r1⟩ => ⟨zv, H', I', r', q zv H' s1 r1⟩
theorem eCall_r {K : PySem.W.Frag} {g : List D → R D} {fs : DEnv → R (List D)} {σ : St} {H : Hp} {Q : VK} (h : tD K (eCall g fs) σ H Q) :
    tAD K fs σ H fun vs H1 => ∃ B ds d, (∀ a ∈ B, ∃ o, H1 a = some o) ∧ Reps K B H1 ds vs ∧ g ds = .ok d ∧ ∀ z H', Same H1 H' → Rep K B H' d z → Q z H' := by
  obtain ⟨Z, B, δ, d, E, hf, q⟩ := h
  obtain ⟨ds, h1, h2⟩ := R.bind_ok hf
  exact ⟨Z, B, δ, ds, E, h1, fun vs H1 s1 r1 => ⟨B, ds, d, (E.same s1).bs, r1, h2, fun z H' s2 r2 => q z H' (s1.trans s2) r2⟩⟩
theorem pd_callB {g : List D → R D} {x : Str} {id : String} {p pos : Pos} {e : Expr} {es : List Expr} {fs : DEnv → R (List D)} (hc : CallD X (.builtin id) g) (hg : Gl X x) (hm : X.mg x = none) (hv : bootBuiltins x = some (.builtin id)) (ha : PAs X (e :: es) fs) (hn : x ≠ "__name__" := by decide) (hdb : (x == ("__debug__" : Str)) = false := by decide)
    (he : starEach (e :: es) X.env = (false, eval e X.env) :: starEach es X.env := by rfl) (hpl : (backTo pos (starEach es X.env)).any (·.1) = false := by rfl) : PD X (.Call (.Name x p) (e :: es) [] pos) (eCall g fs) :=
  (pe_callB hc.r hg hm hv ha hn hdb he hpl).imp fun σ H Q h => eCall_r h
theorem pd_callTy {g : List D → R D} {x : Str} {T : String} {p pos : Pos} {e : Expr} {es : List Expr} {fs : DEnv → R (List D)} (hc : CallD X (.type T) g) (hg : Gl X x) (hm : X.mg x = none) (hv : bootBuiltins x = some (.type T)) (ha : PAs X (e :: es) fs) (hn : x ≠ "__name__" := by decide) (hdb : (x == ("__debug__" : Str)) = false := by decide)
    (he : starEach (e :: es) X.env = (false, eval e X.env) :: starEach es X.env := by rfl) (hpl : (backTo pos (starEach es X.env)).any (·.1) = false := by rfl) : PD X (.Call (.Name x p) (e :: es) [] pos) (eCall g fs) :=
  (pe_callTy hc.r hg hm hv ha hn hdb he hpl).imp fun σ H Q h => eCall_r h
/-- what a pure def promises -/
def spD (K : PySem.W.Frag) (n : Nat) (g : List D → R D) : Sp := fun vs H Q _ => vs.length = n ∧ ∃ B ds d, (∀ a ∈ B, ∃ o, H a = some o) ∧ Reps K B H ds vs ∧ g ds = .ok d ∧ ∀ z H', Same H H' → Rep K B H' d z → Q z H'
theorem pd_call {g : List D → R D} {k n : Nat} {f : Addr} {fd : FuncData} {ps : List Str} {x : Str} {p pos : Pos} {e : Expr} {es : List Expr} {fs : DEnv → R (List D)}
    (F : FnOk X.prog X.w X.K X.mg X.base CX0 k f fd ps (spD X.K n g)) (hr : Room k X.A) (hg : Gl X x) (hm : X.mg x = some (.ref f)) (hk : PySem.W.keepIn X.K (.ref f) = true) (hb : Binds X.K fd ps []) (ha : PAs X (e :: es) fs)
    (hn : ∀ δ ds, fs δ = .ok ds → ds.length = n) (hdb : (x == ("__debug__" : Str)) = false := by decide) (he : starEach (e :: es) X.env = (false, eval e X.env) :: starEach es X.env := by rfl) (hpl : (backTo pos (starEach es X.env)).any (·.1) = false := by rfl) :
    PD X (.Call (.Name x p) (e :: es) [] pos) (eCall g fs) :=
  (pe_call F hr hg hm hk hb .nil pass0 ha hdb he hpl).imp fun σ H Q ⟨Z, B, δ, d, E, hf, q⟩ => by
    obtain ⟨ds, h1, h2⟩ := R.bind_ok hf
    refine ⟨Z, B, δ, ds, E, h1, fun vs H1 s1 r1 => ?_⟩
    show spD X.K n g (vs ++ []) H1 Q E0
    rw [List.append_nil]
    exact ⟨by rw [← r1.length]; exact hn δ ds h1, B, ds, d, (E.same s1).bs, r1, h2, fun z H' s2 r2 => q z H' (s1.trans s2) r2⟩
end
end L2

end
section
set_option maxRecDepth 100000
set_option maxHeartbeats 4000000
/-! ## THE DATUM LAYER: statements, loops, comprehensions, defs (own) -/
namespace L2
open PySem PySem.Spec PyProof.Rows

inductive Out where
  | nx (δ : DEnv) | rt (d : D)
abbrev FS := DEnv → R Out

/-- from (B, H) to (B', H'): what is not built here stands still -/
structure Ev (Z B : List Addr) (H : Hp) (B' : List Addr) (H' : Hp) : Prop where
  pres : Pres B H B' H'
  zs : ∀ b o, H b = some o → b ∈ Z → H' b = some o ∧ b ∈ B'
theorem Ev.refl (Z B : List Addr) (H : Hp) (zb : ∀ a ∈ Z, a ∈ B) : Ev Z B H B H := ⟨Pres.refl B H, fun b o e z => ⟨e, zb b z⟩⟩
theorem Ev.trans {Z B B' B'' : List Addr} {H H' H'' : Hp} (a : Ev Z B H B' H') (b : Ev Z B' H' B'' H'') : Ev Z B H B'' H'' :=
  ⟨a.pres.trans b.pres, fun c o e z => let ⟨e1, _⟩ := a.zs c o e z; b.zs c o e1 z⟩
theorem Ev.same {Z B : List Addr} {H H' : Hp} (zb : ∀ a ∈ Z, a ∈ B) (s : Same H H') : Ev Z B H B H' := ⟨Pres.same s, fun b o e z => ⟨s b o e, zb b z⟩⟩

/-- what is wanted behind an outcome -/
def OutOk (K : PySem.W.Frag) (Z B : List Addr) (H : Hp) (D : Ends) : Out → Prop
  | .nx δ' => ∀ σ' B' H', Ev Z B H B' H' → EnvR K Z B' H' σ' δ' → D.nx σ' H'
  | .rt d => ∀ v B' H', Ev Z B H B' H' → (∀ a ∈ Z, a ∈ B') → Rep K B' H' d v → D.rt v H'
theorem OutOk.ev {K : PySem.W.Frag} {Z B B1 : List Addr} {H H1 : Hp} {D : Ends} {o : Out} (q : OutOk K Z B H D o) (ev : Ev Z B H B1 H1) : OutOk K Z B1 H1 D o := by
  cases o with
  | nx δ' => exact fun σ' B' H' ev' E' => q σ' B' H' (ev.trans ev') E'
  | rt d => exact fun v B' H' ev' z r => q v B' H' (ev.trans ev') z r
/-- a statement worth F -/
def sD (K : PySem.W.Frag) (F : FS) : TS := fun D σ H => ∃ Z B δ o, EnvR K Z B H σ δ ∧ F δ = .ok o ∧ OutOk K Z B H D o
abbrev PDs (X : Cx) (st : Stmt) (F : FS) : Prop := PS X st (sD X.K F)
abbrev PDss (X : Cx) (st : List Stmt) (F : FS) : Prop := PSs X st (sD X.K F)

section
variable {X : Cx}
def sNil : FS := fun δ => .ok (.nx δ)
def sSeq (F G : FS) : FS := fun δ => (F δ).bind fun o => match o with | .nx δ' => G δ' | .rt d => .ok (.rt d)
theorem pds_nil : PDss X [] sNil := pss_nil.imp fun D σ H ⟨Z, B, δ, o, E, hf, q⟩ => by
  cases hf
  exact q σ B H (Ev.refl Z B H E.zb) E
theorem sSeq_r {K : PySem.W.Frag} {F G : FS} {D : Ends} {σ : St} {H : Hp} (h : sD K (sSeq F G) D σ H) : tSeq (sD K F) (sD K G) D σ H := by
  obtain ⟨Z, B, δ, o, E, hf, q⟩ := h
  obtain ⟨o1, h1, h2⟩ := R.bind_ok hf
  refine ⟨Z, B, δ, o1, E, h1, ?_⟩
  cases o1 with
  | nx δ1 =>
    intro σ1 B1 H1 ev E1
    refine ⟨Z, B1, δ1, o, E1, h2, ?_⟩
    cases o with
    | nx δ2 => exact fun σ' B' H' ev' E' => q σ' B' H' (ev.trans ev') E'
    | rt d => exact fun v B' H' ev' z r => q v B' H' (ev.trans ev') z r
  | rt d =>
    cases h2
    exact q
theorem pds_cons {st : Stmt} {rest : List Stmt} {F G : FS} (h1 : PDs X st F) (h2 : PDss X rest G) : PDss X (st :: rest) (sSeq F G) := (pss_cons h1 h2).imp fun D σ H h => sSeq_r h
theorem pds_one {st : Stmt} {F : FS} (h1 : PDs X st F) : PDss X [st] F := pss_one h1

theorem EnvR.set {K : PySem.W.Frag} {Z B : List Addr} {H : Hp} {σ : St} {δ : DEnv} (E : EnvR K Z B H σ δ) {i : Nat} {d : D} {v : V} (hi : i < σ.length) (r : Rep K B H d v) : EnvR K Z B H (σ.set i (some v)) (δ.set i (.val d)) where
  len := by rw [List.length_set, List.length_set]; exact E.len
  bs := E.bs
  zb := E.zb
  val := fun j d' e => by
    by_cases h : i = j
    · subst h
      rw [List.getElem?_set_self (by rw [E.len]; exact hi)] at e
      cases e
      exact ⟨v, List.getElem?_set_self hi, r⟩
    · rw [List.getElem?_set_ne h] at e ⊢
      exact E.val j d' e
  bld := fun j ds e => by
    by_cases h : i = j
    · subst h
      rw [List.getElem?_set_self (by rw [E.len]; exact hi)] at e
      cases e
    · rw [List.getElem?_set_ne h] at e ⊢
      exact E.bld j ds e
  dis := fun j k a ds es e1 e2 e3 e4 => by
    by_cases h : i = j
    · subst h
      rw [List.getElem?_set_self (by rw [E.len]; exact hi)] at e1
      cases e1
    · by_cases h' : i = k
      · subst h'
        rw [List.getElem?_set_self (by rw [E.len]; exact hi)] at e2
        cases e2
      · rw [List.getElem?_set_ne h] at e1 e3
        rw [List.getElem?_set_ne h'] at e2 e4
        exact E.dis j k a ds es e1 e2 e3 e4
theorem EnvR.setB {K : PySem.W.Frag} {Z B : List Addr} {H : Hp} {σ : St} {δ : DEnv} (E : EnvR K Z B H σ δ) {i : Nat} {ds : List D} {a : Addr} {xs : List V} (hi : i < σ.length) (hB : a ∈ B) (hZ : a ∉ Z) (hH : H a = some (.lst xs)) (r : Reps K B H ds xs)
    (new : ∀ j es, j ≠ i → δ[j]? = some (.bld es) → σ[j]? ≠ some (some (.ref a))) : EnvR K Z B H (σ.set i (some (.ref a))) (δ.set i (.bld ds)) where
  len := by rw [List.length_set, List.length_set]; exact E.len
  bs := E.bs
  zb := E.zb
  val := fun j d' e => by
    by_cases h : i = j
    · subst h
      rw [List.getElem?_set_self (by rw [E.len]; exact hi)] at e
      cases e
    · rw [List.getElem?_set_ne h] at e ⊢
      exact E.val j d' e
  bld := fun j es e => by
    by_cases h : i = j
    · subst h
      rw [List.getElem?_set_self (by rw [E.len]; exact hi)] at e
      cases e
      exact ⟨a, xs, List.getElem?_set_self hi, hB, hZ, hH, r⟩
    · rw [List.getElem?_set_ne h] at e ⊢
      exact E.bld j es e
  dis := fun j k b ds1 es1 e1 e2 e3 e4 => by
    by_cases h : i = j
    · subst h
      by_cases h' : i = k
      · exact h'
      · rw [List.getElem?_set_self hi] at e3
        cases e3
        rw [List.getElem?_set_ne h'] at e2 e4
        exact absurd e4 (new k es1 (Ne.symm h') e2)
    · by_cases h' : i = k
      · subst h'
        rw [List.getElem?_set_self hi] at e4
        cases e4
        rw [List.getElem?_set_ne h] at e1 e3
        exact absurd e3 (new j ds1 (Ne.symm h) e1)
      · rw [List.getElem?_set_ne h] at e1 e3
        rw [List.getElem?_set_ne h'] at e2 e4
        exact E.dis j k b ds1 es1 e1 e2 e3 e4

/-- name = e -/
def sSet (i : Nat) (f : FD) : FS := fun δ => (f δ).bind fun d => R.when (decide (i < δ.length)) (.ok (.nx (δ.set i (.val d))))
theorem sSet_r {K : PySem.W.Frag} {i : Nat} {f : FD} {D : Ends} {σ : St} {H : Hp} (h : sD K (sSet i f) D σ H) : tAsg (tD K f) (gName i) D σ H := by
  obtain ⟨Z, B, δ, o, E, hf, q⟩ := h
  obtain ⟨d, h1, h2⟩ := R.bind_ok hf
  obtain ⟨hi, h3⟩ := R.when_ok h2
  cases h3
  refine ⟨Z, B, δ, d, E, h1, fun v H1 s1 r1 => ?_⟩
  exact q _ B H1 (Ev.same E.zb s1) ((E.same s1).set (by rw [← E.len]; exact of_decide_eq_true hi) r1)
theorem pds_set {i : Nat} {x : Str} {e : Expr} {f : FD} {pos pos' : Pos} (hN : X.N.Nodup) (hi : X.N[i]? = some x) (hx : Loc X.env.scope x) (he : PD X e f) (hs : swapsWith e (some (.Name x pos')) pos.line X.env = pure false := by rfl) (hf : X.fn x = true ∨ X.env.scope.names.lookup x = some .local := by first | exact .inl rfl | exact .inr rfl | assumption) :
    PDs X (.Assign [.Name x pos'] e pos) (sSet i f) := (ps_set hN hi hx he hs hf).imp fun D σ H h => sSet_r h
/-- name = e, a new list that will be built on -/
def sBld (i : Nat) (f : DEnv → R (List D)) : FS := fun δ => (f δ).bind fun ds => R.when (decide (i < δ.length)) (.ok (.nx (δ.set i (.bld ds))))
theorem sBld_r {K : PySem.W.Frag} {i : Nat} {f : DEnv → R (List D)} {D : Ends} {σ : St} {H : Hp} (h : sD K (sBld i f) D σ H) : tAsg (tN K f) (gName i) D σ H := by
  obtain ⟨Z, B, δ, o, E, hf, q⟩ := h
  obtain ⟨ds, h1, h2⟩ := R.bind_ok hf
  obtain ⟨hi, h3⟩ := R.when_ok h2
  cases h3
  refine ⟨Z, B, δ, ds, E, h1, fun a xs H1 s1 n e r => ?_⟩
  have E1 := E.same s1
  have aB : a ∉ B := fun ha => by obtain ⟨o, ho⟩ := E.bs a ha; rw [n] at ho; cases ho
  have nZ : a ∉ Z := fun ha => aB (E.zb a ha)
  have p0 : Pres B H (a :: B) H1 := fun b o e' nb => ⟨s1 b o e', fun hb => by
    rcases List.mem_cons.mp hb with z | z
    · subst z; rw [n] at e'; cases e'
    · exact nb z⟩
  have E2 : EnvR K Z (a :: B) H1 σ δ := {
    len := E.len
    bs := fun b hb => by
      rcases List.mem_cons.mp hb with z | z
      · subst z; exact ⟨_, e⟩
      · exact E1.bs b z
    zb := fun b hb => List.mem_cons_of_mem _ (E.zb b hb)
    val := fun j d e => let ⟨v, q1, q2⟩ := E.val j d e; ⟨v, q1, q2.pres p0⟩
    bld := fun j es e => let ⟨b, ys, q1, q2, q3, q4, q5⟩ := E.bld j es e; ⟨b, ys, q1, List.mem_cons_of_mem _ q2, q3, s1 b _ q4, q5.pres p0⟩
    dis := E.dis }
  refine q _ (a :: B) H1 ⟨p0, fun b o e' hb => ⟨s1 b o e', List.mem_cons_of_mem _ (E.zb b hb)⟩⟩ (E2.setB (by rw [← E.len]; exact of_decide_eq_true hi) List.mem_cons_self nZ e r fun j es hj ej hσ => ?_)
  obtain ⟨b, ys, q1, _, _, q4, _⟩ := E.bld j es ej
  rw [hσ] at q1
  cases q1
  rw [n] at q4; cases q4
theorem pds_bld {i : Nat} {x : Str} {e : Expr} {f : DEnv → R (List D)} {pos pos' : Pos} (hN : X.N.Nodup) (hi : X.N[i]? = some x) (hx : Loc X.env.scope x) (he : PN X e f) (hs : swapsWith e (some (.Name x pos')) pos.line X.env = pure false := by rfl) (hf : X.fn x = true ∨ X.env.scope.names.lookup x = some .local := by first | exact .inl rfl | exact .inr rfl | assumption) :
    PDs X (.Assign [.Name x pos'] e pos) (sBld i f) := (ps_set hN hi hx he hs hf).imp fun D σ H h => sBld_r h

/-- a list that is built: one more, some more -/
theorem EnvR.grow {K : PySem.W.Frag} {Z B : List Addr} {H : Hp} {σ : St} {δ : DEnv} (E : EnvR K Z B H σ δ) {i : Nat} {ds es : List D} {a : Addr} {xs ys : List V} (hd : δ[i]? = some (.bld ds)) (hσ : σ[i]? = some (some (.ref a))) (hB : a ∈ B) (hH : H a = some (.lst xs)) (r : Reps K B H es ys) :
    EnvR K Z B (upd H a (.lst ys)) σ (δ.set i (.bld es)) ∧ Pres B H B (upd H a (.lst ys)) := by
  have p : Pres B H B (upd H a (.lst ys)) := fun b o e nb => ⟨by rw [upd_ne (fun (z : b = a) => nb (by rw [z]; exact hB))]; exact e, nb⟩
  have hi : i < δ.length := (List.getElem?_eq_some_iff.mp hd).1
  refine ⟨{
    len := by rw [List.length_set]; exact E.len
    bs := fun b hb => by
      by_cases z : b = a
      · subst z; exact ⟨_, upd_same⟩
      · rw [upd_ne z]; exact E.bs b hb
    zb := E.zb
    val := fun j d e => by
      by_cases h : i = j
      · subst h; rw [List.getElem?_set_self hi] at e; cases e
      · rw [List.getElem?_set_ne h] at e
        obtain ⟨v, q1, q2⟩ := E.val j d e
        exact ⟨v, q1, q2.pres p⟩
    bld := fun j fs e => by
      by_cases h : i = j
      · subst h; rw [List.getElem?_set_self hi] at e; cases e
        obtain ⟨b, zs, q1, q2, q3, _, _⟩ := E.bld i ds hd
        rw [hσ] at q1; cases q1
        exact ⟨a, ys, hσ, hB, q3, upd_same, r.pres p⟩
      · rw [List.getElem?_set_ne h] at e
        obtain ⟨b, zs, q1, q2, q3, q4, q5⟩ := E.bld j fs e
        have ne : b ≠ a := fun z => by subst z; exact h (E.dis i j b ds fs hd e hσ q1)
        exact ⟨b, zs, q1, q2, q3, by rw [upd_ne ne]; exact q4, q5.pres p⟩
    dis := fun j k b ds1 es1 e1 e2 e3 e4 => by
      have f1 : ∃ fs, δ[j]? = some (.bld fs) := by
        by_cases h : i = j
        · subst h; exact ⟨ds, hd⟩
        · rw [List.getElem?_set_ne h] at e1; exact ⟨_, e1⟩
      have f2 : ∃ fs, δ[k]? = some (.bld fs) := by
        by_cases h : i = k
        · subst h; exact ⟨ds, hd⟩
        · rw [List.getElem?_set_ne h] at e2; exact ⟨_, e2⟩
      obtain ⟨_, f1⟩ := f1
      obtain ⟨_, f2⟩ := f2
      exact E.dis j k b _ _ f1 f2 e3 e4 }, p⟩
theorem Ev.grow {Z B : List Addr} {H : Hp} {a : Addr} {o : HO} (zb : ∀ a ∈ Z, a ∈ B) (hZ : a ∉ Z) (p : Pres B H B (upd H a o)) : Ev Z B H B (upd H a o) :=
  ⟨p, fun b u e hb => ⟨by rw [upd_ne (fun (z : b = a) => hZ (by rw [← z]; exact hb))]; exact e, zb b hb⟩⟩
def bldAt (δ : DEnv) (i : Nat) : R (List D) := match δ[i]? with | some (.bld ds) => .ok ds | _ => .no
theorem bldAt_ok {δ : DEnv} {i : Nat} {ds : List D} (h : bldAt δ i = .ok ds) : δ[i]? = some (.bld ds) := by
  unfold bldAt at h
  split at h
  · rename_i q; cases h; exact q
  · cases h
/-- x.append(e) -/
def sApp (i : Nat) (f : FD) : FS := fun δ => (f δ).bind fun d => (bldAt δ i).bind fun ds => R.when (decide (ds.length < sizeLine)) (.ok (.nx (δ.set i (.bld (ds ++ [d])))))
theorem pds_app {i : Nat} {x : Str} {e : Expr} {f : FD} {npos apos cpos pos : Pos} (hN : X.N[i]? = some x) (hv : Vis X.env.scope x) (he : PD X e f)
    (hd : (x == ("__debug__" : Str)) = false := by decide) (hcd : (x == ("__classdict__" : Str)) = false := by decide)
    (hs : starEach [e] X.env = (false, eval e X.env) :: starEach [] X.env := by rfl) (hline : (apos.endLine == cpos.line) = true := by rfl)
    (hfew : ((backTo cpos (starEach [e] X.env)).all (fun x => !x.1) && (backToKw cpos (keywordEach [] X.env)).all (fun x => x.1.isSome)
      && decide (([e] : List Expr).length + ([] : List Keyword).length + (if ([] : List Keyword).isEmpty then 0 else 1) < 30)) = true := by rfl)
    (hsw : swapsWith (.Call (.Attribute (.Name x npos) "append" apos) [e] [] cpos) none pos.line X.env = pure false := by rfl)
    (hbase : attributeBase (.Name x npos) "append" X.env (eval (.Name x npos) X.env) = eval (.Name x npos) X.env := by rfl) :
    PDs X (.Expr (.Call (.Attribute (.Name x npos) "append" apos) [e] [] cpos) pos) (sApp i f) := by
  refine (ps_expr (pe_bm (X := X) PySem.F.plainAttrs_list PySem.F.slot_list_append PySem.F.type_list_append mt_append (pe_var hN hv hd hcd) (pa_cons he pa_nil hs) hbase hfew hline hs) hsw).imp fun D σ H ⟨Z, B, δ, o, E, hf, q⟩ => ?_
  obtain ⟨d, h1, h2⟩ := R.bind_ok hf
  obtain ⟨ds, h3, h4⟩ := R.bind_ok h2
  obtain ⟨hl, h5⟩ := R.when_ok h4
  cases h5
  have hb := bldAt_ok h3
  obtain ⟨a, xs, q1, q2, q3, q4, q5⟩ := E.bld i ds hb
  refine ⟨.ref a, q1, .inl ⟨rfl, xs, SqL.of q4⟩, ⟨Z, B, δ, d, E, h1, fun v H1 s1 r1 => ?_⟩⟩
  have E1 := E.same s1
  refine ⟨a, xs, v, rfl, rfl, s1 a _ q4, by rw [← q5.length]; exact of_decide_eq_true hl, ?_⟩
  obtain ⟨E2, p2⟩ := E1.grow (es := ds ++ [d]) (ys := xs ++ [v]) hb q1 q2 (s1 a _ q4) ((q5.same s1).append (Reps.cons r1 Reps.nil))
  exact q σ B _ ((Ev.same E.zb s1).trans (Ev.grow E.zb q3 p2)) E2
/-- x.extend(e), e a new list -/
def sExt (i : Nat) (f : DEnv → R (List D)) : FS := fun δ => (f δ).bind fun es => (bldAt δ i).bind fun ds => R.when (decide (ds.length + es.length ≤ sizeLine)) (.ok (.nx (δ.set i (.bld (ds ++ es)))))
theorem pds_ext {i : Nat} {x : Str} {e : Expr} {f : DEnv → R (List D)} {npos apos cpos pos : Pos} (hN : X.N[i]? = some x) (hv : Vis X.env.scope x) (he : PN X e f)
    (hd : (x == ("__debug__" : Str)) = false := by decide) (hcd : (x == ("__classdict__" : Str)) = false := by decide)
    (hs : starEach [e] X.env = (false, eval e X.env) :: starEach [] X.env := by rfl) (hline : (apos.endLine == cpos.line) = true := by rfl)
    (hfew : ((backTo cpos (starEach [e] X.env)).all (fun x => !x.1) && (backToKw cpos (keywordEach [] X.env)).all (fun x => x.1.isSome)
      && decide (([e] : List Expr).length + ([] : List Keyword).length + (if ([] : List Keyword).isEmpty then 0 else 1) < 30)) = true := by rfl)
    (hsw : swapsWith (.Call (.Attribute (.Name x npos) "extend" apos) [e] [] cpos) none pos.line X.env = pure false := by rfl)
    (hbase : attributeBase (.Name x npos) "extend" X.env (eval (.Name x npos) X.env) = eval (.Name x npos) X.env := by rfl) :
    PDs X (.Expr (.Call (.Attribute (.Name x npos) "extend" apos) [e] [] cpos) pos) (sExt i f) := by
  refine (ps_expr (pe_bm (X := X) PySem.F.plainAttrs_list PySem.F.slot_list_extend PySem.F.type_list_extend mt_extend (pe_var hN hv hd hcd) (pa_cons he pa_nil hs) hbase hfew hline hs) hsw).imp fun D σ H ⟨Z, B, δ, o, E, hf, q⟩ => ?_
  obtain ⟨es, h1, h2⟩ := R.bind_ok hf
  obtain ⟨ds, h3, h4⟩ := R.bind_ok h2
  obtain ⟨hl, h5⟩ := R.when_ok h4
  cases h5
  have hb := bldAt_ok h3
  obtain ⟨a, xs, q1, q2, q3, q4, q5⟩ := E.bld i ds hb
  refine ⟨.ref a, q1, .inl ⟨rfl, xs, SqL.of q4⟩, ⟨Z, B, δ, es, E, h1, fun b ys H1 s1 n e r => ?_⟩⟩
  have E1 := E.same s1
  have r' : Reps X.K B H1 es ys := r.pres fun b o e nb => ⟨e, fun hb => nb (List.mem_cons_of_mem _ hb)⟩
  refine ⟨a, b, xs, ys, rfl, rfl, s1 a _ q4, e, by rw [← q5.length, ← r'.length]; exact of_decide_eq_true hl, ?_⟩
  obtain ⟨E2, p2⟩ := E1.grow (es := ds ++ es) (ys := xs ++ ys) hb q1 q2 (s1 a _ q4) ((q5.same s1).append r')
  exact q σ B _ ((Ev.same E.zb s1).trans (Ev.grow E.zb q3 p2)) E2
/-- a list is built no more -/
def frz (i : Nat) (δ : DEnv) : DEnv := match δ[i]? with | some (.bld ds) => δ.set i (.val (.lst ds)) | _ => δ
theorem EnvR.frz {K : PySem.W.Frag} {Z B : List Addr} {H : Hp} {σ : St} {δ : DEnv} (E : EnvR K Z B H σ δ) (i : Nat) : ∃ B', Ev Z B H B' H ∧ EnvR K Z B' H σ (frz i δ) := by
  unfold L2.frz
  cases hd : δ[i]? with
  | none => exact ⟨B, Ev.refl Z B H E.zb, E⟩
  | some x =>
    cases x with
    | un => exact ⟨B, Ev.refl Z B H E.zb, E⟩
    | val d => exact ⟨B, Ev.refl Z B H E.zb, E⟩
    | bld ds =>
      obtain ⟨a, xs, q1, q2, q3, q4, q5⟩ := E.bld i ds hd
      have hi : i < δ.length := (List.getElem?_eq_some_iff.mp hd).1
      have p : Pres B H (B.filter fun b => decide (b ≠ a)) H := fun b o e nb => ⟨e, fun hb => nb (List.mem_filter.mp hb).1⟩
      have zb : ∀ b ∈ Z, b ∈ B.filter fun b => decide (b ≠ a) := fun b hb => List.mem_filter.mpr ⟨E.zb b hb, decide_eq_true fun z => q3 (z ▸ hb)⟩
      refine ⟨B.filter fun b => decide (b ≠ a), ⟨p, fun b o e hb => ⟨e, zb b hb⟩⟩, {
        len := by rw [List.length_set]; exact E.len
        bs := fun b hb => E.bs b (List.mem_filter.mp hb).1
        zb := zb
        val := fun j d e => by
          by_cases h : i = j
          · subst h; rw [List.getElem?_set_self hi] at e; cases e
            refine ⟨.ref a, q1, ?_⟩
            unfold Rep
            exact ⟨a, xs, rfl, .inl ⟨fun hb => by simpa using (List.mem_filter.mp hb).2, .inl q4⟩, q5.pres p⟩
          · rw [List.getElem?_set_ne h] at e
            obtain ⟨v, z1, z2⟩ := E.val j d e
            exact ⟨v, z1, z2.pres p⟩
        bld := fun j fs e => by
          by_cases h : i = j
          · subst h; rw [List.getElem?_set_self hi] at e; cases e
          · rw [List.getElem?_set_ne h] at e
            obtain ⟨b, zs, z1, z2, z3, z4, z5⟩ := E.bld j fs e
            exact ⟨b, zs, z1, List.mem_filter.mpr ⟨z2, decide_eq_true fun z => by subst z; exact h (E.dis i j b ds fs hd e q1 z1)⟩, z3, z4, z5.pres p⟩
        dis := fun j k b ds1 es1 e1 e2 e3 e4 => by
          by_cases h : i = j
          · subst h; rw [List.getElem?_set_self hi] at e1; cases e1
          · by_cases h' : i = k
            · subst h'; rw [List.getElem?_set_self hi] at e2; cases e2
            · rw [List.getElem?_set_ne h] at e1
              rw [List.getElem?_set_ne h'] at e2
              exact E.dis j k b ds1 es1 e1 e2 e3 e4 }⟩
def sFrz (i : Nat) (F : FS) : FS := fun δ => F (frz i δ)
theorem sFrz_r {K : PySem.W.Frag} {i : Nat} {F : FS} {D : Ends} {σ : St} {H : Hp} (h : sD K (sFrz i F) D σ H) : sD K F D σ H := by
  obtain ⟨Z, B, δ, o, E, hf, q⟩ := h
  obtain ⟨B1, ev, E1⟩ := E.frz i
  refine ⟨Z, B1, L2.frz i δ, o, E1, hf, ?_⟩
  cases o with
  | nx δ' => exact fun σ' B' H' ev' E' => q σ' B' H' (ev.trans ev') E'
  | rt d => exact fun v B' H' ev' z r => q v B' H' (ev.trans ev') z r
theorem pds_frz (i : Nat) {sts : List Stmt} {F : FS} (h : PDss X sts F) : PDss X sts (sFrz i F) := h.imp fun D σ H h => sFrz_r h
/-- e, dropped; return e; if -/
def sRet (f : FD) : FS := fun δ => (f δ).bind fun d => .ok (.rt d)
theorem pds_ret {e : Expr} {f : FD} {pos : Pos} (he : PD X e f) : PDs X (.Return (some e) pos) (sRet f) := (ps_ret he).imp fun D σ H ⟨Z, B, δ, o, E, hf, q⟩ => by
  obtain ⟨d, h1, h2⟩ := R.bind_ok hf
  cases h2
  exact ⟨Z, B, δ, d, E, h1, fun v H1 s1 r1 => q v B H1 (Ev.same E.zb s1) E.zb r1⟩
def sIf (c : DEnv → R Bool) (F G : FS) : FS := fun δ => (c δ).bind fun b => if b then F δ else G δ
theorem pds_if {c : Expr} {a b : List Stmt} {fc : DEnv → R Bool} {F G : FS} {pos : Pos} (hc : PB X c fc) (ha : PDss X a F) (hb : PDss X b G) : PDs X (.If c a b pos) (sIf fc F G) := (ps_if hc ha hb).imp fun D σ H ⟨Z, B, δ, o, E, hf, q⟩ => by
  obtain ⟨k, h1, h2⟩ := R.bind_ok hf
  refine ⟨Z, B, δ, k, E, h1, fun H1 s1 => ?_⟩
  have q' := q.ev (Ev.same E.zb s1)
  cases k with
  | true => rw [if_pos rfl] at h2; exact iteT ⟨Z, B, δ, o, E.same s1, h2, q'⟩
  | false => rw [if_neg (by decide)] at h2; exact iteF ⟨Z, B, δ, o, E.same s1, h2, q'⟩
theorem pds_never {st : Stmt} : PDs X st (fun _ => .no) := fun _ _ _ _ _ _ ⟨_, _, _, _, _, hf, _⟩ => by cases hf
theorem pdss_never {st : List Stmt} : PDss X st (fun _ => .no) := fun _ _ _ _ _ _ ⟨_, _, _, _, _, hf, _⟩ => by cases hf

/-! targets -/
abbrev FT := D → DEnv → R DEnv
def gD (K : PySem.W.Frag) (t : FT) : TG := fun v σ H Q => ∃ Z B δ d δ', EnvR K Z B H σ δ ∧ Rep K B H d v ∧ t d δ = .ok δ' ∧ ∀ σ' H', Same H H' → EnvR K Z B H' σ' δ' → σ'.length = σ.length → Q σ' H'
abbrev PTg (X : Cx) (tg : Expr) (t : FT) : Prop := PG X tg (gD X.K t)
def gNameD (i : Nat) : FT := fun d δ => R.when (decide (i < δ.length)) (.ok (δ.set i (.val d)))
theorem ptg_name {i : Nat} {x : Str} {pos : Pos} (hN : X.N.Nodup) (hi : X.N[i]? = some x) (hx : Loc X.env.scope x) (hf : X.fn x = true ∨ X.env.scope.names.lookup x = some .local := by first | exact .inl rfl | exact .inr rfl | assumption) : PTg X (.Name x pos) (gNameD i) :=
  (pg_name hN hi hx hf).imp fun v σ H Q ⟨Z, B, δ, d, δ', E, r, ht, q⟩ => by
    obtain ⟨hi, h⟩ := R.when_ok ht
    cases h
    exact q _ H (Same.refl H) (E.set (by rw [← E.len]; exact of_decide_eq_true hi) r) (List.length_set ..)
abbrev FTs := List D → DEnv → R DEnv
def gDs (K : PySem.W.Frag) (t : FTs) : TGs := fun vs σ H Q => ∃ Z B δ ds δ', EnvR K Z B H σ δ ∧ Reps K B H ds vs ∧ t ds δ = .ok δ' ∧ ∀ σ' H', Same H H' → EnvR K Z B H' σ' δ' → σ'.length = σ.length → Q σ' H'
abbrev PTgs (X : Cx) (ts : List Expr) (t : FTs) : Prop := PGs X ts (gDs X.K t)
theorem PGs.imp {X : Cx} {e : List Expr} {t t' : TGs} (h : PGs X e t) (w : ∀ v σ H Q, t' v σ H Q → t v σ H Q) : PGs X e t' := fun pins s σ H v u Q I r hq => h pins s σ H v u Q I r (w v σ H Q hq)
def gNilD : FTs := fun ds δ => match ds with | [] => .ok δ | _ => .no
def gConsD (t : FT) (u : FTs) : FTs := fun ds δ => match ds with | d :: r => (t d δ).bind fun δ' => u r δ' | [] => .no
theorem ptgs_nil : PTgs X [] gNilD := pgs_nil.imp fun vs σ H Q ⟨Z, B, δ, ds, δ', E, r, ht, q⟩ => by
  cases ds with
  | nil => unfold Reps at r; cases ht; exact ⟨r, q σ H (Same.refl H) E rfl⟩
  | cons => cases ht
theorem ptgs_cons {e : Expr} {es : List Expr} {t : FT} {u : FTs} (h1 : PTg X e t) (h2 : PTgs X es u) (hs : (assignEach (e :: es) X.env).map (·.2) = assign e X.env :: (assignEach es X.env).map (·.2) := by rfl) : PTgs X (e :: es) (gConsD t u) :=
  (pgs_cons h1 h2 hs).imp fun vs σ H Q ⟨Z, B, δ, ds, δ', E, r, ht, q⟩ => by
    cases ds with
    | nil => cases ht
    | cons d ds =>
      obtain ⟨x, xs, rfl, r1, r2⟩ := r.uncons
      obtain ⟨δ1, h1, h2⟩ := R.bind_ok ht
      exact ⟨x, xs, rfl, Z, B, δ, d, δ1, E, r1, h1, fun σ1 H1 s1 E1 l1 => ⟨Z, B, δ1, ds, δ', E1, r2.same s1, h2, fun σ2 H2 s2 E2 l2 => q σ2 H2 (s1.trans s2) E2 (l2.trans l1)⟩⟩
def gTupD (n : Nat) (t : FTs) : FT := fun d δ => match d with | .tup ds => R.when (decide (ds.length = n)) (t ds δ) | _ => .no
theorem ptg_tup {es : List Expr} {k : Nat} {t : FTs} {n : Nat} {pos : Pos} (hc : X.calm = true) (h : PTgs X es t) (hn : (assignEach es X.env).length = n := by rfl) (hst : (assignEach es X.env).findIdx? (·.1) = none := by rfl) : PTg X (.Tuple es k pos) (gTupD n t) :=
  (pg_tup hc h hn hst).imp fun v σ H Q ⟨Z, B, δ, d, δ', E, r, ht, q⟩ => by
    cases d with
    | tup ds =>
      unfold Rep at r
      obtain ⟨a, xs, rfl, l, r⟩ := r
      obtain ⟨hl, h⟩ := R.when_ok ht
      exact ⟨a, xs, rfl, l.sq, by rw [← r.length]; exact of_decide_eq_true hl, Z, B, δ, ds, δ', E, r, h, q⟩
    | _ => cases ht
/-- target = e -/
def sAsg (f : FD) (t : FT) : FS := fun δ => (f δ).bind fun d => (t d δ).bind fun δ' => .ok (.nx δ')
theorem pds_asg {tg e : Expr} {f : FD} {t : FT} {pos : Pos} (he : PD X e f) (hg : PTg X tg t) (hs : swapsWithSole [tg] e pos.line X.env = pure false := by rfl) (hw : swappedStores [tg] e X.env = pure none := by rfl)
    (h1 : (assignEach [tg] X.env).map (·.2) = [assign tg X.env] := by rfl) : PDs X (.Assign [tg] e pos) (sAsg f t) := (ps_asg he hg hs hw h1).imp fun D σ H ⟨Z, B, δ, o, E, hf, q⟩ => by
  obtain ⟨d, h1, h2⟩ := R.bind_ok hf
  obtain ⟨δ1, h3, h4⟩ := R.bind_ok h2
  cases h4
  exact ⟨Z, B, δ, d, E, h1, fun v H1 s1 r1 => ⟨Z, B, δ, d, δ1, E.same s1, r1, h3, fun σ' H2 s2 E2 _ => q σ' B H2 (Ev.same E.zb (s1.trans s2)) E2⟩⟩

/-! what is walked -/
/-- J yields what shows ds, as long as what is not built stands still -/
def ItRep (K : PySem.W.Frag) (B : List Addr) (H : Hp) (J : It) (ds : List D) : Prop := ∀ B' H', Pres B H B' H' → (∀ (i : Nat) (d : D), ds[i]? = some d → J.go i H' ∧ ∀ x H'', J.yld i H' x H'' → (∀ a ∈ B', ∃ o, H' a = some o) → Same H' H'' ∧ Rep K B' H'' d x) ∧ J.stop ds.length H'
def iD (K : PySem.W.Frag) (f : DEnv → R (List D)) : TI := fun σ H R => ∃ Z B δ ds, EnvR K Z B H σ δ ∧ f δ = .ok ds ∧ ∀ J H1, Same H H1 → ItRep K B H1 J ds → R J H1
abbrev PIt (X : Cx) (tg e : Expr) (f : DEnv → R (List D)) : Prop := PI X tg e (iD X.K f)
def itSeq (f : FD) : DEnv → R (List D) := fun δ => (f δ).bind fun d => match d with | .lst ds => .ok ds | .tup ds => .ok ds | _ => .no
theorem pit_seq {tg e : Expr} {f : FD} (h : PD X e f) : PIt X tg e (itSeq f) := by
  intro pins s σ H RR I ⟨Z, B, δ, ds, E, hf, q⟩
  obtain ⟨d, h1, h2⟩ := R.bind_ok hf
  refine thn (h pins s σ H (fun v H1 => Same H H1 ∧ Rep X.K B H1 d v) I ⟨Z, B, δ, d, E, h1, fun v H1 s1 r1 => ⟨s1, r1⟩⟩) fun v s1 ⟨x, H1, I1, r1, ss, rr⟩ => ?_
  cases d with
  | lst es =>
    cases h2
    unfold Rep at rr
    obtain ⟨a, xs, rfl, l, rr⟩ := rr
    cases r1
    obtain ⟨its, rv, p, hz⟩ := I1.list l.sq
    refine wpAny_pyIter_list p.isList ?_
    refine ⟨s1.heap.objs.size, [s1.heap.objs.size], _, _, H1, rfl, I1.kept (t' := s1.toks) fun b o e => Heap.get?_push_of_some _ e, turn_list a _, ⟨_, Heap.get?_push_size _ rfl, rfl, rfl⟩, fun b hb => ?_, q _ H1 ss fun B' H' pr => ?_⟩
    · have e : b = s1.heap.objs.size := by simpa using hb
      subst e
      exact I1.fpOk (Nat.le_refl _) (I1.hok.fresh (Nat.le_refl _))
    · have l' : LsF X.K B' H' a xs := l.pres pr
      have rr' := rr.pres pr
      refine ⟨fun i d hd => ?_, ⟨xs, l'.sq, by rw [rr.length]; exact Nat.le_refl _⟩⟩
      obtain ⟨x, hx, rx⟩ := rr'.get hd
      exact ⟨⟨xs, x, l'.sq, hx⟩, fun y H'' ⟨e1, e2⟩ _ => by
        subst e1
        have := e2 xs l'.sq
        rw [hx] at this
        cases this
        exact ⟨Same.refl _, rx⟩⟩
  | tup es =>
    cases h2
    unfold Rep at rr
    obtain ⟨a, xs, rfl, l, rr⟩ := rr
    cases r1
    obtain ⟨its, rv, p, hz⟩ := I1.tuple l.sq
    refine wpAny_pyIter_tuple (show s1.heap.IsTuple a its.toArray from p) ?_
    refine ⟨s1.heap.objs.size, [s1.heap.objs.size], _, _, H1, rfl, I1.kept (t' := s1.toks) fun b o e => Heap.get?_push_of_some _ e, turn_tuple a _, ⟨_, Heap.get?_push_size _ rfl, rfl, rfl⟩, fun b hb => ?_, q _ H1 ss fun B' H' pr => ?_⟩
    · have e : b = s1.heap.objs.size := by simpa using hb
      subst e
      exact I1.fpOk (Nat.le_refl _) (I1.hok.fresh (Nat.le_refl _))
    · have l' : TpF X.K B' H' a xs := l.elim (fun z => .inl ⟨(pr.rd z.2 z.1).2, (pr.rd z.2 z.1).1⟩) .inr
      have rr' := rr.pres pr
      refine ⟨fun i d hd => ?_, ⟨xs, l'.sq, by rw [rr.length]; exact Nat.le_refl _⟩⟩
      obtain ⟨x, hx, rx⟩ := rr'.get hd
      exact ⟨⟨xs, x, l'.sq, hx⟩, fun y H'' ⟨e1, e2⟩ _ => by
        subst e1
        have := e2 xs l'.sq
        rw [hx] at this
        cases this
        exact ⟨Same.refl _, rx⟩⟩
  | _ => cases h2
def rngD (lo : Int) (n : Nat) : List D := (List.range n).map fun (i : Nat) => D.int (lo + i)
theorem rng_it {K : PySem.W.Frag} {B : List Addr} {H : Hp} (lo : Int) (n : Nat) : ItRep K B H (Itr lo n) (rngD lo n) := fun B' H' _ => by
  refine ⟨fun i d hd => ?_, ?_⟩
  · unfold rngD at hd
    rw [List.getElem?_map] at hd
    cases e : (List.range n)[i]? with
    | none => rw [e] at hd; cases hd
    | some j =>
      rw [e] at hd
      cases hd
      obtain ⟨hi, ej⟩ := List.getElem?_eq_some_iff.mp e
      rw [List.getElem_range] at ej
      subst ej
      rw [List.length_range] at hi
      exact ⟨hi, fun x H'' ⟨e1, e2⟩ _ => by subst e1 e2; exact ⟨Same.refl _, by unfold Rep; rfl⟩⟩
  · show n ≤ (rngD lo n).length
    unfold rngD
    rw [List.length_map, List.length_range]
    exact Nat.le_refl _
def itRng1 (f : FD) : DEnv → R (List D) := fun δ => (f δ).bind fun d => match d with | .int j => R.when (decide (-(2 ^ 62) ≤ j ∧ j < 2 ^ 62)) (.ok (rngD 0 j.toNat)) | _ => .no
theorem pit_range1 {tg a : Expr} {f : FD} {p pos : Pos} (h : PD X a f) (hg : Gl X "range") (hm : X.mg "range" = none) (hs : starEach [a] X.env = [(false, eval a X.env)] := by rfl) : PIt X tg (.Call (.Name "range" p) [a] [] pos) (itRng1 f) :=
  (pi_range1 hg hm (pa_cons h pa_nil hs) hs).imp fun σ H RR ⟨Z, B, δ, ds, E, hf, q⟩ => by
    obtain ⟨d, h1, h2⟩ := R.bind_ok hf
    cases d with
    | int j =>
      obtain ⟨hb, h3⟩ := R.when_ok h2
      cases h3
      have hb := of_decide_eq_true hb
      refine ⟨Z, B, δ, .int j, E, h1, fun v H1 s1 r1 => ⟨j, ?_, hb.1, hb.2, q _ H1 s1 (rng_it 0 _)⟩⟩
      unfold Rep at r1
      rw [r1]
    | _ => cases h2
def itRng2 (f g : FD) : DEnv → R (List D) := fun δ => (f δ).bind fun d => (g δ).bind fun e => match d, e with
  | .int i, .int j => R.when (decide (-(2 ^ 62) ≤ i ∧ i < 2 ^ 62 ∧ -(2 ^ 62) ≤ j ∧ j < 2 ^ 62)) (.ok (rngD i (j - i).toNat)) | _, _ => .no
theorem pit_range2 {tg a b : Expr} {f g : FD} {p pos : Pos} (h : PD X a f) (h' : PD X b g) (hg : Gl X "range") (hm : X.mg "range" = none) (hs : starEach [a, b] X.env = [(false, eval a X.env), (false, eval b X.env)] := by rfl) (hs2 : starEach [b] X.env = [(false, eval b X.env)] := by rfl) :
    PIt X tg (.Call (.Name "range" p) [a, b] [] pos) (itRng2 f g) :=
  (pi_range2 hg hm (pa_cons h (pa_cons h' pa_nil hs2) (by rw [hs, hs2])) hs hs2).imp fun σ H RR ⟨Z, B, δ, ds, E, hf, q⟩ => by
    obtain ⟨d, h1, h2⟩ := R.bind_ok hf
    obtain ⟨d2, h3, h4⟩ := R.bind_ok h2
    split at h4
    · rename_i i j
      obtain ⟨hb, h5⟩ := R.when_ok h4
      cases h5
      have hb := of_decide_eq_true hb
      refine ⟨Z, B, δ, .int i, E, h1, fun v H1 s1 r1 => ⟨Z, B, δ, .int j, E.same s1, h3, fun v2 H2 s2 r2 => ⟨i, j, ?_, hb, q _ H2 (s1.trans s2) (rng_it i _)⟩⟩⟩
      unfold Rep at r1 r2
      rw [r1, r2]
    · cases h4

/-! for -/
def loopD (t : FT) (body : FS) : List D → FS
  | [], δ => .ok (.nx δ)
  | d :: ds, δ => (t d δ).bind fun δ1 => (body δ1).bind fun o => match o with | .nx δ2 => loopD t body ds δ2 | .rt r => .ok (.rt r)
def sFor (it : DEnv → R (List D)) (t : FT) (body : FS) : FS := fun δ => (it δ).bind fun ds => loopD t body ds δ
theorem pds_for {tg iter : Expr} {body : List Stmt} {it : DEnv → R (List D)} {t : FT} {F : FS} {pos : Pos} (hp : PassesOwn (model X.prog X.w) X.A X.env X.xe) (hc : X.calm = true) (hi : PIt X tg iter it) (hg : PTg X tg t) (hb : PDss X body F)
    (hs : ∀ x, foldedSetIterable iter X.env x = pure x := by intro _; rfl) : PDs X (.For tg iter body [] pos) (sFor it t F) := (ps_for hp hc hi hg hb hs).imp fun D σ H ⟨Z, B, δ, o, E, hf, q⟩ => by
  obtain ⟨ds, h1, h2⟩ := R.bind_ok hf
  refine ⟨Z, B, δ, ds, E, h1, fun J H1 s1 ir => ?_⟩
  refine ⟨fun i m σ' H' => m = ds.length - i ∧ i ≤ ds.length ∧ ∃ B' δ', Ev Z B H1 B' H' ∧ EnvR X.K Z B' H' σ' δ' ∧ loopD t F (ds.drop i) δ' = .ok o, ⟨ds.length, rfl, Nat.zero_le _, B, δ, Ev.refl Z B H1 E.zb, E.same s1, by simpa using h2⟩, ?_⟩
  rintro i m σ' H' ⟨rfl, hi, B', δ', ev, E', hl⟩
  obtain ⟨go, stop⟩ := ir B' H' ev.pres
  by_cases hlt : i < ds.length
  · have hd : ds[i]? = some ds[i] := List.getElem?_eq_getElem hlt
    have hdrop : ds.drop i = ds[i] :: ds.drop (i + 1) := List.drop_eq_getElem_cons hlt
    rw [hdrop] at hl
    obtain ⟨δ1, h3, h4⟩ := R.bind_ok hl
    obtain ⟨o1, h5, h6⟩ := R.bind_ok h4
    obtain ⟨g1, g2⟩ := go i _ hd
    refine .inr ⟨g1, fun σ2 H2 => ∃ B2 δ2, Ev Z B H1 B2 H2 ∧ EnvR X.K Z B2 H2 σ2 δ2 ∧ loopD t F (ds.drop (i + 1)) δ2 = .ok o, fun σ2 H2 n => ⟨ds.length - (i + 1), by omega, rfl, hlt, n⟩, fun x H'' y => ?_⟩
    obtain ⟨ss, rr⟩ := g2 x H'' y E'.bs
    refine ⟨Z, B', δ', ds[i], δ1, E'.same ss, rr, h3, fun σ2 H2 s2 E2 l2 => ⟨Z, B', δ1, o1, E2, h5, ?_⟩⟩
    have ev2 : Ev Z B H1 B' H2 := ev.trans (Ev.same E'.zb (ss.trans s2))
    cases o1 with
    | nx δ2 => exact fun σ3 B3 H3 ev3 E3 => ⟨B3, δ2, ev2.trans ev3, E3, h6⟩
    | rt d =>
      cases h6
      exact fun v B3 H3 ev3 z r => q v B3 H3 ((Ev.same E.zb s1).trans (ev2.trans ev3)) z r
  · have e : i = ds.length := by omega
    subst e
    rw [List.drop_length] at hl
    cases hl
    exact .inl ⟨stop, q σ' B' H' ((Ev.same E.zb s1).trans ev) E'⟩
/-! while, by fuel -/
def whileD (c : DEnv → R Bool) (body : FS) : Nat → FS
  | 0, _ => .no
  | n + 1, δ => (c δ).bind fun b => if b then (body δ).bind fun o => match o with | .nx δ2 => whileD c body n δ2 | .rt r => .ok (.rt r) else .ok (.nx δ)
def sWhile (n : Nat) (c : DEnv → R Bool) (body : FS) : FS := fun δ => whileD c body n δ
theorem pds_while (n : Nat) {c : Expr} {body : List Stmt} {fc : DEnv → R Bool} {F : FS} {pos : Pos} (hp : PassesOwn (model X.prog X.w) X.A X.env X.xe) (hc : PB X c fc) (hb : PDss X body F) : PDs X (.While c body [] pos) (sWhile n fc F) :=
  (ps_while hp hc hb).imp fun D σ H ⟨Z, B, δ, o, E, hf, q⟩ => by
    refine ⟨fun m σ' H' => ∃ B' δ', Ev Z B H B' H' ∧ EnvR X.K Z B' H' σ' δ' ∧ whileD fc F m δ' = .ok o, ⟨n, B, δ, Ev.refl Z B H E.zb, E, hf⟩, ?_⟩
    rintro m σ' H' ⟨B', δ', ev, E', hw⟩
    cases m with
    | zero => cases hw
    | succ m =>
      obtain ⟨b, h1, h2⟩ := R.bind_ok hw
      refine ⟨Z, B', δ', b, E', h1, fun H1 s1 => ?_⟩
      have ev1 : Ev Z B H B' H1 := ev.trans (Ev.same E'.zb s1)
      cases b with
      | false =>
        rw [if_neg (by decide)] at h2
        cases h2
        exact iteF (q σ' B' H1 ev1 (E'.same s1))
      | true =>
        rw [if_pos rfl] at h2
        obtain ⟨o1, h3, h4⟩ := R.bind_ok h2
        refine iteT ⟨fun σ2 H2 => ∃ B2 δ2, Ev Z B H B2 H2 ∧ EnvR X.K Z B2 H2 σ2 δ2 ∧ whileD fc F m δ2 = .ok o, fun σ2 H2 n => ⟨m, Nat.lt_succ_self _, n⟩, Z, B', δ', o1, E'.same s1, h3, ?_⟩
        cases o1 with
        | nx δ2 => exact fun σ3 B3 H3 ev3 E3 => ⟨B3, δ2, ev1.trans ev3, E3, h4⟩
        | rt d =>
          cases h4
          exact fun v B3 H3 ev3 z r => q v B3 H3 (ev1.trans ev3) z r

/-! comprehensions -/
def keepD (δ : DEnv) (i : Nat) : Sl := match δ[i]? with | some (.val d) => .val d | _ => .un
def cEnv (own : List Str) (kp : List Nat) (δ : DEnv) : DEnv := List.replicate own.length .un ++ kp.map (keepD δ)
def compL (t : FT) (c : DEnv → R Bool) (f : FD) (δ : DEnv) : List D → R (List D)
  | [] => .ok []
  | d :: ds => (t d δ).bind fun δ1 => (c δ1).bind fun b => if b then (f δ1).bind fun y => (compL t c f δ ds).bind fun ys => .ok (y :: ys) else compL t c f δ ds
def nComp (it : DEnv → R (List D)) (t : FT) (c : DEnv → R Bool) (f : FD) (own : List Str) (kp : List Nat) : DEnv → R (List D) := fun δ => (it δ).bind fun ds => R.when (decide (ds.length ≤ sizeLine)) (compL t c f (cEnv own kp δ) ds)
theorem cEnv_r {K : PySem.W.Frag} {Z B B' : List Addr} {H H' : Hp} {σ : St} {δ : DEnv} {own : List Str} {kp : List Nat} (E : EnvR K Z B H σ δ) (p : Pres B H B' H') (hB : ∀ a ∈ B', ∃ o, H' a = some o) : EnvR K [] B' H' (cStart own kp σ) (cEnv own kp δ) where
  len := by unfold cStart cEnv; simp
  bs := hB
  zb := fun a ha => by cases ha
  val := fun i d e => by
    unfold cEnv at e
    unfold cStart
    by_cases hi : i < own.length
    · rw [List.getElem?_append_left (by simpa using hi), List.getElem?_replicate] at e
      split at e <;> cases e
    · rw [List.getElem?_append_right (by simpa using hi), List.length_replicate, List.getElem?_map] at e ⊢
      cases q : kp[i - own.length]? with
      | none => rw [q] at e; cases e
      | some j =>
        rw [q] at e
        have e : keepD δ j = .val d := Option.some.inj e
        unfold keepD at e
        split at e
        · rename_i d' ed
          cases e
          obtain ⟨v, h1, h2⟩ := E.val j d ed
          exact ⟨v, by simp [h1], h2.pres p⟩
        · cases e
  bld := fun i ds e => by
    unfold cEnv at e
    by_cases hi : i < own.length
    · rw [List.getElem?_append_left (by simpa using hi), List.getElem?_replicate] at e
      split at e <;> cases e
    · rw [List.getElem?_append_right (by simpa using hi), List.length_replicate, List.getElem?_map] at e
      cases q : kp[i - own.length]? with
      | none => rw [q] at e; cases e
      | some j =>
        rw [q] at e
        have e : keepD δ j = .bld ds := Option.some.inj e
        unfold keepD at e
        split at e <;> cases e
  dis := fun i j a ds es e => by
    unfold cEnv at e
    by_cases hi : i < own.length
    · rw [List.getElem?_append_left (by simpa using hi), List.getElem?_replicate] at e
      split at e <;> cases e
    · rw [List.getElem?_append_right (by simpa using hi), List.length_replicate, List.getElem?_map] at e
      cases q : kp[i - own.length]? with
      | none => rw [q] at e; cases e
      | some j =>
        rw [q] at e
        have e : keepD δ j = .bld ds := Option.some.inj e
        unfold keepD at e
        split at e <;> cases e
theorem nComp_r {K : PySem.W.Frag} {it : DEnv → R (List D)} {t : FT} {c : DEnv → R Bool} {f : FD} {own : List Str} {kp : List Nat} {σ : St} {H : Hp} {Q : VK} (h : tN K (nComp it t c f own kp) σ H Q) :
    tComp (iD K it) (gD K t) (tTD K c) (tD K f) own kp σ H Q := by
  obtain ⟨Z, B, δ, ds, E, hf, q⟩ := h
  obtain ⟨es, h1, h2⟩ := R.bind_ok hf
  obtain ⟨hl, h3⟩ := R.when_ok h2
  have hl := of_decide_eq_true hl
  refine ⟨Z, B, δ, es, E, h1, fun J H1 s1 ir Dd hD => ?_⟩
  have E1 := E.same s1
  have pD : Pres B H1 (Dd :: B) (upd H1 Dd (.lst [])) := pres_new hD
  refine ⟨fun i m ys H' => m = es.length - i ∧ i ≤ es.length ∧ ys.length ≤ i ∧ H' Dd = some (.lst ys) ∧ Same H1 H' ∧ ∃ done rest, ds = done ++ rest ∧ Reps K (Dd :: B) H' done ys ∧ compL t c f (cEnv own kp δ) (es.drop i) = .ok rest,
    ⟨es.length, rfl, Nat.zero_le _, Nat.le_refl _, upd_same, same_upd hD, [], ds, rfl, Reps.nil, by simpa using h3⟩, ?_⟩
  rintro i m ys H' ⟨rfl, hi, hy, hDl, ss, done, rest, rfl, rd, hc⟩
  have dB : Dd ∉ B := fun hb => by obtain ⟨o, ho⟩ := E1.bs Dd hb; rw [hD] at ho; cases ho
  have p' : Pres B H1 (Dd :: B) H' := fun b o e nb => ⟨ss b o e, fun hb => by
    rcases List.mem_cons.mp hb with z | z
    · exact ne_of_none e hD z
    · exact nb z⟩
  have hB' : ∀ a ∈ Dd :: B, ∃ o, H' a = some o := fun a ha => by
    rcases List.mem_cons.mp ha with z | z
    · subst z; exact ⟨_, hDl⟩
    · obtain ⟨o, ho⟩ := E1.bs a z; exact ⟨o, ss a o ho⟩
  obtain ⟨go, stop⟩ := ir (Dd :: B) H' p'
  by_cases hlt : i < es.length
  · have hd : es[i]? = some es[i] := List.getElem?_eq_getElem hlt
    have hdrop : es.drop i = es[i] :: es.drop (i + 1) := List.drop_eq_getElem_cons hlt
    rw [hdrop] at hc
    obtain ⟨δ1, h4, h5⟩ := R.bind_ok hc
    obtain ⟨b, h6, h7⟩ := R.bind_ok h5
    obtain ⟨g1, g2⟩ := go i _ hd
    refine .inr ⟨g1, fun x H2 y => ?_⟩
    obtain ⟨sy, ry⟩ := g2 x H2 y hB'
    have Ec : EnvR K [] (Dd :: B) H2 (cStart own kp σ) (cEnv own kp δ) := cEnv_r E1 (p'.trans (Pres.same sy)) fun a ha => let ⟨o, ho⟩ := hB' a ha; ⟨o, sy a o ho⟩
    refine ⟨[], Dd :: B, cEnv own kp δ, es[i], δ1, Ec, ry, h4, fun σ3 H3 s3 E3 _ => ⟨[], Dd :: B, δ1, b, E3, h6, fun H4 s4 => ?_⟩⟩
    have sAll : Same H' H4 := sy.trans (s3.trans s4)
    cases b with
    | true =>
      rw [if_pos rfl] at h7
      refine iteT ?_
      obtain ⟨yv, h8, h9⟩ := R.bind_ok h7
      obtain ⟨rs, h10, h11⟩ := R.bind_ok h9
      cases h11
      refine ⟨[], Dd :: B, δ1, yv, E3.same s4, h8, fun v H5 s5 r5 => ?_⟩
      have s' : Same H' H5 := sAll.trans s5
      have hD5 : H5 Dd = some (.lst ys) := s' Dd _ hDl
      have pu : Pres (Dd :: B) H5 (Dd :: B) (upd H5 Dd (.lst (ys ++ [v]))) := fun b o e nb => ⟨by rw [upd_ne (fun (z : b = Dd) => nb (by rw [z]; exact List.mem_cons_self))]; exact e, nb⟩
      refine ⟨hD5, by omega, es.length - (i + 1), by omega, rfl, hlt, by rw [List.length_append, List.length_singleton]; omega, upd_same, fun b o e => ?_, done ++ [yv], rs, by simp, ((rd.same s').append (Reps.cons r5 Reps.nil)).pres pu, h10⟩
      rw [upd_ne (ne_of_none e hD)]
      exact s' b o (ss b o e)
    | false =>
      rw [if_neg (by decide)] at h7
      refine iteF ?_
      exact ⟨es.length - (i + 1), by omega, rfl, hlt, by omega, sAll Dd _ hDl, ss.trans sAll, done, rest, rfl, rd.same sAll, h7⟩
  · have e : i = es.length := by omega
    subst e
    rw [List.drop_length] at hc
    cases hc
    rw [List.append_nil] at q
    exact .inl ⟨stop, q Dd ys H' (s1.trans ss) (s1.free hD) hDl rd⟩
theorem pn_comp {scope : Scope} {own : List Str} {kp : List Nat} {kn : List Str} {tg iter elt : Expr} {ifs : List Expr} {it : DEnv → R (List D)} {t : FT} {c : DEnv → R Bool} {f : FD} {pos : Pos} (hc : X.calm = true) (C : CScope X scope own kp kn) (hi : PIt X tg iter it)
    (hg : ∀ fp s H, PTg (cxComp X scope (own ++ kn) fp s H) tg t) (hif : ∀ fp s H, PIfs (cxComp X scope (own ++ kn) fp s H) ifs (tTD X.K c)) (he : ∀ fp s H, PD (cxComp X scope (own ++ kn) fp s H) elt f)
    (hs : ∀ x, foldedSetIterable iter X.env x = pure x := by intro _; rfl) : PN X (.ListComp elt [⟨tg, iter, ifs, 0⟩] scope pos) (nComp it t c f own kp) :=
  (pe_comp hc C hi hg hif he hs).imp fun σ H Q h => nComp_r h
def cYes : DEnv → R Bool := fun _ => .ok true
theorem pifs_yes : PIfs X [] (tTD X.K cYes) := fun pins s σ H Q I ⟨Z, B, δ, b, E, hf, q⟩ => pifs_nil pins s σ H Q I (by cases hf; exact q H (Same.refl H))
theorem pifs_if {e : Expr} {c : DEnv → R Bool} (h : PB X e c) : PIfs X [e] (tTD X.K c) := pifs_one h
/-- name = [..] where the name is a plain local -/
theorem pds_setComp {i : Nat} {x : Str} {pos' spos : Pos} {scope : Scope} {own : List Str} {kp : List Nat} {kn : List Str} {tg iter elt : Expr} {ifs : List Expr} {it : DEnv → R (List D)} {t : FT} {c : DEnv → R Bool} {f : FD} {pos : Pos} (hc : X.calm = true)
    (hN : X.N.Nodup) (hx : X.N[i]? = some x) (hxl : X.env.scope.names.lookup x = some .local) (C : CScope X scope own kp kn) (hi : PIt X tg iter it)
    (hg : ∀ fp s H, PTg (cxComp X scope (own ++ kn) fp s H) tg t) (hif : ∀ fp s H, PIfs (cxComp X scope (own ++ kn) fp s H) ifs (tTD X.K c)) (he : ∀ fp s H, PD (cxComp X scope (own ++ kn) fp s H) elt f)
    (hsw : swapsWith (.ListComp elt [⟨tg, iter, ifs, 0⟩] scope pos) (some (.Name x pos')) spos.line X.env = pure true := by rfl)
    (hs : ∀ x, foldedSetIterable iter X.env x = pure x := by intro _; rfl) : PDs X (.Assign [.Name x pos'] (.ListComp elt [⟨tg, iter, ifs, 0⟩] scope pos) spos) (sSet i (eNew (nComp it t c f own kp))) :=
  (ps_setComp hc hN hx hxl C hi hg hif he hsw hs).imp fun D σ H h => by
    have h1 := sSet_r h
    obtain ⟨Z, B, δ, d, E, hf, q⟩ := h1
    obtain ⟨ds, h2, h3⟩ := R.bind_ok hf
    cases h3
    refine nComp_r ⟨Z, B, δ, ds, E, h2, fun a xs H' s n e r => q _ H' s ?_⟩
    unfold Rep
    refine ⟨a, xs, rfl, .inl ⟨fun ha => ?_, .inl e⟩, r.pres fun b o e nb => ⟨e, fun hb => nb (List.mem_cons_of_mem _ hb)⟩⟩
    obtain ⟨o, ho⟩ := E.bs a ha
    rw [n] at ho; cases ho
theorem pds_bldComp {i : Nat} {x : Str} {pos' spos : Pos} {scope : Scope} {own : List Str} {kp : List Nat} {kn : List Str} {tg iter elt : Expr} {ifs : List Expr} {it : DEnv → R (List D)} {t : FT} {c : DEnv → R Bool} {f : FD} {pos : Pos} (hc : X.calm = true)
    (hN : X.N.Nodup) (hx : X.N[i]? = some x) (hxl : X.env.scope.names.lookup x = some .local) (C : CScope X scope own kp kn) (hi : PIt X tg iter it)
    (hg : ∀ fp s H, PTg (cxComp X scope (own ++ kn) fp s H) tg t) (hif : ∀ fp s H, PIfs (cxComp X scope (own ++ kn) fp s H) ifs (tTD X.K c)) (he : ∀ fp s H, PD (cxComp X scope (own ++ kn) fp s H) elt f)
    (hsw : swapsWith (.ListComp elt [⟨tg, iter, ifs, 0⟩] scope pos) (some (.Name x pos')) spos.line X.env = pure true := by rfl)
    (hs : ∀ x, foldedSetIterable iter X.env x = pure x := by intro _; rfl) : PDs X (.Assign [.Name x pos'] (.ListComp elt [⟨tg, iter, ifs, 0⟩] scope pos) spos) (sBld i (nComp it t c f own kp)) :=
  (ps_setComp hc hN hx hxl C hi hg hif he hsw hs).imp fun D σ H h => nComp_r (sBld_r h)

end

/-! defs -/
def dStart (N : List Str) (ds : List D) : DEnv := ds.map .val ++ List.replicate (N.length - ds.length) .un
def fnD (N : List Str) (F : FS) : List D → R D := fun ds => (F (dStart N ds)).bind fun o => match o with | .rt d => .ok d | .nx _ => .ok .non
theorem start_r {K : PySem.W.Frag} {B : List Addr} {H : Hp} {N : List Str} {ds : List D} {vs : List V} (hB : ∀ a ∈ B, ∃ o, H a = some o) (r : Reps K B H ds vs) : EnvR K B B H (start N vs) (dStart N ds) where
  len := by unfold start dStart; simp [r.length]
  bs := hB
  zb := fun a ha => ha
  val := fun i d e => by
    unfold dStart at e
    unfold start
    by_cases hi : i < ds.length
    · rw [List.getElem?_append_left (by simpa using hi), List.getElem?_map] at e
      cases q : ds[i]? with
      | none => rw [q] at e; cases e
      | some d' =>
        rw [q] at e
        cases e
        obtain ⟨x, h1, h2⟩ := r.get q
        exact ⟨x, by rw [List.getElem?_append_left (by rw [List.length_map, ← r.length]; exact hi), List.getElem?_map, h1]; rfl, h2⟩
    · rw [List.getElem?_append_right (by simpa using hi), List.getElem?_replicate] at e
      split at e <;> cases e
  bld := fun i es e => by
    unfold dStart at e
    by_cases hi : i < ds.length
    · rw [List.getElem?_append_left (by simpa using hi), List.getElem?_map] at e
      cases q : ds[i]? with
      | none => rw [q] at e; cases e
      | some d' => rw [q] at e; cases e
    · rw [List.getElem?_append_right (by simpa using hi), List.getElem?_replicate] at e
      split at e <;> cases e
  dis := fun i j a es fs e => by
    unfold dStart at e
    by_cases hi : i < ds.length
    · rw [List.getElem?_append_left (by simpa using hi), List.getElem?_map] at e
      cases q : ds[i]? with
      | none => rw [q] at e; cases e
      | some d' => rw [q] at e; cases e
    · rw [List.getElem?_append_right (by simpa using hi), List.getElem?_replicate] at e
      split at e <;> cases e
/-- THE RULE for a pure def -/
theorem fn_pure {P : Program} {w : World} {K : PySem.W.Frag} {mg : Str → Option Value} {base : Heap} {x qual : Str} {st : Stmt} {f : Addr} {fd : FuncData} {N ps : List Str} {k : Nat} {F : FS} (Fn : Fun K x qual st f fd) (S : FnScope N ps (defScope st))
    (hbody : ∀ (cdv : Value) (A : Around) (outer : List Env) (s : Shared) (H : Hp) (E : XK), Room k (A.deeper (envOfC qual (defScope st) s.heap.objs.size f cdv)) →
      PDss (cxOf CX0 P w K mg base N qual (defScope st) f cdv A outer s H E).nox (defBody st) F) : FnOk P w K mg base CX0 (k + 1) f fd ps (spD K ps.length (fnD N F)) := by
  refine Fn.ok S (fun vs H Q E h => h.1) (fun cdv A outer s H vs Q E hr h => ⟨_, hbody cdv A outer s H E hr, ?_⟩)
  obtain ⟨_, B, ds, d, hB, r, hg, q⟩ := h
  obtain ⟨o, h1, h2⟩ := R.bind_ok hg
  refine ⟨B, B, dStart N ds, o, start_r hB r, h1, ?_⟩
  have sm : ∀ {B' : List Addr} {H' : Hp}, Ev B B H B' H' → Same H H' := fun {B' H'} ev b u e => by
    by_cases hb : b ∈ B
    · exact (ev.zs b u e hb).1
    · exact (ev.pres b u e hb).1
  cases o with
  | nx δ' =>
    cases h2
    exact fun σ' B' H' ev _ => q _ H' (sm ev) (by unfold Rep; rfl)
  | rt d' =>
    cases h2
    exact fun v B' H' ev z rr => q v H' (sm ev) (rr.pres fun b o e nb => ⟨e, fun hb => nb (z b hb)⟩)
end L2

end
section
set_option maxRecDepth 100000
set_option maxHeartbeats 4000000
/-! ## THE DATUM LAYER: operations (own) -/
namespace L2
open PySem PySem.Spec PyProof.Rows

theorem Rep.int {K : PySem.W.Frag} {B : List Addr} {H : Hp} {i : Int} {v : V} : Rep K B H (.int i) v ↔ v = .int i := by unfold Rep; exact Iff.rfl
theorem Rep.bl {K : PySem.W.Frag} {B : List Addr} {H : Hp} {i : Bool} {v : V} : Rep K B H (.bl i) v ↔ v = .bl i := by unfold Rep; exact Iff.rfl
theorem Rep.str {K : PySem.W.Frag} {B : List Addr} {H : Hp} {i : Str} {v : V} : Rep K B H (.str i) v ↔ v = .str i := by unfold Rep; exact Iff.rfl
theorem Rep.non {K : PySem.W.Frag} {B : List Addr} {H : Hp} {v : V} : Rep K B H .non v ↔ v = .non := by unfold Rep; exact Iff.rfl
theorem Rep.lst {K : PySem.W.Frag} {B : List Addr} {H : Hp} {ds : List D} {v : V} : Rep K B H (.lst ds) v ↔ ∃ a xs, v = .ref a ∧ LsF K B H a xs ∧ Reps K B H ds xs := by rw [Rep]
theorem Rep.tup {K : PySem.W.Frag} {B : List Addr} {H : Hp} {ds : List D} {v : V} : Rep K B H (.tup ds) v ↔ ∃ a xs, v = .ref a ∧ TpF K B H a xs ∧ Reps K B H ds xs := by rw [Rep]

section
variable {X : Cx}
theorem OpD.of {f : Value → Value → Sem Value} {r : R2} {g : D → D → R D} (h : OpR X f r)
    (w : ∀ (B : List Addr) (H : Hp) (da db d : D) (x y : V) (Q : VK), (∀ a ∈ B, ∃ o, H a = some o) → Rep X.K B H da x → Rep X.K B H db y → g da db = .ok d → (∀ z H', Same H H' → Rep X.K B H' d z → Q z H') → r x y H Q) : OpD X f g := by
  intro pins s σ H B da db d x y v u I hb rx ry ra rb hg
  exact h pins s σ H x y v u _ I rx ry (w B H da db d x y _ hb ra rb hg fun z H' s1 r1 => ⟨s1, r1⟩)
theorem OpD.or {f : Value → Value → Sem Value} {g g1 g2 : D → D → R D} (h1 : OpD X f g1) (h2 : OpD X f g2) (e : ∀ a b d, g a b = .ok d → g1 a b = .ok d ∨ g2 a b = .ok d) : OpD X f g := by
  intro pins s σ H B da db d x y v u I hb rx ry ra rb hg
  rcases e da db d hg with q | q
  · exact h1 pins s σ H B da db d x y v u I hb rx ry ra rb q
  · exact h2 pins s σ H B da db d x y v u I hb rx ry ra rb q
theorem CallD.of {f : Value} {r : List V → Hp → VK → Prop} {g : List D → R D} (h : CallR X f r)
    (w : ∀ (B : List Addr) (H : Hp) (ds : List D) (d : D) (xs : List V) (Q : VK), (∀ a ∈ B, ∃ o, H a = some o) → Reps X.K B H ds xs → g ds = .ok d → (∀ z H', Same H H' → Rep X.K B H' d z → Q z H') → r xs H Q) : CallD X f g := by
  intro pins s σ H B ds d xs us I hb rx rs hg
  exact h pins s σ H xs us _ I rx (w B H ds d xs _ hb rs hg fun z H' s1 r1 => ⟨s1, r1⟩)
theorem CallD.or {f : Value} {g g1 g2 : List D → R D} (h1 : CallD X f g1) (h2 : CallD X f g2) (e : ∀ a d, g a = .ok d → g1 a = .ok d ∨ g2 a = .ok d) : CallD X f g := by
  intro pins s σ H B ds d xs us I hb rx rs hg
  rcases e ds d hg with q | q
  · exact h1 pins s σ H B ds d xs us I hb rx rs q
  · exact h2 pins s σ H B ds d xs us I hb rx rs q

/-! ints -/
def dII (C : Int → Int → Bool) (g : Int → Int → Int) : D → D → R D
  | .int i, .int j => R.when (C i j) (.ok (.int (g i j)))
  | _, _ => .no
theorem op_II {f : Value → Value → Sem Value} {C : Int → Int → Bool} {Cp : Int → Int → Prop} {g : Int → Int → Int} (h : OpR X f (rI Cp fun i j => .int (g i j))) (hc : ∀ i j, C i j = true → Cp i j) : OpD X f (dII C g) :=
  OpD.of h fun B H da db d x y Q _ ra rb hg q => by
    unfold dII at hg
    split at hg
    · obtain ⟨h1, h2⟩ := R.when_ok hg
      cases h2
      exact ⟨_, _, Rep.int.mp ra, Rep.int.mp rb, hc _ _ h1, q _ H (Same.refl H) (Rep.int.mpr rfl)⟩
    · cases hg
def dII0 (g : Int → Int → Int) : D → D → R D
  | .int i, .int j => .ok (.int (g i j))
  | _, _ => .no
theorem op_II0 {f : Value → Value → Sem Value} {g : Int → Int → Int} (h : OpR X f (rI0 fun i j => .int (g i j))) : OpD X f (dII0 g) :=
  OpD.of h fun B H da db d x y Q _ ra rb hg q => by
    unfold dII0 at hg
    split at hg
    · cases hg
      exact ⟨_, _, Rep.int.mp ra, Rep.int.mp rb, q _ H (Same.refl H) (Rep.int.mpr rfl)⟩
    · cases hg
def dIB (g : Int → Int → Bool) : D → D → R D
  | .int i, .int j => .ok (.bl (g i j))
  | _, _ => .no
theorem op_IB {f : Value → Value → Sem Value} {g : Int → Int → Bool} (h : OpR X f (rI0 fun i j => .bl (g i j))) : OpD X f (dIB g) :=
  OpD.of h fun B H da db d x y Q _ ra rb hg q => by
    unfold dIB at hg
    split at hg
    · cases hg
      exact ⟨_, _, Rep.int.mp ra, Rep.int.mp rb, q _ H (Same.refl H) (Rep.bl.mpr rfl)⟩
    · cases hg
abbrev dSub : D → D → R D := dII0 fun i j => i - j
theorem o_sub : OpD X (binaryOp .Sub) dSub := op_II0 op_sub
abbrev dFdiv : D → D → R D := dII (fun _ j => decide (0 < j ∧ j < 1073741824)) fun i j => i / j
theorem o_fdiv : OpD X (binaryOp .FloorDiv) dFdiv := op_II op_fdiv fun i j h => (of_decide_eq_true h : 0 < j ∧ j < 1073741824)
abbrev dMod : D → D → R D := dII (fun _ j => decide (0 < j)) fun i j => i % j
theorem o_mod : OpD X (binaryOp .Mod) dMod := op_II op_mod fun i j h => of_decide_eq_true h
abbrev dPow : D → D → R D := dII (fun i j => decide (0 ≤ j ∧ j ≤ 1000000 ∧ i.natAbs < 2 ^ 64)) fun i j => i ^ j.toNat
theorem o_pow : OpD X (binaryOp .Pow) dPow := op_II op_pow fun i j h => (of_decide_eq_true h : 0 ≤ j ∧ j ≤ 1000000 ∧ i.natAbs < 2 ^ 64)
abbrev dShr : D → D → R D := dII (fun _ j => decide (0 ≤ j)) fun i j => i / 2 ^ j.toNat
theorem o_shr : OpD X (binaryOp .RShift) dShr := op_II op_shr fun i j h => of_decide_eq_true h
abbrev dLt : D → D → R D := dIB fun i j => decide (i < j)
theorem o_lt : OpD X (compareOp .Lt) dLt := op_IB op_lt
abbrev dLe : D → D → R D := dIB fun i j => decide (i ≤ j)
theorem o_le : OpD X (compareOp .LtE) dLe := op_IB op_le
abbrev dGt : D → D → R D := dIB fun i j => decide (j < i)
theorem o_gt : OpD X (compareOp .Gt) dGt := op_IB op_gt
abbrev dGe : D → D → R D := dIB fun i j => decide (j ≤ i)
theorem o_ge : OpD X (compareOp .GtE) dGe := op_IB op_ge

/-! + * -/
theorem LsF.of_new {K : PySem.W.Frag} {B : List Addr} {H : Hp} {a : Addr} {xs : List V} (h : H a = some (.lst xs)) (n : a ∉ B) : LsF K B H a xs := .inl ⟨n, .inl h⟩
theorem Inv.rdL {pins : List (Addr × Obj)} {σ : St} {H : Hp} {s : Shared} {a : Addr} {xs : List V} {B : List Addr} (I : Inv X pins σ H s) (h : LsF X.K B H a xs) : ∃ (its : List Value) (n : Nat), Vals xs its ∧ s.heap.get? a = some { cls := .type "list", data := .seq its.toArray n } ∧ xs.length ≤ sizeLine := by
  rcases h with ⟨_, h⟩ | ⟨its, n, hk, hz, r⟩
  · obtain ⟨z, its, n, r, e⟩ := h.ok I.hok
    exact ⟨its, n, r, e, z⟩
  · exact ⟨its, n, r, I.kIn a _ hk, hz⟩
theorem op_catS : OpR X (binaryOp .Add) (fun x y H Q => ∃ B l b xs zs, x = .ref l ∧ y = .ref b ∧ LsF X.K B H l xs ∧ LsF X.K B H b zs ∧ xs.length + zs.length ≤ sizeLine ∧ ∀ p, H p = none → Q (.ref p) (upd H p (.lst (xs ++ zs)))) := by
  intro pins s σ H x y v u Q I rx ry h
  obtain ⟨B, l, b, xs, zs, rfl, rfl, hH, hB, hz, q⟩ := h
  cases rx
  cases ry
  obtain ⟨its, n, r, e, _⟩ := I.rdL hH
  obtain ⟨its2, n2, r2, e2, _⟩ := I.rdL hB
  have l1 := r.length
  have l2 := r2.length
  refine PySem.P.add_list e e2 ?_ (by rw [List.size_toArray, List.size_toArray]; omega)
  have ea : its.toArray ++ its2.toArray = (its ++ its2).toArray := by simp
  rw [ea]
  exact ⟨.ref _, _, I.lnew (t' := s.toks) (r.append r2) (by rw [List.length_append]; omega), rfl, q _ I.fresh⟩
def dAdd : D → D → R D
  | .int i, .int j => .ok (.int (i + j))
  | .str a, .str b => R.when (decide (a.length + b.length ≤ sizeLine)) (.ok (.str (a ++ b)))
  | .lst a, .lst b => R.when (decide (a.length + b.length ≤ sizeLine)) (.ok (.lst (a ++ b)))
  | _, _ => .no
theorem o_add : OpD X (binaryOp .Add) dAdd := by
  intro pins s σ H B da db d x y v u I hb rx ry ra rb hg
  unfold dAdd at hg
  split at hg
  · cases hg
    exact op_add pins s σ H x y v u _ I rx ry ⟨_, _, Rep.int.mp ra, Rep.int.mp rb, Same.refl H, Rep.int.mpr rfl⟩
  · obtain ⟨h1, h2⟩ := R.when_ok hg
    cases h2
    exact op_add_str pins s σ H x y v u _ I rx ry ⟨_, _, Rep.str.mp ra, Rep.str.mp rb, of_decide_eq_true h1, Same.refl H, Rep.str.mpr rfl⟩
  · obtain ⟨h1, h2⟩ := R.when_ok hg
    cases h2
    obtain ⟨a1, xs1, rfl, l1, r1⟩ := Rep.lst.mp ra
    obtain ⟨a2, xs2, rfl, l2, r2⟩ := Rep.lst.mp rb
    refine op_catS pins s σ H _ _ v u _ I rx ry ⟨B, a1, a2, xs1, xs2, rfl, rfl, l1, l2, by rw [← r1.length, ← r2.length]; exact of_decide_eq_true h1, fun p hp => ⟨same_upd hp, Rep.lst.mpr ⟨p, _, rfl, .of_new upd_same fun ha => ?_, (r1.append r2).same (same_upd hp)⟩⟩⟩
    obtain ⟨o, ho⟩ := hb p ha
    rw [hp] at ho; cases ho
  · cases hg
theorem op_mulS : OpR X (binaryOp .Mult) (fun x y H Q => ∃ z n, x = .str z ∧ y = .int n ∧ MulOk z n ∧ Q (.str (Txt.mul z n)) H) := by
  intro pins s σ H x y v u Q I rx ry h
  obtain ⟨z, n, rfl, rfl, hm, q⟩ := h
  obtain ⟨t, rfl⟩ := rx
  obtain ⟨t', rfl⟩ := ry
  exact SB.mul hm fun t2 k => ⟨.str _, H, I.tok _, ⟨_, rfl⟩, q⟩
end
end L2

end
section
set_option maxRecDepth 100000
set_option maxHeartbeats 4000000
/-! ## THE DATUM LAYER: more operations (own) -/
namespace L2
open PySem PySem.Spec PyProof.Rows

section
variable {X : Cx}
/-! * -/
theorem mulOk_of {x : Str} {n : Int} (h1 : -(2 ^ 63) ≤ n) (h2 : n < 2 ^ 63) (h3 : x.length * n.toNat ≤ sizeLine) : MulOk x n := by
  refine ⟨by simp only [Bool.or_eq_false_iff, decide_eq_false_iff_not]; omega, fun hn _ => ?_, fun hn _ => ?_⟩
  · have hz : sizeLine = 16777216 := sizeLine_eq
    have e : (n.toNat : Int) = n := by omega
    have h4 : (x.length : Int) * n ≤ 16777216 := by
      have : ((x.length * n.toNat : Nat) : Int) ≤ ((16777216 : Nat) : Int) := Int.ofNat_le.mpr (by omega)
      rw [Int.natCast_mul, e] at this
      exact this
    have : (x.length : Int) ≤ (2 ^ 63 - 1) / n := (Int.le_ediv_iff_mul_le (by omega)).mpr (by omega)
    omega
  · unfold Builtin.Str.tooLong; exact decide_eq_false (by omega)
def dMul : D → D → R D
  | .int i, .int j => R.when (decide ((-(2 ^ 64) < i ∧ i < 2 ^ 64) ∨ (-(2 ^ 64) < j ∧ j < 2 ^ 64))) (.ok (.int (i * j)))
  | .str x, .int n => R.when (decide (-(2 ^ 63) ≤ n ∧ n < 2 ^ 63 ∧ x.length * n.toNat ≤ sizeLine)) (.ok (.str (Txt.mul x n)))
  | _, _ => .no
theorem o_mul : OpD X (binaryOp .Mult) dMul := by
  intro pins s σ H B da db d x y v u I hb rx ry ra rb hg
  unfold dMul at hg
  split at hg
  · obtain ⟨h1, h2⟩ := R.when_ok hg
    cases h2
    have h1 := of_decide_eq_true h1
    exact op_mul pins s σ H x y v u _ I rx ry ⟨_, _, Rep.int.mp ra, Rep.int.mp rb, h1, Same.refl H, Rep.int.mpr rfl⟩
  · obtain ⟨h1, h2⟩ := R.when_ok hg
    cases h2
    have h1 := of_decide_eq_true h1
    exact op_mulS pins s σ H x y v u _ I rx ry ⟨_, _, Rep.str.mp ra, Rep.int.mp rb, mulOk_of h1.1 h1.2.1 h1.2.2, Same.refl H, Rep.str.mpr rfl⟩
  · cases hg

/-! == != -/
mutual
def toPy : D → PyData
  | .non => .none
  | .bl b => .bool b
  | .int i => .int i
  | .str x => .str x
  | .lst ds => .list (toPys ds)
  | .tup ds => .tuple (toPys ds)
  | .dct _ _ => .dict []
def toPys : List D → List PyData
  | [] => []
  | d :: ds => toPy d :: toPys ds
end
mutual
def plainD : D → Bool
  | .dct _ _ => false
  | .lst ds => plainDs ds
  | .tup ds => plainDs ds
  | _ => true
def plainDs : List D → Bool
  | [] => true
  | d :: ds => plainD d && plainDs ds
end
mutual
theorem Rep.reads {pins : List (Addr × Obj)} {σ : St} {H : Hp} {s : Shared} {B : List Addr} (I : Inv X pins σ H s) : ∀ {d : D} {v : V} {u : Value}, plainD d = true → Rep X.K B H d v → RelV v u → ∃ as, Reads s.heap u (toPy d) as
  | .non, v, u, _, r, q => by rw [Rep.non.mp r] at q; cases q; unfold toPy; exact ⟨_, .none⟩
  | .bl b, v, u, _, r, q => by rw [Rep.bl.mp r] at q; cases q; unfold toPy; exact ⟨_, .bool b⟩
  | .int i, v, u, _, r, q => by rw [Rep.int.mp r] at q; obtain ⟨t, rfl⟩ := q; unfold toPy; exact ⟨_, .int i t⟩
  | .str x, v, u, _, r, q => by rw [Rep.str.mp r] at q; obtain ⟨t, rfl⟩ := q; unfold toPy; exact ⟨_, .str x t⟩
  | .lst ds, v, u, hp, r, q => by
    obtain ⟨a, xs, rfl, l, rs⟩ := Rep.lst.mp r
    cases q
    obtain ⟨its, rv, ⟨o, n, e, hc, hd, he⟩, _⟩ := I.list l.sq
    obtain ⟨as, ra⟩ := Reps.reads I (by unfold plainD at hp; exact hp) rs rv
    unfold toPy
    exact ⟨_, .list e hc he (by simpa using ra)⟩
  | .tup ds, v, u, hp, r, q => by
    obtain ⟨a, xs, rfl, l, rs⟩ := Rep.tup.mp r
    cases q
    obtain ⟨its, rv, ⟨o, e, hc, n, hd⟩, _⟩ := I.tuple l.sq
    obtain ⟨as, ra⟩ := Reps.reads I (by unfold plainD at hp; exact hp) rs rv
    unfold toPy
    exact ⟨_, .tuple e hc hd (by simpa using ra)⟩
  | .dct _ _, v, u, hp, r, q => by unfold plainD at hp; cases hp
theorem Reps.reads {pins : List (Addr × Obj)} {σ : St} {H : Hp} {s : Shared} {B : List Addr} (I : Inv X pins σ H s) : ∀ {ds : List D} {vs : List V} {us : List Value}, plainDs ds = true → Reps X.K B H ds vs → Vals vs us → ∃ as, ReadsAll s.heap us (toPys ds) as
  | [], vs, us, _, r, q => by unfold Reps at r; subst r; cases q; unfold toPys; exact ⟨_, .nil⟩
  | d :: ds, vs, us, hp, r, q => by
    obtain ⟨x, xs, rfl, r1, r2⟩ := r.uncons
    cases q with
    | cons q1 q2 =>
      unfold plainDs at hp
      obtain ⟨h1, h2⟩ := Bool.and_eq_true_iff.mp hp
      obtain ⟨as, a1⟩ := Rep.reads I h1 r1 q1
      obtain ⟨bs, a2⟩ := Reps.reads I h2 r2 q2
      unfold toPys
      exact ⟨_, .cons a1 a2⟩
end
/-- == : atoms of one kind by themselves, else by the data -/
def eqD : D → D → R Bool
  | .int i, .int j => .ok (decide (i = j))
  | .str x, .str y => .ok (decide (x = y))
  | .bl a, .bl b => .ok (decide (a = b))
  | d, e => R.when (plainD d && plainD e && SeqAt.shaped (toPy d) && SeqAt.shaped (toPy e)) (.ok (PyData.eqv (toPy d) (toPy e)))
def dEq (d e : D) : R D := (eqD d e).bind fun b => .ok (.bl b)
def dNe (d e : D) : R D := (eqD d e).bind fun b => .ok (.bl (!b))
theorem o_eq (hu : X.A.units + 64 < cLine) : OpD X (compareOp .Eq) dEq := by
  intro pins s σ H B da db d x y v u I hb rx ry ra rb hg
  obtain ⟨b, h1, h2⟩ := R.bind_ok hg
  cases h2
  unfold eqD at h1
  split at h1
  · cases h1
    rename_i i j
    have := op_eq pins s σ H x y v u (fun z H' => Same H H' ∧ Rep X.K B H' (.bl (decide (i = j))) z) I rx ry
    rw [Rep.int.mp ra, Rep.int.mp rb] at this
    refine this ⟨rfl, Same.refl H, Rep.bl.mpr ?_⟩
    simp [V.int.injEq]
  · cases h1
    rename_i i j
    have := op_eq pins s σ H x y v u (fun z H' => Same H H' ∧ Rep X.K B H' (.bl (decide (i = j))) z) I rx ry
    rw [Rep.str.mp ra, Rep.str.mp rb] at this
    refine this ⟨rfl, Same.refl H, Rep.bl.mpr ?_⟩
    simp [V.str.injEq]
  · cases h1
    rename_i i j
    have := op_eq pins s σ H x y v u (fun z H' => Same H H' ∧ Rep X.K B H' (.bl (decide (i = j))) z) I rx ry
    rw [Rep.bl.mp ra, Rep.bl.mp rb] at this
    refine this ⟨rfl, Same.refl H, Rep.bl.mpr ?_⟩
    simp [V.bl.injEq]
  · obtain ⟨h3, h4⟩ := R.when_ok h1
    cases h4
    simp only [Bool.and_eq_true] at h3
    obtain ⟨⟨⟨p1, p2⟩, s1⟩, s2⟩ := h3
    obtain ⟨as, r1⟩ := ra.reads I p1 rx
    obtain ⟨bs, r2⟩ := rb.reads I p2 ry
    exact eq_dataH r1 r2 s1 s2 hu ⟨.bl _, H, I, rfl, Same.refl H, Rep.bl.mpr rfl⟩
theorem o_ne (hu : X.A.units + 64 < cLine) : OpD X (compareOp .NotEq) dNe := by
  intro pins s σ H B da db d x y v u I hb rx ry ra rb hg
  obtain ⟨b, h1, h2⟩ := R.bind_ok hg
  cases h2
  unfold eqD at h1
  split at h1
  · cases h1
    rename_i i j
    have := op_ne pins s σ H x y v u (fun z H' => Same H H' ∧ Rep X.K B H' (.bl (!decide (i = j))) z) I rx ry
    rw [Rep.int.mp ra, Rep.int.mp rb] at this
    refine this ⟨rfl, Same.refl H, Rep.bl.mpr ?_⟩
    simp [V.int.injEq]
  · cases h1
    rename_i i j
    have := op_ne pins s σ H x y v u (fun z H' => Same H H' ∧ Rep X.K B H' (.bl (!decide (i = j))) z) I rx ry
    rw [Rep.str.mp ra, Rep.str.mp rb] at this
    refine this ⟨rfl, Same.refl H, Rep.bl.mpr ?_⟩
    simp [V.str.injEq]
  · cases h1
    rename_i i j
    have := op_ne pins s σ H x y v u (fun z H' => Same H H' ∧ Rep X.K B H' (.bl (!decide (i = j))) z) I rx ry
    rw [Rep.bl.mp ra, Rep.bl.mp rb] at this
    refine this ⟨rfl, Same.refl H, Rep.bl.mpr ?_⟩
    simp [V.bl.injEq]
  · obtain ⟨h3, h4⟩ := R.when_ok h1
    cases h4
    simp only [Bool.and_eq_true] at h3
    obtain ⟨⟨⟨p1, p2⟩, s1⟩, s2⟩ := h3
    obtain ⟨as, r1⟩ := ra.reads I p1 rx
    obtain ⟨bs, r2⟩ := rb.reads I p2 ry
    exact ne_dataH r1 r2 s1 s2 hu ⟨.bl _, H, I, rfl, Same.refl H, Rep.bl.mpr rfl⟩

/-! in, not in: texts in lists and tuples of texts, a text in a text -/
def strs? : List D → Option (List Str)
  | [] => some []
  | .str x :: ds => (strs? ds).map (x :: ·)
  | _ :: _ => none
theorem strs_reps {K : PySem.W.Frag} {B : List Addr} {H : Hp} : ∀ {ds : List D} {xs : List V} {ss : List Str}, Reps K B H ds xs → strs? ds = some ss → xs = ss.map V.str
  | [], xs, ss, r, h => by unfold Reps at r; subst r; cases h; rfl
  | d :: ds, xs, ss, r, h => by
    obtain ⟨x, r', rfl, r1, r2⟩ := r.uncons
    cases d with
    | str z =>
      unfold strs? at h
      cases e : strs? ds with
      | none => rw [e] at h; cases h
      | some tt =>
        rw [e] at h
        cases h
        rw [Rep.str.mp r1, strs_reps r2 e]
        rfl
    | _ => cases h
def inD (d e : D) : R Bool := match d, e with
  | .str x, .lst ds => (match strs? ds with | some ss => .ok (ss.contains x) | none => .no)
  | .str x, .tup ds => (match strs? ds with | some ss => .ok (ss.contains x) | none => .no)
  | .str x, .str y => .ok (!(Builtin.Str.occurrences y x 0 y.length 1).isEmpty)
  | _, _ => .no
def dIn (d e : D) : R D := (inD d e).bind fun b => .ok (.bl b)
def dNotIn (d e : D) : R D := (inD d e).bind fun b => .ok (.bl (!b))
theorem inV_strs (x : Str) : ∀ ss : List Str, inV (.str x) (ss.map V.str) = ss.contains x
  | [] => rfl
  | y :: ss => by
    unfold inV
    rw [List.map_cons, List.any_cons]
    have ih := inV_strs x ss
    unfold inV at ih
    rw [ih]
    show (y == x || ss.contains x) = _
    rw [List.contains_cons]
    congr 1
    exact Bool.eq_iff_iff.mpr ⟨fun h => by simpa using (beq_iff_eq.mp h).symm, fun h => by simpa using (beq_iff_eq.mp h).symm⟩
theorem flat_strs (ss : List Str) : (ss.map V.str).all flatV = true := by
  rw [List.all_map]
  simp [List.all_eq_true, flatV]
theorem in_gen {neg : Bool} {op : CmpOp} {g : D → D → R D} (h1 : OpR X (compareOp op) (rIn X.K neg)) (h2 : OpR X (compareOp op) (fun x y H Q => ∃ i j, x = .str i ∧ y = .str j ∧ Q (.bl (if neg then !(!(Builtin.Str.occurrences j i 0 j.length 1).isEmpty) else (!(Builtin.Str.occurrences j i 0 j.length 1).isEmpty))) H))
    (hg : ∀ d e r, g d e = .ok r → ∃ b, inD d e = .ok b ∧ r = .bl (if neg then !b else b)) : OpD X (compareOp op) g := by
  intro pins s σ H B da db d x y v u I hb rx ry ra rb hg'
  obtain ⟨b, hi, rfl⟩ := hg da db d hg'
  unfold inD at hi
  split at hi
  · rename_i z ds
    split at hi
    · rename_i ss e
      cases hi
      obtain ⟨a, xs, rfl, l, rs⟩ := Rep.lst.mp rb
      refine h1 pins s σ H x _ v u _ I rx ry ⟨a, xs, rfl, .inl l.sq, by rw [Rep.str.mp ra]; rfl, by rw [strs_reps rs e]; exact flat_strs _, Same.refl H, Rep.bl.mpr ?_⟩
      rw [strs_reps rs e, Rep.str.mp ra, inV_strs]
    · cases hi
  · rename_i z ds
    split at hi
    · rename_i ss e
      cases hi
      obtain ⟨a, xs, rfl, l, rs⟩ := Rep.tup.mp rb
      refine h1 pins s σ H x _ v u _ I rx ry ⟨a, xs, rfl, .inr l.sq, by rw [Rep.str.mp ra]; rfl, by rw [strs_reps rs e]; exact flat_strs _, Same.refl H, Rep.bl.mpr ?_⟩
      rw [strs_reps rs e, Rep.str.mp ra, inV_strs]
    · cases hi
  · cases hi
    exact h2 pins s σ H x y v u _ I rx ry ⟨_, _, Rep.str.mp ra, Rep.str.mp rb, Same.refl H, Rep.bl.mpr rfl⟩
  · cases hi
theorem o_in : OpD X (compareOp .In) dIn := in_gen (neg := false) op_in_seq op_in_str fun d e r h => by
  obtain ⟨b, h1, h2⟩ := R.bind_ok h
  cases h2
  exact ⟨b, h1, rfl⟩
theorem o_notIn : OpD X (compareOp .NotIn) dNotIn := in_gen (neg := true) op_notIn_seq op_notin_str fun d e r h => by
  obtain ⟨b, h1, h2⟩ := R.bind_ok h
  cases h2
  exact ⟨b, h1, rfl⟩

/-! subscripts -/
def ixD (d e : D) : R D := match d, e with
  | .lst ds, .int i => (match atI ds i with | some x => .ok x | none => .no)
  | .tup ds, .int i => (match atI ds i with | some x => .ok x | none => .no)
  | .str x, .int i => R.when (decide (x.length ≤ sizeLine)) (match atI x.cps.toList i with | some c => .ok (.str ⟨#[c]⟩) | none => .no)
  | _, _ => .no
theorem atI_reps {K : PySem.W.Frag} {B : List Addr} {H : Hp} {ds : List D} {xs : List V} {i : Int} {d : D} (r : Reps K B H ds xs) (h : atI ds i = some d) : ∃ x, atI xs i = some x ∧ Rep K B H d x := by
  unfold atI at h ⊢
  rw [← r.length]
  cases e : ixN ds.length i with
  | none => rw [e] at h; cases h
  | some j =>
    rw [e] at h
    exact r.get h
theorem pd_ix {a b : Expr} {fa fb : FD} {pos : Pos} (ha : PD X a fa) (hb : PD X b fb) (hs : PlainIx b) : PD X (.Subscript a b pos) (e2 ixD fa fb) := by
  refine (pe_ix (r := rIx X.K) ix_seq ha hb hs).imp fun σ H Q ⟨Z, B, δ, d, E, hf, q⟩ => ?_
  obtain ⟨d1, h1, h2⟩ := R.bind_ok hf
  obtain ⟨d2, h3, h4⟩ := R.bind_ok h2
  refine ⟨Z, B, δ, d1, E, h1, fun v1 H1 s1 r1 => ⟨Z, B, δ, d2, E.same s1, h3, fun v2 H2 s2 r2 => ?_⟩⟩
  have r1' := r1.same s2
  unfold ixD at h4
  split at h4
  · split at h4
    · rename_i e
      cases h4
      obtain ⟨p, xs, rfl, l, rs⟩ := Rep.lst.mp r1'
      obtain ⟨y, e1, e2⟩ := atI_reps rs e
      exact .inl ⟨p, xs, _, y, rfl, Rep.int.mp r2, l.sq, e1, q y H2 (s1.trans s2) e2⟩
    · cases h4
  · split at h4
    · rename_i e
      cases h4
      obtain ⟨p, xs, rfl, l, rs⟩ := Rep.tup.mp r1'
      obtain ⟨y, e1, e2⟩ := atI_reps rs e
      exact .inr (.inl ⟨p, xs, _, y, rfl, Rep.int.mp r2, l.sq, e1, q y H2 (s1.trans s2) e2⟩)
    · cases h4
  · obtain ⟨hl, h5⟩ := R.when_ok h4
    split at h5
    · rename_i e
      cases h5
      exact .inr (.inr ⟨_, _, _, Rep.str.mp r1', Rep.int.mp r2, of_decide_eq_true hl, e, q _ H2 (s1.trans s2) (Rep.str.mpr rfl)⟩)
    · cases h5
  · cases h4

/-! slices -/
abbrev FO := DEnv → R (Option Int)
def tOD (K : PySem.W.Frag) (f : FO) : TO := fun σ H Q => ∃ Z B δ o, EnvR K Z B H σ δ ∧ f δ = .ok o ∧ ∀ H', Same H H' → Q o H'
theorem PO.imp {X : Cx} {e : Option Expr} {t t' : TO} (h : PO X e t) (w : ∀ σ H Q, t' σ H Q → t σ H Q) : PO X e t' := fun pins s σ H Q I hq => h pins s σ H Q I (w σ H Q hq)
abbrev PP (X : Cx) (e : Option Expr) (f : FO) : Prop := PO X e (tOD X.K f)
def oNone : FO := fun _ => .ok none
def oSome (f : FD) : FO := fun δ => (f δ).bind fun d => match d with | .int i => .ok (some i) | _ => .no
theorem pp_none : PP X none oNone := po_none.imp fun σ H Q ⟨Z, B, δ, o, E, hf, q⟩ => by cases hf; exact q H (Same.refl H)
theorem pp_some {e : Expr} {f : FD} (h : PD X e f) : PP X (some e) (oSome f) := (po_some h).imp fun σ H Q ⟨Z, B, δ, o, E, hf, q⟩ => by
  obtain ⟨d, h1, h2⟩ := R.bind_ok hf
  cases d with
  | int i => cases h2; exact ⟨Z, B, δ, .int i, E, h1, fun v H1 s1 r1 => ⟨i, Rep.int.mp r1, q H1 s1⟩⟩
  | _ => cases h2
theorem sl_str : SlR X (fun x lo hi H Q => ∃ z, x = .str z ∧ z.length ≤ sizeLine ∧ Q (.str (Txt.slice z lo hi)) H) := by
  intro pins s σ H x v vl vu lo hi sl Q I rx hs pl pu h
  obtain ⟨z, rfl, hz, q⟩ := h
  obtain ⟨t, rfl⟩ := rx
  refine ⟨"str", _, F.slot_str_getitem.lookup, typeIs_str _ _ _, ?_⟩
  have fin : ∀ t' k, EP X pins σ Q (.str (Txt.slice z lo hi) t') { s with toks := k } := fun t' k => ⟨.str _, H, I.tok _, ⟨_, rfl⟩, q⟩
  obtain ⟨o, ho, hc, hd⟩ := hs
  cases pl with
  | none =>
    cases pu with
    | none => exact wpAny_getItem_str_slice (l := none) (u := none) (st := none) ⟨o, ho, hc, hd⟩ rfl (post_val_or_str ⟨Nat.le_trans (Txt.slice_le z _ _) hz, fin⟩)
    | int j u => exact wpAny_getItem_str_slice (l := none) (u := some (j, u)) (st := none) ⟨o, ho, hc, hd⟩ rfl (post_val_or_str ⟨Nat.le_trans (Txt.slice_le z _ _) hz, fin⟩)
  | int i t1 =>
    cases pu with
    | none => exact wpAny_getItem_str_slice (l := some (i, t1)) (u := none) (st := none) ⟨o, ho, hc, hd⟩ rfl (post_val_or_str ⟨Nat.le_trans (Txt.slice_le z _ _) hz, fin⟩)
    | int j u => exact wpAny_getItem_str_slice (l := some (i, t1)) (u := some (j, u)) (st := none) ⟨o, ho, hc, hd⟩ rfl (post_val_or_str ⟨Nat.le_trans (Txt.slice_le z _ _) hz, fin⟩)
def cutD {α : Type} (xs : List α) (lo hi : Option Int) : List α := (xs.drop (HT.sIx xs.length 0 lo)).take (HT.sIx xs.length xs.length hi - HT.sIx xs.length 0 lo)
def slD (d : D) (lo hi : Option Int) : R D := match d with
  | .str x => R.when (decide (x.length ≤ sizeLine)) (.ok (.str (Txt.slice x lo hi)))
  | .lst ds => .ok (.lst (cutD ds lo hi))
  | _ => .no
theorem cut_reps {K : PySem.W.Frag} {B : List Addr} {H : Hp} {ds : List D} {xs : List V} (r : Reps K B H ds xs) (lo hi : Option Int) : Reps K B H (cutD ds lo hi) (cutV xs lo hi) := by
  unfold cutD cutV
  rw [← r.length]
  exact (r.drop _).take _
def eSl (f : FD) (fl fh : FO) : FD := fun δ => (f δ).bind fun d => (fl δ).bind fun lo => (fh δ).bind fun hi => slD d lo hi
theorem pd_sl {e : Expr} {lo hi : Option Expr} {f : FD} {fl fh : FO} {p2 pos : Pos} (he : PD X e f) (hl : PP X lo fl) (hh : PP X hi fh) : PD X (.Subscript e (.Slice lo hi none p2) pos) (eSl f fl fh) := by
  refine (pe_slice (sl_str.or sl_list) he hl hh).imp fun σ H Q ⟨Z, B, δ, d, E, hf, q⟩ => ?_
  obtain ⟨d1, h1, h2⟩ := R.bind_ok hf
  obtain ⟨l, h3, h4⟩ := R.bind_ok h2
  obtain ⟨h, h5, h6⟩ := R.bind_ok h4
  refine ⟨Z, B, δ, d1, E, h1, fun v1 H1 s1 r1 => ⟨Z, B, δ, l, E.same s1, h3, fun H2 s2 => ⟨Z, B, δ, h, (E.same s1).same s2, h5, fun H3 s3 => ?_⟩⟩⟩
  have sA : Same H H3 := s1.trans (s2.trans s3)
  have r1' := r1.same (s2.trans s3)
  unfold slD at h6
  split at h6
  · obtain ⟨hz, h7⟩ := R.when_ok h6
    cases h7
    exact .inl ⟨_, Rep.str.mp r1', of_decide_eq_true hz, q _ H3 sA (Rep.str.mpr rfl)⟩
  · cases h6
    obtain ⟨a, xs, rfl, ls, rs⟩ := Rep.lst.mp r1'
    refine .inr ⟨a, xs, rfl, ls.sq, fun p hp => q _ _ (sA.trans (same_upd hp)) (Rep.lst.mpr ⟨p, _, rfl, .of_new upd_same fun ha => ?_, (cut_reps rs l h).same (same_upd hp)⟩)⟩
    obtain ⟨o, ho⟩ := (E.same sA).bs p ha
    rw [hp] at ho; cases ho
  · cases h6

end
end L2

end
section
set_option maxRecDepth 100000
set_option maxHeartbeats 4000000
/-! ## THE DATUM LAYER: calls, methods, f-strings, more that is walked (own) -/
namespace L2
open PySem PySem.Spec PyProof.Rows

section
variable {X : Cx}
theorem Reps.one {K : PySem.W.Frag} {B : List Addr} {H : Hp} {d : D} {xs : List V} (h : Reps K B H [d] xs) : ∃ x, xs = [x] ∧ Rep K B H d x := by
  obtain ⟨x, r, rfl, h1, h2⟩ := h.uncons
  unfold Reps at h2
  subst h2
  exact ⟨x, rfl, h1⟩
theorem Reps.two {K : PySem.W.Frag} {B : List Addr} {H : Hp} {d e : D} {xs : List V} (h : Reps K B H [d, e] xs) : ∃ x y, xs = [x, y] ∧ Rep K B H d x ∧ Rep K B H e y := by
  obtain ⟨x, r, rfl, h1, h2⟩ := h.uncons
  obtain ⟨y, rfl, h3⟩ := h2.one
  exact ⟨x, y, rfl, h1, h3⟩
/-! built-in functions -/
def cLen : List D → R D
  | [.str x] => R.when (decide (x.length ≤ sizeLine)) (.ok (.int x.length))
  | [.lst ds] => .ok (.int ds.length)
  | [.tup ds] => .ok (.int ds.length)
  | _ => .no
theorem c_len : CallD X (.builtin "len") cLen := CallD.of call_len fun B H ds d xs Q _ rs hg q => by
  unfold cLen at hg
  split at hg
  · obtain ⟨h1, h2⟩ := R.when_ok hg
    cases h2
    obtain ⟨x, rfl, r⟩ := rs.one
    exact ⟨x, _, rfl, by rw [Rep.str.mp r]; exact ⟨of_decide_eq_true h1, rfl⟩, q _ H (Same.refl H) (Rep.int.mpr rfl)⟩
  · cases hg
    obtain ⟨x, rfl, r⟩ := rs.one
    obtain ⟨a, ys, rfl, l, r⟩ := Rep.lst.mp r
    exact ⟨_, _, rfl, .inl ⟨ys, l.sq, rfl⟩, q _ H (Same.refl H) (Rep.int.mpr (by rw [r.length]))⟩
  · cases hg
    obtain ⟨x, rfl, r⟩ := rs.one
    obtain ⟨a, ys, rfl, l, r⟩ := Rep.tup.mp r
    exact ⟨_, _, rfl, .inr ⟨ys, l.sq, rfl⟩, q _ H (Same.refl H) (Rep.int.mpr (by rw [r.length]))⟩
  · cases hg
def cInt : List D → R D
  | [.int i] => .ok (.int i)
  | [.bl b] => .ok (.int (if b then 1 else 0))
  | _ => .no
theorem c_int : CallD X (.type "int") cInt := CallD.of call_int1 fun B H ds d xs Q _ rs hg q => by
  unfold cInt at hg
  split at hg
  · cases hg
    obtain ⟨x, rfl, r⟩ := rs.one
    exact .inl ⟨_, by rw [Rep.int.mp r], q _ H (Same.refl H) (Rep.int.mpr rfl)⟩
  · cases hg
    obtain ⟨x, rfl, r⟩ := rs.one
    exact .inr ⟨_, by rw [Rep.bl.mp r], q _ H (Same.refl H) (Rep.int.mpr rfl)⟩
  · cases hg
def cStr : List D → R D
  | [.int i] => R.when (decide (i.natAbs.log2 < 1920)) (.ok (.str (toString i)))
  | _ => .no
theorem c_str : CallD X (.type "str") cStr := CallD.of call_str_int fun B H ds d xs Q _ rs hg q => by
  unfold cStr at hg
  split at hg
  · obtain ⟨h1, h2⟩ := R.when_ok hg
    cases h2
    obtain ⟨x, rfl, r⟩ := rs.one
    exact ⟨_, by rw [Rep.int.mp r], of_decide_eq_true h1, q _ H (Same.refl H) (Rep.str.mpr rfl)⟩
  · cases hg
def cMin : List D → R D
  | [.int i, .int j] => .ok (.int (if j < i then j else i))
  | _ => .no
theorem c_min (hc : X.calm = true) : CallD X (.builtin "min") cMin := CallD.of (call_min2 hc) fun B H ds d xs Q _ rs hg q => by
  unfold cMin at hg
  split at hg
  · cases hg
    obtain ⟨x, y, rfl, r1, r2⟩ := rs.two
    exact ⟨_, _, by rw [Rep.int.mp r1, Rep.int.mp r2], q _ H (Same.refl H) (Rep.int.mpr rfl)⟩
  · cases hg
def cMax : List D → R D
  | [.int i, .int j] => .ok (.int (if j > i then j else i))
  | _ => .no
theorem c_max (hc : X.calm = true) : CallD X (.builtin "max") cMax := CallD.of (call_max2 hc) fun B H ds d xs Q _ rs hg q => by
  unfold cMax at hg
  split at hg
  · cases hg
    obtain ⟨x, y, rfl, r1, r2⟩ := rs.two
    exact ⟨_, _, by rw [Rep.int.mp r1, Rep.int.mp r2], q _ H (Same.refl H) (Rep.int.mpr rfl)⟩
  · cases hg
def cTuple : List D → R D
  | [.lst ds] => .ok (.tup ds)
  | [.tup ds] => .ok (.tup ds)
  | _ => .no
theorem c_tuple : CallD X (.type "tuple") cTuple := CallD.of call_tuple_of fun B H ds d xs Q hb rs hg q => by
  unfold cTuple at hg
  split at hg
  · cases hg
    obtain ⟨x, rfl, r⟩ := rs.one
    obtain ⟨a, ys, rfl, l, r⟩ := Rep.lst.mp r
    refine ⟨a, ys, rfl, .inl ⟨l.sq, fun p hp => q _ _ (same_upd hp) (Rep.tup.mpr ⟨p, ys, rfl, .inl ⟨fun ha => ?_, .inl upd_same⟩, r.same (same_upd hp)⟩)⟩⟩
    obtain ⟨o, ho⟩ := hb p ha
    rw [hp] at ho; cases ho
  · cases hg
    obtain ⟨x, rfl, r⟩ := rs.one
    have r0 := r
    obtain ⟨a, ys, rfl, l, r⟩ := Rep.tup.mp r
    exact ⟨a, ys, rfl, .inr ⟨l.sq, q _ H (Same.refl H) r0⟩⟩
  · cases hg
def cList : List D → R D
  | [.lst ds] => .ok (.lst ds)
  | [.tup ds] => .ok (.lst ds)
  | _ => .no
theorem c_list : CallD X (.type "list") cList := CallD.of call_list_of fun B H ds d xs Q hb rs hg q => by
  unfold cList at hg
  split at hg
  · cases hg
    obtain ⟨x, rfl, r⟩ := rs.one
    obtain ⟨a, ys, rfl, l, r⟩ := Rep.lst.mp r
    refine ⟨a, ys, rfl, .inl l.sq, fun p hp => q _ _ (same_upd hp) (Rep.lst.mpr ⟨p, ys, rfl, .of_new upd_same fun ha => ?_, r.same (same_upd hp)⟩)⟩
    obtain ⟨o, ho⟩ := hb p ha
    rw [hp] at ho; cases ho
  · cases hg
    obtain ⟨x, rfl, r⟩ := rs.one
    obtain ⟨a, ys, rfl, l, r⟩ := Rep.tup.mp r
    refine ⟨a, ys, rfl, .inr l.sq, fun p hp => q _ _ (same_upd hp) (Rep.lst.mpr ⟨p, ys, rfl, .of_new upd_same fun ha => ?_, r.same (same_upd hp)⟩)⟩
    obtain ⟨o, ho⟩ := hb p ha
    rw [hp] at ho; cases ho
  · cases hg
def ints? : List D → Option (List Int)
  | [] => some []
  | .int x :: ds => (ints? ds).map (x :: ·)
  | _ :: _ => none
theorem ints_reps {K : PySem.W.Frag} {B : List Addr} {H : Hp} : ∀ {ds : List D} {xs : List V} {ss : List Int}, Reps K B H ds xs → ints? ds = some ss → xs = ss.map V.int
  | [], xs, ss, r, h => by unfold Reps at r; subst r; cases h; rfl
  | d :: ds, xs, ss, r, h => by
    obtain ⟨x, r', rfl, r1, r2⟩ := r.uncons
    cases d with
    | int z =>
      unfold ints? at h
      cases e : ints? ds with
      | none => rw [e] at h; cases h
      | some tt =>
        rw [e] at h
        cases h
        rw [Rep.int.mp r1, ints_reps r2 e]
        rfl
    | _ => cases h
def cSum : List D → R D
  | [.lst ds] => (match ints? ds with | some ns => .ok (.int ns.sum) | none => .no)
  | _ => .no
theorem vals_intItems : ∀ {ns : List Int} {us : List Value}, Vals (ns.map V.int) us → ∃ l : List (Int × Tok), us = l.map (fun p => Value.int p.1 p.2) ∧ l.map (·.1) = ns
  | [], _, .nil => ⟨[], rfl, rfl⟩
  | n :: ns, _, .cons r t => by
    obtain ⟨l, rfl, e⟩ := vals_intItems t
    obtain ⟨tk, rfl⟩ := r
    exact ⟨(n, tk) :: l, rfl, by rw [List.map_cons, e]⟩
theorem c_sum (hc : X.calm = true) : CallD X (.builtin "sum") cSum := by
  intro pins s σ H B ds d xs us I hb rx rs hg
  unfold cSum at hg
  split at hg
  · split at hg
    · rename_i es ns e
      cases hg
      obtain ⟨x, rfl, r⟩ := rs.one
      obtain ⟨a, ys, rfl, l, r⟩ := Rep.lst.mp r
      obtain ⟨u, rfl, ru⟩ := vals1 rx
      cases ru
      obtain ⟨its, n, rv, e1, hz⟩ := I.rdL l
      rw [ints_reps r e] at rv
      obtain ⟨ps, rfl, rfl⟩ := vals_intItems rv
      have hl : s.heap.IsList a (intItems ps.toArray) := ⟨_, e1, rfl, n, by simp [intItems]⟩
      refine sum_intListG (I.ok.hd hc) hl fun h' tk t' k => ⟨.int _, H, I.kept k, ⟨t', rfl⟩, Same.refl H, Rep.int.mpr ?_⟩
      rw [preSum_eq, List.take_of_length_le (by simp)]
    · cases hg
  · cases hg
/-! isinstance(x, T) for a built-in T -/
def tyName : D → String
  | .non => "NoneType" | .bl _ => "bool" | .int _ => "int" | .str _ => "str" | .lst _ => "list" | .tup _ => "tuple" | .dct _ _ => "dict"
/-- isinstance of a text and str; of a bool and bool -/
def eIsT (T : String) (f : FD) : FD := fun δ => (f δ).bind fun d => R.when (tyName d == T && d.atom) (.ok (.bl true))
theorem pd_isT {T : Str} {Ts : String} {p p2 pos : Pos} {e : Expr} {f : FD} (he : PD X e f) (hg : Gl X "isinstance") (hm : X.mg "isinstance" = none) (hgT : Gl X T) (hmT : X.mg T = none) (hvT : bootBuiltins T = some (.type Ts)) (hnT : T ≠ "__name__" := by decide) (hdT : (T == ("__debug__" : Str)) = false := by decide)
    (hs : starEach [e, .Name T p2] X.env = (false, eval e X.env) :: starEach [.Name T p2] X.env := by rfl) (hpl : (backTo pos (starEach [.Name T p2] X.env)).any (·.1) = false := by rfl) : PD X (.Call (.Name "isinstance" p) [e, .Name T p2] [] pos) (eIsT Ts f) := by
  have hc : CallR X (.builtin "isinstance") (fun xs H Q => ∃ B d x, Rep X.K B H d x ∧ d.atom = true ∧ tyName d = Ts ∧ xs = [x, .ty Ts] ∧ Q (.bl true) H) := by
    intro pins s σ H xs us Q I r h
    obtain ⟨B, d, x, rd, ha, ht, rfl, q⟩ := h
    obtain ⟨u, w', rfl, ru, rw'⟩ := vals2 r
    cases rw'
    have ty : TyOf X.K H x (.type Ts) := by
      cases d with
      | non => rw [Rep.non.mp rd, ← ht]; exact .non
      | bl b => rw [Rep.bl.mp rd, ← ht]; exact .bl b
      | int i => rw [Rep.int.mp rd, ← ht]; exact .int i
      | str z => rw [Rep.str.mp rd, ← ht]; exact .str z
      | _ => cases ha
    exact isinst_ok (b := true) I ru ty (by unfold PySem.W.kitOne; rw [if_pos (by simp)]) fun tk => ⟨.bl true, H, I.tok _, rfl, q⟩
  refine (pe_callB hc hg hm boot_isinstance (pa_cons he (pa_cons (pe_bltn (v := .ty Ts) hgT hmT hvT rfl hnT hdT) pa_nil) hs) (by decide) (by decide) hs hpl).imp fun σ H Q ⟨Z, B, δ, d, E, hf, q⟩ => ?_
  obtain ⟨d1, h1, h2⟩ := R.bind_ok hf
  obtain ⟨h3, h4⟩ := R.when_ok h2
  cases h4
  obtain ⟨h5, h6⟩ := Bool.and_eq_true_iff.mp h3
  exact ⟨Z, B, δ, d1, E, h1, fun v H1 s1 r1 => ⟨B, d1, v, r1, h6, by simpa using h5, rfl, q _ H1 s1 (Rep.bl.mpr rfl)⟩⟩

/-! methods -/
def MtD (X : Cx) (id : String) (g : D → List D → R D) : Prop :=
  ∀ (pins : List (Addr × Obj)) (s : Shared) (σ : St) (H : Hp) (B : List Addr) (da d : D) (ds : List D) (x : V) (xs : List V) (v : Value) (us : List Value), Inv X pins σ H s → (∀ a ∈ B, ∃ o, H a = some o) → RelV x v → Vals xs us → Rep X.K B H da x → Reps X.K B H ds xs → g da ds = .ok d →
    wpAny (model X.prog X.w) X.A (call (.builtin id) (v :: us)) (EP X pins σ fun z H' => Same H H' ∧ Rep X.K B H' d z) X.xe s
def eMt (T : String) (g : D → List D → R D) (f : FD) (fs : DEnv → R (List D)) : FD := fun δ => (f δ).bind fun d => R.when (tyName d == T && (d.atom || T == "list")) ((fs δ).bind fun ds => g d ds)
theorem MtD.r {id : String} {g : D → List D → R D} (h : MtD X id g) : MtR X id (fun x xs H Q => ∃ B da ds d, (∀ a ∈ B, ∃ o, H a = some o) ∧ Rep X.K B H da x ∧ Reps X.K B H ds xs ∧ g da ds = .ok d ∧ ∀ z H', Same H H' → Rep X.K B H' d z → Q z H') := by
  intro pins s σ H x xs v us Q I rx rxs ⟨B, da, ds, d, hb, ra, rs, hg, q⟩
  exact thn (h pins s σ H B da d ds x xs v us I hb rx rxs ra rs hg) fun z s' ⟨zv, H', I', r', s1, r1⟩ => ⟨zv, H', I', r', q zv H' s1 r1⟩
theorem pd_mt {T id : String} {name : Str} {g : D → List D → R D} {o e : Expr} {es : List Expr} {f : FD} {fs : DEnv → R (List D)} {apos cpos : Pos} (pa : PlainAttrs T) (slot : Slot T name id) (hty : typeOf (.builtin id) = pure (.type "method_descriptor")) (hm : MtD X id g) (ho : PD X o f) (ha : PAs X (e :: es) fs)
    (hT : T = "str" ∨ T = "int" ∨ T = "list")
    (hbase : attributeBase o name X.env (eval o X.env) = eval o X.env := by rfl)
    (hfew : ((backTo cpos (starEach (e :: es) X.env)).all (fun x => !x.1) && (backToKw cpos (keywordEach [] X.env)).all (fun x => x.1.isSome)
      && decide ((e :: es).length + ([] : List Keyword).length + (if ([] : List Keyword).isEmpty then 0 else 1) < 30)) = true := by rfl)
    (hline : (apos.endLine == cpos.line) = true := by rfl) (hs : starEach (e :: es) X.env = (false, eval e X.env) :: starEach es X.env := by rfl) (hplain : (backTo cpos (starEach es X.env)).any (·.1) = false := by rfl) :
    PD X (.Call (.Attribute o name apos) (e :: es) [] cpos) (eMt T g f fs) := by
  refine (pe_bm pa slot hty hm.r ho ha hbase hfew hline hs hplain).imp fun σ H Q ⟨Z, B, δ, d, E, hf, q⟩ => ?_
  obtain ⟨d1, h1, h2⟩ := R.bind_ok hf
  obtain ⟨h3, h4⟩ := R.when_ok h2
  obtain ⟨ds, h5, h6⟩ := R.bind_ok h4
  obtain ⟨h7, h8⟩ := Bool.and_eq_true_iff.mp h3
  have h7 : tyName d1 = T := by simpa using h7
  refine ⟨Z, B, δ, d1, E, h1, fun v1 H1 s1 r1 => ⟨?_, Z, B, δ, ds, E.same s1, h5, fun vs H2 s2 r2 => ⟨B, d1, ds, d, (E.same (s1.trans s2)).bs, r1.same s2, r2, h6, fun z H' s3 r3 => q z H' (s1.trans (s2.trans s3)) r3⟩⟩⟩
  cases d1 with
  | str z => rw [Rep.str.mp r1]; exact h7.symm
  | int i => rw [Rep.int.mp r1]; exact h7.symm
  | lst es => obtain ⟨a, xs, rfl, l, _⟩ := Rep.lst.mp r1; exact .inl ⟨h7.symm, xs, l.sq⟩
  | non => rcases hT with z | z | z <;> (rw [z] at h7; exact absurd (show ("NoneType" : String) = _ from h7) (by decide))
  | bl _ => rcases hT with z | z | z <;> (rw [z] at h7; exact absurd (show ("bool" : String) = _ from h7) (by decide))
  | tup _ => rcases hT with z | z | z <;> (rw [z] at h7; exact absurd (show ("tuple" : String) = _ from h7) (by decide))
  | dct _ _ => rcases hT with z | z | z <;> (rw [z] at h7; exact absurd (show ("dict" : String) = _ from h7) (by decide))
theorem vals_strs : ∀ {ss : List Str} {us : List Value}, Vals (ss.map V.str) us → ∃ l : List (Str × Tok), us = strValues l ∧ l.map (·.1) = ss
  | [], _, .nil => ⟨[], rfl, rfl⟩
  | n :: ns, _, .cons r t => by
    obtain ⟨l, rfl, e⟩ := vals_strs t
    obtain ⟨tk, rfl⟩ := r
    exact ⟨(n, tk) :: l, rfl, by rw [List.map_cons, e]⟩
def mJoin (d : D) (ds : List D) : R D := match d, ds with
  | .str sep, [.lst es] => (match strs? es with | some ss => R.when (JoinOk sep ss) (.ok (.str (Str.join sep ss))) | none => .no)
  | _, _ => .no
theorem m_join : MtD X "str.join" mJoin := by
  intro pins s σ H B da d ds x xs v us I hb rx rxs ra rs hg
  unfold mJoin at hg
  split at hg
  · split at hg
    · rename_i sep es ss e
      obtain ⟨h1, h2⟩ := R.when_ok hg
      cases h2
      rw [Rep.str.mp ra] at rx
      obtain ⟨t, rfl⟩ := rx
      obtain ⟨y, rfl, r⟩ := rs.one
      obtain ⟨a, ys, rfl, l, r⟩ := Rep.lst.mp r
      obtain ⟨u, rfl, ru⟩ := vals1 rxs
      cases ru
      obtain ⟨its, n, rv, e1, hz⟩ := I.rdL l
      rw [strs_reps r e] at rv
      obtain ⟨ps, rfl, rfl⟩ := vals_strs rv
      refine SC.join (D := a) (l := ps) ⟨_, e1, rfl, n, rfl⟩ rfl h1 fun t' k => ⟨.str _, H, I.tok _, ⟨t', rfl⟩, Same.refl H, Rep.str.mpr ?_⟩
      rw [← StrLaws.glued_eq_join]
      rfl
    · cases hg
  · cases hg
theorem pd_join {o e : Expr} {f : FD} {fs : DEnv → R (List D)} {apos cpos : Pos} (ho : PD X o f) (ha : PAs X [e] fs)
    (hbase : attributeBase o "join" X.env (eval o X.env) = eval o X.env := by rfl)
    (hfew : ((backTo cpos (starEach [e] X.env)).all (fun x => !x.1) && (backToKw cpos (keywordEach [] X.env)).all (fun x => x.1.isSome)
      && decide (([e] : List Expr).length + ([] : List Keyword).length + (if ([] : List Keyword).isEmpty then 0 else 1) < 30)) = true := by rfl)
    (hline : (apos.endLine == cpos.line) = true := by rfl) (hs : starEach [e] X.env = (false, eval e X.env) :: starEach [] X.env := by rfl) :
    PD X (.Call (.Attribute o "join" apos) [e] [] cpos) (eMt "str" mJoin f fs) := pd_mt F.plainAttrs_str F.slot_str_join F.type_str_join m_join ho ha (.inl rfl) hbase hfew hline hs

/-! f-strings -/
abbrev PJ (X : Cx) (es : List Expr) (f : DEnv → R (List Str)) : Prop :=
  ∀ (pins : List (Addr × Obj)) (s : Shared) (σ : St) (H : Hp) (Z B : List Addr) (δ : DEnv) (acc : Str) (ss : List Str) (Q : VK), Inv X pins σ H s → EnvR X.K Z B H σ δ → f δ = .ok ss → (ss.foldl (· ++ ·) acc).length ≤ sizeLine → (∀ H', Same H H' → Q (.str (ss.foldl (· ++ ·) acc)) H') →
    wpAny (model X.prog X.w) X.A (joinParts acc (evalEach es X.env)) (EP X pins σ Q) X.xe s
theorem foldl_len : ∀ (ss : List Str) (acc : Str), acc.length ≤ (ss.foldl (· ++ ·) acc).length
  | [], acc => Nat.le_refl _
  | s :: ss, acc => Nat.le_trans (by rw [Str.length_append]; exact Nat.le_add_right _ _) (foldl_len ss (acc ++ s))
def jNil : DEnv → R (List Str) := fun _ => .ok []
def jCons (f : FD) (g : DEnv → R (List Str)) : DEnv → R (List Str) := fun δ => (f δ).bind fun d => match d with | .str x => (g δ).bind fun ss => .ok (x :: ss) | _ => .no
theorem pj_nil : PJ X [] jNil := by
  intro pins s σ H Z B δ acc ss Q I E hf hl q
  cases hf
  exact joinParts_nil ⟨.str _, H, I.tok _, ⟨_, rfl⟩, q H (Same.refl H)⟩ hl
theorem pj_cons {e : Expr} {es : List Expr} {f : FD} {g : DEnv → R (List Str)} (he : PD X e f) (hr : PJ X es g) (hev : evalEach (e :: es) X.env = eval e X.env :: evalEach es X.env := by rfl) : PJ X (e :: es) (jCons f g) := by
  intro pins s σ H Z B δ acc ss Q I E hf hl q
  rw [hev]
  obtain ⟨d, h1, h2⟩ := R.bind_ok hf
  cases d with
  | str x =>
    obtain ⟨ss', h3, h4⟩ := R.bind_ok h2
    cases h4
    refine joinParts_cons (thn (he pins s σ H (fun v H' => Same H H' ∧ v = .str x) I ⟨Z, B, δ, .str x, E, h1, fun v H' s1 r1 => ⟨s1, Rep.str.mp r1⟩⟩) fun v s1 ⟨xv, H1, I1, r1, ss1, e1⟩ => ?_)
    subst e1
    obtain ⟨t, rfl⟩ := r1
    exact ⟨Nat.le_trans (foldl_len ss' (acc ++ x)) hl, hr pins s1 σ H1 Z B δ (acc ++ x) ss' Q I1 (E.same ss1) h3 hl fun H' s2 => q H' (ss1.trans s2)⟩
  | _ => cases h2
def eJoined (g : DEnv → R (List Str)) : FD := fun δ => (g δ).bind fun ss => R.when (decide ((ss.foldl (· ++ ·) Str.empty).length ≤ sizeLine)) (.ok (.str (ss.foldl (· ++ ·) Str.empty)))
theorem pd_joined {v₁ v₂ : Expr} {rest : List Expr} {pos : Pos} {g : DEnv → R (List Str)} (h : PJ X (v₁ :: v₂ :: rest) g) : PD X (.JoinedStr (v₁ :: v₂ :: rest) pos) (eJoined g) := by
  intro pins s σ H Q I ⟨Z, B, δ, d, E, hf, q⟩
  obtain ⟨ss, h1, h2⟩ := R.bind_ok hf
  obtain ⟨h3, h4⟩ := R.when_ok h2
  cases h4
  rw [arm_eval_JoinedStr]
  exact h pins s σ H Z B δ Str.empty ss Q I E h1 (of_decide_eq_true h3) fun H' s1 => q _ H' s1 (Rep.str.mpr rfl)
def fmtD : D → R D
  | .str x => R.when (decide (x.length ≤ sizeLine)) (.ok (.str x))
  | .int i => R.when (decide (i.natAbs.log2 < 1920)) (.ok (.str (toString i)))
  | _ => .no
def eFmt (f : FD) : FD := fun δ => (f δ).bind fmtD
theorem pd_fmt {e : Expr} {pos : Pos} {f : FD} (h : PD X e f) : PD X (.FormattedValue e (-1) none pos) (eFmt f) := by
  intro pins s σ H Q I ⟨Z, B, δ, d, E, hf, q⟩
  obtain ⟨d1, h1, h2⟩ := R.bind_ok hf
  refine FormattedValue_plain (thn (h pins s σ H (fun v H' => Same H H' ∧ Rep X.K B H' d1 v) I ⟨Z, B, δ, d1, E, h1, fun v H' s1 r1 => ⟨s1, r1⟩⟩) fun v s1 ⟨xv, H1, I1, r1, ss1, e1⟩ => ?_)
  unfold fmtD at h2
  split at h2
  · obtain ⟨h3, h4⟩ := R.when_ok h2
    cases h4
    rw [Rep.str.mp e1] at r1
    obtain ⟨t, rfl⟩ := r1
    exact formatField_str (fun t' tk => ⟨.str _, H1, I1.tok _, ⟨_, rfl⟩, q _ H1 ss1 (Rep.str.mpr rfl)⟩) (of_decide_eq_true h3)
  · obtain ⟨h3, h4⟩ := R.when_ok h2
    cases h4
    rw [Rep.int.mp e1] at r1
    obtain ⟨t, rfl⟩ := r1
    exact formatField_int_small (of_decide_eq_true h3) ⟨.str _, H1, I1.tok _, ⟨_, rfl⟩, q _ H1 ss1 (Rep.str.mpr rfl)⟩
  · cases h2

/-! {..}.get(k, d): a written dict of texts to atoms -/
def lookD : List (D × D) → Str → R (Option D)
  | [], _ => .ok none
  | (.str y, d) :: r, x => (lookD r x).bind fun o => .ok (match o with | some e => some e | none => if y = x then some d else none)
  | _ :: _, _ => .no

/-! a text's signs -/
def signD (x : Str) : List D := x.cps.toList.map fun c => .str ⟨#[c]⟩
def Its (x : Str) : It := ⟨fun i _ => i < x.cps.size, fun i H v H' => H' = H ∧ ∃ c, x.cps[i]? = some c ∧ v = .str ⟨#[c]⟩, fun i _ => x.cps.size ≤ i⟩
theorem turn_str {P : Program} {w : World} {K : PySem.W.Frag} {tg : Expr} (it : Addr) (x : Str) (t : Tok) (ty : String) (hty : ty = "str_ascii_iterator" ∨ ty = "str_iterator") : Turn P w K tg (Its x) [it] it (fun i h => h.IsStrIter it ty x t i ∧ i ≤ x.cps.size) where
  mem := by simp
  obj := fun i h st b hb => by
    have e : b = it := by simpa using hb
    subst e
    obtain ⟨o, e, c, d⟩ := st.1
    exact ⟨o, e, fun v z => by rw [d] at z; cases z⟩
  keep := fun i h h' st k => ⟨let ⟨o, ho, r⟩ := st.1; ⟨o, k it (by simp) o ho, r⟩, st.2⟩
  item := by
    intro X hP hw hK hc i pins s σ H E I hf st hg
    subst hP hw hK
    obtain ⟨f0, f1, f2, f3, f4, f5⟩ := hf it (by simp)
    have W : Walks X.prog X.w X.A it [it] [it] x.cps.size (SignAt x) (fun i h => h.IsStrIter it ty x t i) := by
      rcases hty with rfl | rfl
      · exact Walks.strAscii (I.ok.hd hc) it x t
      · exact Walks.strWide (I.ok.hd hc) it x t
    refine W.item i s _ _ hg st.1 fun v h' tk hv st' kk => ?_
    obtain ⟨c, u, e1, rfl⟩ := hv
    have I1 : Inv X pins σ H { s with heap := h', toks := tk } := I.turned (fun b o hb e => kk b o (by simpa using hb) e) f0 f1 f3 f4 f5
    obtain ⟨o, e, cl, d⟩ := id st'
    refine ⟨_, rfl, go_of (s := { s with heap := h', toks := tk }) (n := ty) e cl d ?_ ⟨.str ⟨#[c]⟩, H, I1, ⟨u, rfl⟩, ⟨rfl, c, e1, rfl⟩, ⟨st', hg⟩, fun b hb => (hf b hb).1⟩⟩
    rcases hty with rfl | rfl <;> decide
  done := by
    intro X hP hw hK hc i pins s σ H E I hf st hg
    subst hP hw hK
    obtain ⟨f0, f1, f2, f3, f4, f5⟩ := hf it (by simp)
    have W : Walks X.prog X.w X.A it [it] [it] x.cps.size (SignAt x) (fun i h => h.IsStrIter it ty x t i) := by
      rcases hty with rfl | rfl
      · exact Walks.strAscii (I.ok.hd hc) it x t
      · exact Walks.strWide (I.ok.hd hc) it x t
    have e : i = x.cps.size := Nat.le_antisymm st.2 hg
    exact W.done s _ _ (e ▸ st.1) fun h' tk kk => ⟨rfl, I.turned (fun b o hb e => kk b o (by simpa using hb) e) f0 f1 f3 f4 f5⟩
  self := fun A i s Q E st h => by
    rcases hty with rfl | rfl
    · exact wpAny_pyIter_striter_ascii st.1 h
    · exact wpAny_pyIter_striter_wide st.1 h
def itStr (f : FD) : DEnv → R (List D) := fun δ => (f δ).bind fun d => match d with | .str x => .ok (signD x) | _ => .no
theorem pit_str {tg e : Expr} {f : FD} (h : PD X e f) : PIt X tg e (itStr f) := by
  intro pins s σ H RR I ⟨Z, B, δ, ds, E, hf, q⟩
  obtain ⟨d, h1, h2⟩ := R.bind_ok hf
  refine thn (h pins s σ H (fun v H1 => Same H H1 ∧ Rep X.K B H1 d v) I ⟨Z, B, δ, d, E, h1, fun v H1 s1 r1 => ⟨s1, r1⟩⟩) fun v s1 ⟨x, H1, I1, r1, ss, rr⟩ => ?_
  cases d with
  | str z =>
    cases h2
    rw [Rep.str.mp rr] at r1
    obtain ⟨t, rfl⟩ := r1
    refine wpAny_pyIter_strU ?_
    have hty : strIterType z = "str_ascii_iterator" ∨ strIterType z = "str_iterator" := by
      unfold strIterType
      split
      · exact .inl rfl
      · exact .inr rfl
    refine ⟨s1.heap.objs.size, [s1.heap.objs.size], _, _, H1, rfl, I1.kept (t' := s1.toks) fun b o e => Heap.get?_push_of_some _ e, turn_str _ z t (strIterType z) hty, ⟨⟨_, Heap.get?_push_size _ rfl, rfl, rfl⟩, Nat.zero_le _⟩, fun b hb => ?_, q _ H1 ss fun B' H' pr => ?_⟩
    · have e : b = s1.heap.objs.size := by simpa using hb
      subst e
      exact I1.fpOk (Nat.le_refl _) (I1.hok.fresh (Nat.le_refl _))
    · refine ⟨fun i d hd => ?_, ?_⟩
      · unfold signD at hd
        rw [List.getElem?_map] at hd
        cases e : z.cps.toList[i]? with
        | none => rw [e] at hd; cases hd
        | some c =>
          rw [e] at hd
          cases hd
          have e' : z.cps[i]? = some c := by simpa using e
          exact ⟨(Array.getElem?_eq_some_iff.mp e').1, fun x H'' ⟨e1, c', e2, e3⟩ _ => by
            subst e1
            rw [e'] at e2
            cases e2
            exact ⟨Same.refl _, Rep.str.mpr e3⟩⟩
      · show z.cps.size ≤ (signD z).length
        unfold signD
        simp
  | _ => cases h2

/-! enumerate -/
def Ite (K : PySem.W.Frag) (a : Addr) : It :=
  ⟨fun i H => ∃ xs x, SqL K H a xs ∧ xs[i]? = some x, fun i H v H' => ∃ p x, H p = none ∧ v = .ref p ∧ (∀ xs, SqL K H a xs → xs[i]? = some x) ∧ H' = upd H p (.tup [.int i, x]), fun i H => ∃ xs, SqL K H a xs ∧ xs.length ≤ i⟩
theorem turn_enum {P : Program} {w : World} {K : PySem.W.Frag} {elts : List Expr} {k : Nat} {pos : Pos} (a e it : Addr) (hei : e ≠ it) : Turn P w K (.Tuple elts k pos) (Ite K a) [e, it] e (fun i h => (∃ old, IsEnum h e it ((i : Nat) : Int) old) ∧ h.IsListIter it a i) where
  mem := by simp
  obj := fun i h st b hb => by
    obtain ⟨⟨old, he⟩, o, ho, c, d⟩ := st
    rcases List.mem_cons.mp hb with rfl | hb
    · exact ⟨_, he, fun v z => by cases z⟩
    · have e : b = it := by simpa using hb
      subst e
      exact ⟨o, ho, fun v z => by rw [d] at z; cases z⟩
  keep := fun i h h' st k => by
    obtain ⟨⟨old, he⟩, hi⟩ := st
    exact ⟨⟨old, k e (by simp) _ he⟩, hi.at fun o x => k it (by simp) o x⟩
  item := by
    intro X hP hw hK hc i pins s σ H E I hf st hg
    subst hP hw hK
    obtain ⟨xs, x, hq, hx⟩ := hg
    obtain ⟨its, rv, p, hz⟩ := I.list hq
    obtain ⟨u, hu, ru⟩ := rv.get hx
    obtain ⟨⟨old, he⟩, hit⟩ := st
    obtain ⟨f0, f1, f2, f3, f4, f5⟩ := hf e (by simp)
    obtain ⟨g0, g1, g2, g3, g4, g5⟩ := hf it (by simp)
    refine wpAny_pyNext_enum_item he hit p.isList (x := u) (by simpa using hu) hei fun h₁ heo hit₁ ht₁ hz₁ hk₁ => ⟨_, rfl, ?_⟩
    refine wpAny_letOwnedTupleGo_enum heo fun h₂ he₂ hs₂ => ?_
    replace hs₂ : Heap.SameBut e h₁ h₂ := hs₂
    have hel : e < s.heap.objs.size := Heap.lt_size he
    have ht₂ : h₂.get? s.heap.objs.size = some { cls := .type "tuple", data := .seq #[.int i s.toks, u] } := (hs₂.2 _ (Nat.ne_of_gt hel)).trans ht₁
    have kk : ∀ b o, b ≠ e → b ≠ it → s.heap.get? b = some o → h₂.get? b = some o := fun b o h1 h2 q => (hs₂.2 b h1).trans (hk₁ b o h1 h2 q)
    have hn : H s.heap.objs.size = none := I.fresh
    have sm : Same H (upd H s.heap.objs.size (.tup [.int i, x])) := same_upd hn
    have nit : ∀ b o, H b = some o → b ≠ e ∧ b ≠ it := fun b o q => ⟨fun z => (by rw [z, f0] at q; cases q), fun z => (by rw [z, g0] at q; cases q)⟩
    have hok : HOk X.prog X.w (upd H s.heap.objs.size (.tup [.int i, x])) h₂ := fun b ob q => by
      by_cases hb : b = s.heap.objs.size
      · subst hb
        rw [upd_same] at q
        cases q
        exact ⟨by show 2 ≤ sizeLine; decide, [.int i s.toks, u], .cons ⟨_, rfl⟩ (.cons ru .nil), ⟨_, ht₂, rfl, _, rfl⟩⟩
      · rw [upd_ne hb] at q
        refine (I.hok b ob q).stay (fun c v hc z => ?_) (fun c z => sm c _ z) fun c ys z => sm c _ z
        rcases hc with rfl | hc
        · exact kk c v (nit c _ q).1 (nit c _ q).2 z
        · exact kk c v (nit c _ hc).1 (nit c _ hc).2 z
    have nch : ∀ b, b ∉ [e, it] → b ≠ e ∧ b ≠ it := fun b hb => ⟨fun z => hb (by simp [z]), fun z => hb (by simp [z])⟩
    have I2 : Inv X pins σ (upd H s.heap.objs.size (.tup [.int i, x])) { s with heap := h₂, toks := s.toks + 1 } := by
      refine I.step (g' := s.gens) (d' := s.drawn) (ch := [e, it]) (fun b hb => ?_) (fun b o _ _ hb q _ => kk b o (nch b hb).1 (nch b hb).2 q) (fun b o _ _ hb q _ => ⟨o.slots, kk b o (nch b hb).1 (nch b hb).2 q⟩)
        (fun b o hb q n => by rw [upd_ne (Nat.ne_of_lt (Heap.lt_size q))]; exact n) (fun b o hb q => ⟨o, kk b o (nch b hb).1 (nch b hb).2 q⟩) (fun b ys z => sm b _ z) (fun b o u z => sm b _ z) (fun b ps z => ⟨#[], by rw [sm b _ z]; simp⟩) (fun m hm => ?_) hok I.bare
      · rcases List.mem_cons.mp hb with rfl | hb
        · exact ⟨f3, f1, f4, f5⟩
        · have z : b = it := by simpa using hb
          subst z
          exact ⟨g3, g1, g4, g5⟩
      · obtain ⟨o, es, ep, ho, r⟩ := hm
        exact ⟨o, es, ep, kk _ o (Ne.symm f1) (Ne.symm g1) ho, r⟩
    refine ⟨.ref s.heap.objs.size, _, I2, rfl, ⟨s.heap.objs.size, x, hn, rfl, fun ys hy => (by rw [I.list_inj hy hq]; exact hx), rfl⟩, ⟨⟨_, by simpa using he₂⟩, hit₁.at fun o q => (hs₂.2 it (Ne.symm hei)).trans q⟩, fun b hb => ?_⟩
    rcases List.mem_cons.mp hb with rfl | hb
    · rw [upd_ne (Nat.ne_of_lt hel)]; exact f0
    · have z : b = it := by simpa using hb
      subst z
      obtain ⟨o, ho, _⟩ := hit
      rw [upd_ne (Nat.ne_of_lt (Heap.lt_size ho))]; exact g0
  done := by
    intro X hP hw hK hc i pins s σ H E I hf st hg
    subst hP hw hK
    obtain ⟨xs, hq, hx⟩ := hg
    obtain ⟨its, rv, p, hz⟩ := I.list hq
    obtain ⟨⟨old, he⟩, hit⟩ := st
    obtain ⟨g0, g1, g2, g3, g4, g5⟩ := hf it (by simp)
    have hl := rv.length
    exact wpAny_pyNext_enum_end (I.ok.hd hc) he hit p.isList (by simp; omega) fun h' eb => ⟨rfl, I.turned (t' := s.toks) (fun b o hb q => eb b o hb q) g0 g1 g3 g4 g5⟩
  self := fun A i s Q E st h => let ⟨⟨_, he⟩, _⟩ := st; wpAny_pyIter_enum he h
def enumD (ds : List D) : List D := ds.zipIdx.map fun p => .tup [.int p.2, p.1]
def itEnum (f : FD) : DEnv → R (List D) := fun δ => (f δ).bind fun d => match d with | .lst ds => .ok (enumD ds) | _ => .no
theorem pit_enum {elts : List Expr} {k : Nat} {tpos : Pos} {a : Expr} {f : FD} {p pos : Pos} (h : PD X a f) (hg : Gl X "enumerate") (hm : X.mg "enumerate" = none) (hs : starEach [a] X.env = [(false, eval a X.env)] := by rfl) : PIt X (.Tuple elts k tpos) (.Call (.Name "enumerate" p) [a] [] pos) (itEnum f) := by
  intro pins s σ H RR I ⟨Z, B, δ, ds, E, hf, q⟩
  obtain ⟨d, h1, h2⟩ := R.bind_ok hf
  have hA := pa_cons h pa_nil hs pos pins s σ H (fun vs H1 => Same H H1 ∧ ∃ v, vs = [v] ∧ Rep X.K B H1 d v) I ⟨Z, B, δ, d, E, h1, fun v H1 s1 r1 => ⟨s1, v, rfl, r1⟩⟩
  refine Call_ (ld_blt I hg hm boot_enumerate (PyProof.Rows.callWith_type1 (thn hA fun us s1 ⟨vs, H1, I1, r1, ss, v, ev, rr⟩ => ?_) hs rfl))
  subst ev
  obtain ⟨u, rfl, ru⟩ := vals1 r1
  cases d with
  | lst es =>
    cases h2
    obtain ⟨b, xs, rfl, l, rs⟩ := Rep.lst.mp rr
    cases ru
    obtain ⟨its, n, rv, e1, hz⟩ := I1.rdL l
    refine call_enumerate_list (items := its.toArray) ⟨_, e1, rfl, n, rfl⟩ fun h' he hit hsz kk => wpAny_pyIter_enum he ?_
    have I2 : Inv X pins σ H1 { s1 with heap := h' } := I1.kept (t' := s1.toks) kk
    refine ⟨s1.heap.objs.size + 1, [s1.heap.objs.size + 1, s1.heap.objs.size], _, _, H1, rfl, I2, turn_enum b (s1.heap.objs.size + 1) s1.heap.objs.size (Nat.succ_ne_self _), ⟨⟨_, he⟩, hit⟩, fun c hc => ?_, q _ H1 ss fun B' H' pr => ?_⟩
    · have hle : s1.heap.objs.size ≤ c := by
        rcases List.mem_cons.mp hc with z | hc
        · rw [z]; exact Nat.le_succ _
        · have z : c = s1.heap.objs.size := by simpa using hc
          rw [z]; exact Nat.le_refl _
      exact I1.fpOk hle (I1.hok.fresh hle)
    · have l' : LsF X.K B' H' b xs := l.pres pr
      have rs' := rs.pres pr
      refine ⟨fun i d hd => ?_, ⟨xs, l'.sq, by rw [← rs.length]; unfold enumD; simp⟩⟩
      unfold enumD at hd
      rw [List.getElem?_map, List.getElem?_zipIdx] at hd
      cases e : es[i]? with
      | none => rw [e] at hd; cases hd
      | some d0 =>
        rw [e] at hd
        have hd : D.tup [.int ((0 + i : Nat) : Int), d0] = d := Option.some.inj hd
        rw [Nat.zero_add] at hd
        obtain ⟨x, hx, rx⟩ := rs'.get e
        refine ⟨⟨xs, x, l'.sq, hx⟩, fun v H'' y hB' => ?_⟩
        obtain ⟨p, y, hp, rfl, hy, rfl⟩ := y
        refine ⟨same_upd hp, ?_⟩
        subst hd
        have hy2 := hy xs l'.sq
        rw [hx] at hy2
        cases hy2
        refine Rep.tup.mpr ⟨p, _, rfl, .inl ⟨fun ha => ?_, .inl upd_same⟩, Reps.cons (Rep.int.mpr rfl) (Reps.cons (rx.same (same_upd hp)) Reps.nil)⟩
        obtain ⟨o, ho⟩ := hB' p ha
        rw [hp] at ho; cases ho
  | _ => cases h2
end
end L2

end
section
set_option maxRecDepth 100000
set_option maxHeartbeats 4000000
/-! ## THE DATUM LAYER: glue for a text's defs (own) -/
namespace L2
open PySem PySem.Spec PyProof.Rows

/-- a def of the text, by its name -/
def Def (K : PySem.W.Frag) (mg : Str → Option Value) (x : Str) (st : Stmt) : Prop := ∃ f fd, Fun K x x st f fd ∧ mg x = some (.ref f)
/-- a pure def that may be called -/
def Callee (P : Program) (w : World) (K : PySem.W.Frag) (mg : Str → Option Value) (base : Heap) (k : Nat) (x : Str) (n : Nat) (g : List D → R D) : Prop :=
  ∃ f fd ps, FnOk P w K mg base CX0 k f fd ps (spD K n g) ∧ mg x = some (.ref f) ∧ PySem.W.keepIn K (.ref f) = true ∧ Binds K fd ps []
theorem alen_nil : ∀ (δ : DEnv) (ds : List D), aNil δ = .ok ds → ds.length = 0 := fun δ ds h => by cases h; rfl
theorem alen_cons {f : FD} {g : DEnv → R (List D)} {n : Nat} (h : ∀ (δ : DEnv) (ds : List D), g δ = .ok ds → ds.length = n) : ∀ (δ : DEnv) (ds : List D), aCons f g δ = .ok ds → ds.length = n + 1 := fun δ ds e => by
  obtain ⟨d, h1, h2⟩ := R.bind_ok e
  obtain ⟨es, h3, h4⟩ := R.bind_ok h2
  cases h4
  rw [List.length_cons, h δ es h3]
/-- THE RULE for a pure def, its body and scope as they are written out -/
theorem fn_pureB {P : Program} {w : World} {K : PySem.W.Frag} {mg : Str → Option Value} {base : Heap} {x qual : Str} {st : Stmt} {f : Addr} {fd : FuncData} {N ps : List Str} {k : Nat} {F : FS} {b : List Stmt} {sc : Scope} (hb : defBody st = b) (hs : defScope st = sc) (Fn : Fun K x qual st f fd) (S : FnScope N ps sc)
    (hbody : ∀ (cdv : Value) (A : Around) (outer : List Env) (s : Shared) (H : Hp) (E : XK), Room k (A.deeper (envOfC qual sc s.heap.objs.size f cdv)) →
      PDss (cxOf CX0 P w K mg base N qual sc f cdv A outer s H E).nox b F) : FnOk P w K mg base CX0 (k + 1) f fd ps (spD K ps.length (fnD N F)) := by
  subst hb hs
  exact fn_pure Fn S hbody
section
variable {X : Cx}
theorem pd_callC {g : List D → R D} {k j n : Nat} {x : Str} {p pos : Pos} {e : Expr} {es : List Expr} {fs : DEnv → R (List D)} (C : Callee X.prog X.w X.K X.mg X.base k x n g) (hr : Room j X.A) (hkj : k ≤ j) (hg : Gl X x) (ha : PAs X (e :: es) fs)
    (hn : ∀ δ ds, fs δ = .ok ds → ds.length = n) (hdb : (x == ("__debug__" : Str)) = false := by decide) (he : starEach (e :: es) X.env = (false, eval e X.env) :: starEach es X.env := by rfl) (hpl : (backTo pos (starEach es X.env)).any (·.1) = false := by rfl) :
    PD X (.Call (.Name x p) (e :: es) [] pos) (eCall g fs) := by
  obtain ⟨f, fd, ps, F, hm, hk, hb⟩ := C
  exact pd_call F (hr.mono hkj) hg hm hk hb ha hn hdb he hpl
/-- what a block's scope is, by a look -/
def csOk (sc : Scope) (N : List Str) (scope : Scope) (kp : List Nat) (kn : List Str) : Bool :=
  decide (scope.kind = .function) && scope.names.all (fun y => decide (y.2 ≠ .cell)) && scope.names.all (fun y => decide (y.2 = .local → scope.names.lookup y.1 = some .local))
    && scope.names.all (fun y => decide (y.2 = .free → (sc.names.lookup y.1 = some .cell ∨ sc.names.lookup y.1 = some .free))) && decide (kn.length = kp.length)
    && (List.range kp.length).all (fun j => decide ((kp[j]?).bind (N[·]?) = kn[j]?)) && kn.all (fun x => decide (scope.names.lookup x = some .free))
theorem CScope.of {scope : Scope} {own : List Str} {kp : List Nat} {kn : List Str} {sc : Scope} {N : List Str} (h1 : X.env.scope = sc) (h2 : X.N = N) (h : csOk sc N scope kp kn = true) : CScope X scope own kp kn := by
  unfold csOk at h
  simp only [Bool.and_eq_true, decide_eq_true_eq, List.all_eq_true] at h
  obtain ⟨⟨⟨⟨⟨⟨a1, a2⟩, a3⟩, a4⟩, a5⟩, a6⟩, a7⟩ := h
  refine ⟨a1, a2, a3, fun y hy hf => ?_, a5, fun j i x hj hx => ?_, a7⟩
  · have := a4 y hy hf
    unfold Env.kindOf
    rw [h1]
    exact this
  · have hlt : j < kp.length := (List.getElem?_eq_some_iff.mp hj).1
    have := a6 j (List.mem_range.mpr hlt)
    rw [hj] at this
    rw [h2]
    exact this.trans hx
/-- {k: v, ..}.get(e, d): written texts to written ints -/
def eGet (kvs : List (Key × V)) (f g : FD) : FD := fun δ => (f δ).bind fun k => (g δ).bind fun d => match k with
  | .str x => (match valV (mergeK [] kvs) (Sum.inr x) with | some (.int i) => .ok (.int i) | none => .ok d | _ => .no)
  | _ => .no
theorem pd_get {keys : List (Option Expr)} {values : List Expr} {trs : List (TE × TE)} {dpos apos cpos : Pos} {e f : Expr} {fe ff : FD} {kvs : List (Key × V)} (hu : X.A.units + 1 < cLine) (h : PPs X dpos keys values trs) (hall : keys.all (·.isSome) = true) (hl : keys.length = values.length) (h0 : keys ≠ [])
    (hc : ∀ σ H Q, Q (kvs.map fun kv => (kV kv.1, kv.2)) H → tPairs trs σ H Q) (hlen : kvs.length ≤ 15) (he : PD X e fe) (hf : PD X f ff) (m : M2 X (.Dict keys values dpos) "get" apos e f cpos)
    (hd : PE X (.Dict keys values dpos) (tDisp trs)) : PD X (.Call (.Attribute (.Dict keys values dpos) "get" apos) [e, f] [] cpos) (eGet kvs fe ff) := by
  refine (pe_dget2 hu hd he hf m).imp fun σ H Q ⟨Z, B, δ, d, E, hfd, q⟩ => ?_
  obtain ⟨k, h1, h2⟩ := R.bind_ok hfd
  obtain ⟨dd, h3, h4⟩ := R.bind_ok h2
  intro p hp
  refine hc σ _ _ ⟨upd_same, kvs, rfl, hlen, p, rfl, .inl ⟨_, .inl upd_same⟩, ?_⟩
  rw [upd_upd]
  have s0 : Same H (upd H p (.dK (mergeK [] kvs))) := same_upd hp
  refine ⟨Z, B, δ, k, E.same s0, h1, fun v1 H1 s1 r1 => ⟨Z, B, δ, dd, (E.same s0).same s1, h3, fun v2 H2 s2 r2 => ?_⟩⟩
  have hH2 : H2 p = some (.dK (mergeK [] kvs)) := s2 p _ (s1 p _ upd_same)
  have sA : Same H H2 := s0.trans (s1.trans s2)
  split at h4
  · rename_i x
    refine ⟨valV (mergeK [] kvs) (Sum.inr x), ?_, ?_⟩
    · rw [Rep.str.mp r1]; exact DGet.k (k := Sum.inr x) hH2
    · split at h4
      · rename_i i e1
        cases h4
        rw [e1]
        exact q _ H2 sA (Rep.int.mpr rfl)
      · rename_i e1
        cases h4
        rw [e1]
        exact q _ H2 sA r2
      · cases h4
  · cases h4
/-- x.extend(e), e any list -/
theorem mt_extendR : MtM X "list.extend" (fun x vs H Q => ∃ l b xs zs, x = .ref l ∧ vs = [.ref b] ∧ H l = some (.lst xs) ∧ (∃ B, LsF X.K B H b zs) ∧ xs.length + zs.length ≤ sizeLine ∧ Q .non (upd H l (.lst (xs ++ zs)))) := by
  intro pins s σ H x vs v us Q I rx rv h
  obtain ⟨l, b, xs, zs, rfl, rfl, hH, ⟨_, hB⟩, hz, q⟩ := h
  cases rx
  obtain ⟨u, rfl, ru⟩ := rv.one
  cases ru
  obtain ⟨z, its, n, r, hl, e⟩ := I.lstM hH
  obtain ⟨its2, n2, r2, e2, z2⟩ := I.rdL hB
  have hl2 := r2.length
  have hsz : its.toArray.size + its2.toArray.size ≤ sizeLine := by rw [List.size_toArray, List.size_toArray]; omega
  have hlong : ¬ (!its.toArray.isEmpty && Builtin.List.listTooLong (its.toArray.size + its2.toArray.size)) = true := by
    rw [notLongL hsz, Bool.and_false]
    exact Bool.false_ne_true
  refine call_meets F.slot_list_extend ⟨_, e, rfl⟩ F.entry_list_extend (F.args_list_extend_2 _ _)
    (AutoSeq1.list_extend_list_list_0 l its.toArray n b its2.toArray n2 hlong (by rw [List.size_toArray]; omega) (by omega)) ⟨e, e2, ?_⟩
  refine ⟨.non, _, I.lset (its' := its ++ its2) hH e (by simp) (r.append r2) ?_, rfl, q⟩
  rw [List.length_append]
  omega
def sExtV (i : Nat) (f : FD) : FS := fun δ => (f δ).bind fun d => match d with
  | .lst es => (bldAt δ i).bind fun ds => R.when (decide (ds.length + es.length ≤ sizeLine)) (.ok (.nx (δ.set i (.bld (ds ++ es)))))
  | _ => .no
theorem pds_extV {i : Nat} {x : Str} {e : Expr} {f : FD} {npos apos cpos pos : Pos} (hN : X.N[i]? = some x) (hv : Vis X.env.scope x) (he : PD X e f)
    (hd : (x == ("__debug__" : Str)) = false := by decide) (hcd : (x == ("__classdict__" : Str)) = false := by decide)
    (hs : starEach [e] X.env = (false, eval e X.env) :: starEach [] X.env := by rfl) (hline : (apos.endLine == cpos.line) = true := by rfl)
    (hfew : ((backTo cpos (starEach [e] X.env)).all (fun x => !x.1) && (backToKw cpos (keywordEach [] X.env)).all (fun x => x.1.isSome)
      && decide (([e] : List Expr).length + ([] : List Keyword).length + (if ([] : List Keyword).isEmpty then 0 else 1) < 30)) = true := by rfl)
    (hsw : swapsWith (.Call (.Attribute (.Name x npos) "extend" apos) [e] [] cpos) none pos.line X.env = pure false := by rfl)
    (hbase : attributeBase (.Name x npos) "extend" X.env (eval (.Name x npos) X.env) = eval (.Name x npos) X.env := by rfl) :
    PDs X (.Expr (.Call (.Attribute (.Name x npos) "extend" apos) [e] [] cpos) pos) (sExtV i f) := by
  refine (ps_expr (pe_bm (X := X) PySem.F.plainAttrs_list PySem.F.slot_list_extend PySem.F.type_list_extend mt_extendR (pe_var hN hv hd hcd) (pa_cons he pa_nil hs) hbase hfew hline hs) hsw).imp fun D σ H ⟨Z, B, δ, o, E, hf, q⟩ => ?_
  obtain ⟨d, h1, h2⟩ := R.bind_ok hf
  cases d with
  | lst es =>
    obtain ⟨ds, h3, h4⟩ := R.bind_ok h2
    obtain ⟨hl, h5⟩ := R.when_ok h4
    cases h5
    have hb := bldAt_ok h3
    obtain ⟨a, xs, q1, q2, q3, q4, q5⟩ := E.bld i ds hb
    refine ⟨.ref a, q1, .inl ⟨rfl, xs, SqL.of q4⟩, ⟨Z, B, δ, .lst es, E, h1, fun v H1 s1 r1 => ?_⟩⟩
    have E1 := E.same s1
    obtain ⟨b, ys, rfl, l, r'⟩ := Rep.lst.mp r1
    refine ⟨a, b, xs, ys, rfl, rfl, s1 a _ q4, ⟨_, l⟩, by rw [← q5.length, ← r'.length]; exact of_decide_eq_true hl, ?_⟩
    obtain ⟨E2, p2⟩ := E1.grow (es := ds ++ es) (ys := xs ++ ys) hb q1 q2 (s1 a _ q4) ((q5.same s1).append r')
    exact q σ B _ ((Ev.same E.zb s1).trans (Ev.grow E.zb q3 p2)) E2
  | _ => cases h2
end
end L2

end
section
set_option maxRecDepth 100000
set_option maxHeartbeats 4000000
/-! ## THE DATUM LAYER: its judgements, shut (own) -/
namespace L2
open PySem PySem.Spec PyProof.Rows
structure QD (X : Cx) (e : Expr) (f : FD) : Prop where
  h : PD X e f
structure QN (X : Cx) (e : Expr) (f : DEnv → R (List D)) : Prop where
  h : PN X e f
structure QB (X : Cx) (e : Expr) (f : DEnv → R Bool) : Prop where
  h : PB X e f
structure QBW (X : Cx) (e : Expr) (f : DEnv → R Bool) : Prop where
  h : PBW X e f
structure QAs (X : Cx) (e : List Expr) (f : DEnv → R (List D)) : Prop where
  h : PAs X e f
structure QDs (X : Cx) (e : Stmt) (f : FS) : Prop where
  h : PDs X e f
structure QDss (X : Cx) (e : List Stmt) (f : FS) : Prop where
  h : PDss X e f
structure QTg (X : Cx) (e : Expr) (f : FT) : Prop where
  h : PTg X e f
structure QTgs (X : Cx) (e : List Expr) (f : FTs) : Prop where
  h : PTgs X e f
structure QIt (X : Cx) (tg e : Expr) (f : DEnv → R (List D)) : Prop where
  h : PIt X tg e f
structure QP (X : Cx) (e : Option Expr) (f : FO) : Prop where
  h : PP X e f
structure QJ (X : Cx) (e : List Expr) (f : DEnv → R (List Str)) : Prop where
  h : PJ X e f
structure QIfs (X : Cx) (e : List Expr) (c : DEnv → R Bool) : Prop where
  h : PIfs X e (tTD X.K c)
section
variable {X : Cx}
theorem qpd_new {e : Expr} {f : DEnv → R (List D)} (h : QN X e f) : QD X e (eNew f) := ⟨pd_new h.1⟩
theorem qpd_thaw {e : Expr} {f : FD} (h : QD X e f) : QD X e (eThaw f) := ⟨pd_thaw h.1⟩
theorem qpb_thaw {e : Expr} {f : DEnv → R Bool} (h : QB X e f) : QB X e (bThaw f) := ⟨pb_thaw h.1⟩
theorem qpd_var (i : Nat) {x : Str} {pos : Pos} (hN : X.N[i]? = some x := by rfl) (hv : Vis X.env.scope x := by first | exact Or.inl rfl | exact Or.inr (Or.inl rfl) | exact Or.inr (Or.inr rfl)) (hd : (x == ("__debug__" : Str)) = false := by decide) (hcd : (x == ("__classdict__" : Str)) = false := by decide) : QD X (.Name x pos) (eVar i) := ⟨pd_var i hN hv hd hcd⟩
theorem qpd_int {i j pos} : QD X (.Constant (.int i) j pos) (eC (.int i)) := ⟨pd_int⟩
theorem qpd_bl {b j pos} : QD X (.Constant (.bool b) j pos) (eC (.bl b)) := ⟨pd_bl⟩
theorem qpd_non {j pos} : QD X (.Constant .none j pos) (eC .non) := ⟨pd_non⟩
theorem qpd_str {x j pos} : QD X (.Constant (.str x) j pos) (eC (.str x)) := ⟨pd_str⟩
theorem qpd_glob {x : Str} {d : D} {pos : Pos} (g : Glob X.K X.mg x d) (hg : Gl X x) (hd : (x == ("__debug__" : Str)) = false := by decide) : QD X (.Name x pos) (eC d) := ⟨pd_glob g hg hd⟩
theorem qpas_nil  : QAs X [] aNil := ⟨pas_nil⟩
theorem qpas_cons {e : Expr} {es : List Expr} {f : FD} {g : DEnv → R (List D)} (h : QD X e f) (t : QAs X es g) (hs : starEach (e :: es) X.env = (false, eval e X.env) :: starEach es X.env := by rfl) : QAs X (e :: es) (aCons f g) := ⟨pas_cons h.1 t.1 hs⟩
theorem qpd_tup {es : List Expr} {g : DEnv → R (List D)} {x1 pos} (h : QAs X es g) : QD X (.Tuple es x1 pos) (eTup g) := ⟨pd_tup h.1⟩
theorem qpn_lst {es : List Expr} {g : DEnv → R (List D)} {pos} (h : QAs X es g) : QN X (.List es pos) (nLst g) := ⟨pn_lst h.1⟩
theorem qpd_op {op : Operator} {g : D → D → R D} {a b : Expr} {fa fb : FD} {pos : Pos} (ho : OpD X (binaryOp op) g) (ha : QD X a fa) (hb : QD X b fb) : QD X (.BinOp a op b pos) (e2 g fa fb) := ⟨pd_op ho ha.1 hb.1⟩
theorem qpd_cmp {op : CmpOp} {g : D → D → R D} {a b : Expr} {fa fb : FD} {pos : Pos} (ho : OpD X (compareOp op) g) (ha : QD X a fa) (hb : QD X b fb) (hm : behindInMarks op b = false) : QD X (.Compare a [op] [b] pos) (e2 g fa fb) := ⟨pd_cmp ho ha.1 hb.1 hm⟩
theorem qpb_cmp {op : CmpOp} {g : D → D → R D} {a b : Expr} {fa fb : FD} {pos : Pos} (ho : OpD X (compareOp op) g) (ha : QD X a fa) (hb : QD X b fb) (hm : behindInMarks op b = false) : QB X (.Compare a [op] [b] pos) (b2 g fa fb) := ⟨pb_cmp ho ha.1 hb.1 hm⟩
theorem qpd_chain {op op' : CmpOp} {g g' : D → D → R D} {a b c : Expr} {fa fb fc : FD} {pos : Pos} (ho : OpD X (compareOp op) g) (ho' : OpD X (compareOp op') g') (ha : QD X a fa) (hb : QD X b fb) (hc : QD X c fc) (hm : lastMarks [op, op'] [b, c] = false := by with_unfolding_all rfl) : QD X (.Compare a [op, op'] [b, c] pos) (eChain g g' fa fb fc) := ⟨pd_chain ho ho' ha.1 hb.1 hc.1 hm⟩
theorem qpb_chain {op op' : CmpOp} {g g' : D → D → R D} {a b c : Expr} {fa fb fc : FD} {pos : Pos} (ho : OpD X (compareOp op) g) (ho' : OpD X (compareOp op') g') (ha : QD X a fa) (hb : QD X b fb) (hc : QD X c fc) (hm : lastMarks [op, op'] [b, c] = false := by with_unfolding_all rfl) : QB X (.Compare a [op, op'] [b, c] pos) (fun δ => (eChain g g' fa fb fc δ).bind fun d => match d with | .bl b => .ok b | _ => .no) := ⟨pb_chain ho ho' ha.1 hb.1 hc.1 hm⟩
theorem qpb_tru {a : Expr} {f : FD} (ha : QD X a f) (he : ∀ whole, isTrue a X.env whole = (do let v ← whole; standAt a.pos; holding [v] (truthy v)) := by intro _; rfl) : QB X a (bTru f) := ⟨pb_tru ha.1 he⟩
theorem qPBW_pb {e : Expr} {f : DEnv → R Bool} (h : QBW X e f) : QB X e f := ⟨PBW.pb h.1⟩
theorem qpbw_and1 {a : Expr} {f : DEnv → R Bool} {pos : Pos} (h : QB X a f) : QBW X (.BoolOp .And [a] pos) f := ⟨pbw_and1 h.1⟩
theorem qpbw_or1 {a : Expr} {f : DEnv → R Bool} {pos : Pos} (h : QB X a f) : QBW X (.BoolOp .Or [a] pos) f := ⟨pbw_or1 h.1⟩
theorem qpbw_and {a b : Expr} {rest : List Expr} {f g : DEnv → R Bool} {pos : Pos} (ha : QB X a f) (hb : QBW X (.BoolOp .And (b :: rest) pos) g) : QBW X (.BoolOp .And (a :: b :: rest) pos) (bAnd f g) := ⟨pbw_and ha.1 hb.1⟩
theorem qpbw_or {a b : Expr} {rest : List Expr} {f g : DEnv → R Bool} {pos : Pos} (ha : QB X a f) (hb : QBW X (.BoolOp .Or (b :: rest) pos) g) : QBW X (.BoolOp .Or (a :: b :: rest) pos) (bOr f g) := ⟨pbw_or ha.1 hb.1⟩
theorem qpb_not {a : Expr} {f : DEnv → R Bool} {pos : Pos} (ha : QB X a f) : QB X (.UnaryOp .Not a pos) (bNot f) := ⟨pb_not ha.1⟩
theorem qpd_one {a : Expr} {op} {f : FD} {pos : Pos} (h : QD X a f) : QD X (.BoolOp op [a] pos) f := ⟨pd_one h.1⟩
theorem qpd_and {a b : Expr} {rest : List Expr} {f g : FD} {pos : Pos} (ha : QD X a f) (hb : QD X (.BoolOp .And (b :: rest) pos) g) : QD X (.BoolOp .And (a :: b :: rest) pos) (eAnd f g) := ⟨pd_and ha.1 hb.1⟩
theorem qpd_or {a b : Expr} {rest : List Expr} {f g : FD} {pos : Pos} (ha : QD X a f) (hb : QD X (.BoolOp .Or (b :: rest) pos) g) : QD X (.BoolOp .Or (a :: b :: rest) pos) (eOr f g) := ⟨pd_or ha.1 hb.1⟩
theorem qpd_not {a : Expr} {f : FD} {pos : Pos} (ha : QD X a f) : QD X (.UnaryOp .Not a pos) (eNot f) := ⟨pd_not ha.1⟩
theorem qpd_if {c a b : Expr} {fc : DEnv → R Bool} {f g : FD} {pos : Pos} (hc : QB X c fc) (ha : QD X a f) (hb : QD X b g) : QD X (.IfExp c a b pos) (eIf fc f g) := ⟨pd_if hc.1 ha.1 hb.1⟩
theorem qpd_callB {g : List D → R D} {x : Str} {id : String} {p pos : Pos} {e : Expr} {es : List Expr} {fs : DEnv → R (List D)} (hc : CallD X (.builtin id) g) (hg : Gl X x) (hm : X.mg x = none) (hv : bootBuiltins x = some (.builtin id)) (ha : QAs X (e :: es) fs) (hn : x ≠ "__name__" := by decide) (hdb : (x == ("__debug__" : Str)) = false := by decide) (he : starEach (e :: es) X.env = (false, eval e X.env) :: starEach es X.env := by rfl) (hpl : (backTo pos (starEach es X.env)).any (·.1) = false := by rfl) : QD X (.Call (.Name x p) (e :: es) [] pos) (eCall g fs) := ⟨pd_callB hc hg hm hv ha.1 hn hdb he hpl⟩
theorem qpd_callTy {g : List D → R D} {x : Str} {T : String} {p pos : Pos} {e : Expr} {es : List Expr} {fs : DEnv → R (List D)} (hc : CallD X (.type T) g) (hg : Gl X x) (hm : X.mg x = none) (hv : bootBuiltins x = some (.type T)) (ha : QAs X (e :: es) fs) (hn : x ≠ "__name__" := by decide) (hdb : (x == ("__debug__" : Str)) = false := by decide) (he : starEach (e :: es) X.env = (false, eval e X.env) :: starEach es X.env := by rfl) (hpl : (backTo pos (starEach es X.env)).any (·.1) = false := by rfl) : QD X (.Call (.Name x p) (e :: es) [] pos) (eCall g fs) := ⟨pd_callTy hc hg hm hv ha.1 hn hdb he hpl⟩
theorem qpds_nil  : QDss X [] sNil := ⟨pds_nil⟩
theorem qpds_cons {st : Stmt} {rest : List Stmt} {F G : FS} (h1 : QDs X st F) (h2 : QDss X rest G) : QDss X (st :: rest) (sSeq F G) := ⟨pds_cons h1.1 h2.1⟩
theorem qpds_one {st : Stmt} {F : FS} (h1 : QDs X st F) : QDss X [st] F := ⟨pds_one h1.1⟩
theorem qpds_set {i : Nat} {x : Str} {e : Expr} {f : FD} {pos pos' : Pos} (hN : X.N.Nodup) (hi : X.N[i]? = some x) (hx : Loc X.env.scope x) (he : QD X e f) (hs : swapsWith e (some (.Name x pos')) pos.line X.env = pure false := by rfl) (hf : X.fn x = true ∨ X.env.scope.names.lookup x = some .local := by first | exact .inl rfl | exact .inr rfl | assumption) : QDs X (.Assign [.Name x pos'] e pos) (sSet i f) := ⟨pds_set hN hi hx he.1 hs hf⟩
theorem qpds_bld {i : Nat} {x : Str} {e : Expr} {f : DEnv → R (List D)} {pos pos' : Pos} (hN : X.N.Nodup) (hi : X.N[i]? = some x) (hx : Loc X.env.scope x) (he : QN X e f) (hs : swapsWith e (some (.Name x pos')) pos.line X.env = pure false := by rfl) (hf : X.fn x = true ∨ X.env.scope.names.lookup x = some .local := by first | exact .inl rfl | exact .inr rfl | assumption) : QDs X (.Assign [.Name x pos'] e pos) (sBld i f) := ⟨pds_bld hN hi hx he.1 hs hf⟩
theorem qpds_app {i : Nat} {x : Str} {e : Expr} {f : FD} {npos apos cpos pos : Pos} (hN : X.N[i]? = some x) (hv : Vis X.env.scope x) (he : QD X e f) (hd : (x == ("__debug__" : Str)) = false := by decide) (hcd : (x == ("__classdict__" : Str)) = false := by decide) (hs : starEach [e] X.env = (false, eval e X.env) :: starEach [] X.env := by rfl) (hline : (apos.endLine == cpos.line) = true := by rfl) (hfew : ((backTo cpos (starEach [e] X.env)).all (fun x => !x.1) && (backToKw cpos (keywordEach [] X.env)).all (fun x => x.1.isSome)
      && decide (([e] : List Expr).length + ([] : List Keyword).length + (if ([] : List Keyword).isEmpty then 0 else 1) < 30)) = true := by rfl) (hsw : swapsWith (.Call (.Attribute (.Name x npos) "append" apos) [e] [] cpos) none pos.line X.env = pure false := by rfl) (hbase : attributeBase (.Name x npos) "append" X.env (eval (.Name x npos) X.env) = eval (.Name x npos) X.env := by rfl) : QDs X (.Expr (.Call (.Attribute (.Name x npos) "append" apos) [e] [] cpos) pos) (sApp i f) := ⟨pds_app hN hv he.1 hd hcd hs hline hfew hsw hbase⟩
theorem qpds_ext {i : Nat} {x : Str} {e : Expr} {f : DEnv → R (List D)} {npos apos cpos pos : Pos} (hN : X.N[i]? = some x) (hv : Vis X.env.scope x) (he : QN X e f) (hd : (x == ("__debug__" : Str)) = false := by decide) (hcd : (x == ("__classdict__" : Str)) = false := by decide) (hs : starEach [e] X.env = (false, eval e X.env) :: starEach [] X.env := by rfl) (hline : (apos.endLine == cpos.line) = true := by rfl) (hfew : ((backTo cpos (starEach [e] X.env)).all (fun x => !x.1) && (backToKw cpos (keywordEach [] X.env)).all (fun x => x.1.isSome)
      && decide (([e] : List Expr).length + ([] : List Keyword).length + (if ([] : List Keyword).isEmpty then 0 else 1) < 30)) = true := by rfl) (hsw : swapsWith (.Call (.Attribute (.Name x npos) "extend" apos) [e] [] cpos) none pos.line X.env = pure false := by rfl) (hbase : attributeBase (.Name x npos) "extend" X.env (eval (.Name x npos) X.env) = eval (.Name x npos) X.env := by rfl) : QDs X (.Expr (.Call (.Attribute (.Name x npos) "extend" apos) [e] [] cpos) pos) (sExt i f) := ⟨pds_ext hN hv he.1 hd hcd hs hline hfew hsw hbase⟩
theorem qpds_frz (i : Nat) {sts : List Stmt} {F : FS} (h : QDss X sts F) : QDss X sts (sFrz i F) := ⟨pds_frz i h.1⟩
theorem qpds_ret {e : Expr} {f : FD} {pos : Pos} (he : QD X e f) : QDs X (.Return (some e) pos) (sRet f) := ⟨pds_ret he.1⟩
theorem qpds_if {c : Expr} {a b : List Stmt} {fc : DEnv → R Bool} {F G : FS} {pos : Pos} (hc : QB X c fc) (ha : QDss X a F) (hb : QDss X b G) : QDs X (.If c a b pos) (sIf fc F G) := ⟨pds_if hc.1 ha.1 hb.1⟩
theorem qptg_name {i : Nat} {x : Str} {pos : Pos} (hN : X.N.Nodup) (hi : X.N[i]? = some x) (hx : Loc X.env.scope x) (hf : X.fn x = true ∨ X.env.scope.names.lookup x = some .local := by first | exact .inl rfl | exact .inr rfl | assumption) : QTg X (.Name x pos) (gNameD i) := ⟨ptg_name hN hi hx hf⟩
theorem qptgs_nil  : QTgs X [] gNilD := ⟨ptgs_nil⟩
theorem qptgs_cons {e : Expr} {es : List Expr} {t : FT} {u : FTs} (h1 : QTg X e t) (h2 : QTgs X es u) (hs : (assignEach (e :: es) X.env).map (·.2) = assign e X.env :: (assignEach es X.env).map (·.2) := by rfl) : QTgs X (e :: es) (gConsD t u) := ⟨ptgs_cons h1.1 h2.1 hs⟩
theorem qptg_tup {es : List Expr} {k : Nat} {t : FTs} {n : Nat} {pos : Pos} (hc : X.calm = true) (h : QTgs X es t) (hn : (assignEach es X.env).length = n := by rfl) (hst : (assignEach es X.env).findIdx? (·.1) = none := by rfl) : QTg X (.Tuple es k pos) (gTupD n t) := ⟨ptg_tup hc h.1 hn hst⟩
theorem qpds_asg {tg e : Expr} {f : FD} {t : FT} {pos : Pos} (he : QD X e f) (hg : QTg X tg t) (hs : swapsWithSole [tg] e pos.line X.env = pure false := by rfl) (hw : swappedStores [tg] e X.env = pure none := by rfl) (h1 : (assignEach [tg] X.env).map (·.2) = [assign tg X.env] := by rfl) : QDs X (.Assign [tg] e pos) (sAsg f t) := ⟨pds_asg he.1 hg.1 hs hw h1⟩
theorem qpit_seq {tg e : Expr} {f : FD} (h : QD X e f) : QIt X tg e (itSeq f) := ⟨pit_seq h.1⟩
theorem qpit_range1 {tg a : Expr} {f : FD} {p pos : Pos} (h : QD X a f) (hg : Gl X "range") (hm : X.mg "range" = none) (hs : starEach [a] X.env = [(false, eval a X.env)] := by rfl) : QIt X tg (.Call (.Name "range" p) [a] [] pos) (itRng1 f) := ⟨pit_range1 h.1 hg hm hs⟩
theorem qpit_range2 {tg a b : Expr} {f g : FD} {p pos : Pos} (h : QD X a f) (h' : QD X b g) (hg : Gl X "range") (hm : X.mg "range" = none) (hs : starEach [a, b] X.env = [(false, eval a X.env), (false, eval b X.env)] := by rfl) (hs2 : starEach [b] X.env = [(false, eval b X.env)] := by rfl) : QIt X tg (.Call (.Name "range" p) [a, b] [] pos) (itRng2 f g) := ⟨pit_range2 h.1 h'.1 hg hm hs hs2⟩
theorem qpds_for {tg iter : Expr} {body : List Stmt} {it : DEnv → R (List D)} {t : FT} {F : FS} {pos : Pos} (hp : PassesOwn (model X.prog X.w) X.A X.env X.xe) (hc : X.calm = true) (hi : QIt X tg iter it) (hg : QTg X tg t) (hb : QDss X body F) (hs : ∀ x, foldedSetIterable iter X.env x = pure x := by intro _; rfl) : QDs X (.For tg iter body [] pos) (sFor it t F) := ⟨pds_for hp hc hi.1 hg.1 hb.1 hs⟩
theorem qpds_while (n : Nat) {c : Expr} {body : List Stmt} {fc : DEnv → R Bool} {F : FS} {pos : Pos} (hp : PassesOwn (model X.prog X.w) X.A X.env X.xe) (hc : QB X c fc) (hb : QDss X body F) : QDs X (.While c body [] pos) (sWhile n fc F) := ⟨pds_while n hp hc.1 hb.1⟩
theorem qpn_comp {scope : Scope} {own : List Str} {kp : List Nat} {kn : List Str} {tg iter elt : Expr} {ifs : List Expr} {it : DEnv → R (List D)} {t : FT} {c : DEnv → R Bool} {f : FD} {pos : Pos} (hc : X.calm = true) (C : CScope X scope own kp kn) (hi : QIt X tg iter it) (hg : ∀ fp s H, QTg (cxComp X scope (own ++ kn) fp s H) tg t) (hif : ∀ fp s H, QIfs (cxComp X scope (own ++ kn) fp s H) ifs c) (he : ∀ fp s H, QD (cxComp X scope (own ++ kn) fp s H) elt f) (hs : ∀ x, foldedSetIterable iter X.env x = pure x := by intro _; rfl) : QN X (.ListComp elt [⟨tg, iter, ifs, 0⟩] scope pos) (nComp it t c f own kp) := ⟨pn_comp hc C hi.1 (fun fp s H => (hg fp s H).1) (fun fp s H => (hif fp s H).1) (fun fp s H => (he fp s H).1) hs⟩
theorem qpifs_yes  : QIfs X [] cYes := ⟨pifs_yes⟩
theorem qpifs_if {e : Expr} {c : DEnv → R Bool} (h : QB X e c) : QIfs X [e] c := ⟨pifs_if h.1⟩
theorem qpds_setComp {i : Nat} {x : Str} {pos' spos : Pos} {scope : Scope} {own : List Str} {kp : List Nat} {kn : List Str} {tg iter elt : Expr} {ifs : List Expr} {it : DEnv → R (List D)} {t : FT} {c : DEnv → R Bool} {f : FD} {pos : Pos} (hc : X.calm = true) (hN : X.N.Nodup) (hx : X.N[i]? = some x) (hxl : X.env.scope.names.lookup x = some .local) (C : CScope X scope own kp kn) (hi : QIt X tg iter it) (hg : ∀ fp s H, QTg (cxComp X scope (own ++ kn) fp s H) tg t) (hif : ∀ fp s H, QIfs (cxComp X scope (own ++ kn) fp s H) ifs c) (he : ∀ fp s H, QD (cxComp X scope (own ++ kn) fp s H) elt f) (hsw : swapsWith (.ListComp elt [⟨tg, iter, ifs, 0⟩] scope pos) (some (.Name x pos')) spos.line X.env = pure true := by rfl) (hs : ∀ x, foldedSetIterable iter X.env x = pure x := by intro _; rfl) : QDs X (.Assign [.Name x pos'] (.ListComp elt [⟨tg, iter, ifs, 0⟩] scope pos) spos) (sSet i (eNew (nComp it t c f own kp))) := ⟨pds_setComp hc hN hx hxl C hi.1 (fun fp s H => (hg fp s H).1) (fun fp s H => (hif fp s H).1) (fun fp s H => (he fp s H).1) hsw hs⟩
theorem qpds_bldComp {i : Nat} {x : Str} {pos' spos : Pos} {scope : Scope} {own : List Str} {kp : List Nat} {kn : List Str} {tg iter elt : Expr} {ifs : List Expr} {it : DEnv → R (List D)} {t : FT} {c : DEnv → R Bool} {f : FD} {pos : Pos} (hc : X.calm = true) (hN : X.N.Nodup) (hx : X.N[i]? = some x) (hxl : X.env.scope.names.lookup x = some .local) (C : CScope X scope own kp kn) (hi : QIt X tg iter it) (hg : ∀ fp s H, QTg (cxComp X scope (own ++ kn) fp s H) tg t) (hif : ∀ fp s H, QIfs (cxComp X scope (own ++ kn) fp s H) ifs c) (he : ∀ fp s H, QD (cxComp X scope (own ++ kn) fp s H) elt f) (hsw : swapsWith (.ListComp elt [⟨tg, iter, ifs, 0⟩] scope pos) (some (.Name x pos')) spos.line X.env = pure true := by rfl) (hs : ∀ x, foldedSetIterable iter X.env x = pure x := by intro _; rfl) : QDs X (.Assign [.Name x pos'] (.ListComp elt [⟨tg, iter, ifs, 0⟩] scope pos) spos) (sBld i (nComp it t c f own kp)) := ⟨pds_bldComp hc hN hx hxl C hi.1 (fun fp s H => (hg fp s H).1) (fun fp s H => (hif fp s H).1) (fun fp s H => (he fp s H).1) hsw hs⟩
theorem qpd_ix {a b : Expr} {fa fb : FD} {pos : Pos} (ha : QD X a fa) (hb : QD X b fb) (hs : PlainIx b) : QD X (.Subscript a b pos) (e2 ixD fa fb) := ⟨pd_ix ha.1 hb.1 hs⟩
theorem qpp_none  : QP X none oNone := ⟨pp_none⟩
theorem qpp_some {e : Expr} {f : FD} (h : QD X e f) : QP X (some e) (oSome f) := ⟨pp_some h.1⟩
theorem qpd_sl {e : Expr} {lo hi : Option Expr} {f : FD} {fl fh : FO} {p2 pos : Pos} (he : QD X e f) (hl : QP X lo fl) (hh : QP X hi fh) : QD X (.Subscript e (.Slice lo hi none p2) pos) (eSl f fl fh) := ⟨pd_sl he.1 hl.1 hh.1⟩
theorem qpd_isT {T : Str} {Ts : String} {p p2 pos : Pos} {e : Expr} {f : FD} (he : QD X e f) (hg : Gl X "isinstance") (hm : X.mg "isinstance" = none) (hgT : Gl X T) (hmT : X.mg T = none) (hvT : bootBuiltins T = some (.type Ts)) (hnT : T ≠ "__name__" := by decide) (hdT : (T == ("__debug__" : Str)) = false := by decide) (hs : starEach [e, .Name T p2] X.env = (false, eval e X.env) :: starEach [.Name T p2] X.env := by rfl) (hpl : (backTo pos (starEach [.Name T p2] X.env)).any (·.1) = false := by rfl) : QD X (.Call (.Name "isinstance" p) [e, .Name T p2] [] pos) (eIsT Ts f) := ⟨pd_isT he.1 hg hm hgT hmT hvT hnT hdT hs hpl⟩
theorem qpd_join {o e : Expr} {f : FD} {fs : DEnv → R (List D)} {apos cpos : Pos} (ho : QD X o f) (ha : QAs X [e] fs) (hbase : attributeBase o "join" X.env (eval o X.env) = eval o X.env := by rfl) (hfew : ((backTo cpos (starEach [e] X.env)).all (fun x => !x.1) && (backToKw cpos (keywordEach [] X.env)).all (fun x => x.1.isSome)
      && decide (([e] : List Expr).length + ([] : List Keyword).length + (if ([] : List Keyword).isEmpty then 0 else 1) < 30)) = true := by rfl) (hline : (apos.endLine == cpos.line) = true := by rfl) (hs : starEach [e] X.env = (false, eval e X.env) :: starEach [] X.env := by rfl) : QD X (.Call (.Attribute o "join" apos) [e] [] cpos) (eMt "str" mJoin f fs) := ⟨pd_join ho.1 ha.1 hbase hfew hline hs⟩
theorem qpj_nil  : QJ X [] jNil := ⟨pj_nil⟩
theorem qpj_cons {e : Expr} {es : List Expr} {f : FD} {g : DEnv → R (List Str)} (he : QD X e f) (hr : QJ X es g) (hev : evalEach (e :: es) X.env = eval e X.env :: evalEach es X.env := by rfl) : QJ X (e :: es) (jCons f g) := ⟨pj_cons he.1 hr.1 hev⟩
theorem qpd_joined {v₁ v₂ : Expr} {rest : List Expr} {pos : Pos} {g : DEnv → R (List Str)} (h : QJ X (v₁ :: v₂ :: rest) g) : QD X (.JoinedStr (v₁ :: v₂ :: rest) pos) (eJoined g) := ⟨pd_joined h.1⟩
theorem qpd_fmt {e : Expr} {pos : Pos} {f : FD} (h : QD X e f) : QD X (.FormattedValue e (-1) none pos) (eFmt f) := ⟨pd_fmt h.1⟩
theorem qpit_str {tg e : Expr} {f : FD} (h : QD X e f) : QIt X tg e (itStr f) := ⟨pit_str h.1⟩
theorem qpit_enum {elts : List Expr} {k : Nat} {tpos : Pos} {a : Expr} {f : FD} {p pos : Pos} (h : QD X a f) (hg : Gl X "enumerate") (hm : X.mg "enumerate" = none) (hs : starEach [a] X.env = [(false, eval a X.env)] := by rfl) : QIt X (.Tuple elts k tpos) (.Call (.Name "enumerate" p) [a] [] pos) (itEnum f) := ⟨pit_enum h.1 hg hm hs⟩
theorem qfn_pureB {P : Program} {w : World} {K : PySem.W.Frag} {mg : Str → Option Value} {base : Heap} {x qual : Str} {st : Stmt} {f : Addr} {fd : FuncData} {N ps : List Str} {k : Nat} {F : FS} {b : List Stmt} {sc : Scope} (hb : defBody st = b) (hs : defScope st = sc) (Fn : Fun K x qual st f fd) (S : FnScope N ps sc) (hbody : ∀ (cdv : Value) (A : Around) (outer : List Env) (s : Shared) (H : Hp) (E : XK), Room k (A.deeper (envOfC qual sc s.heap.objs.size f cdv)) →
      QDss (cxOf CX0 P w K mg base N qual sc f cdv A outer s H E).nox b F) : FnOk P w K mg base CX0 (k + 1) f fd ps (spD K ps.length (fnD N F)) := fn_pureB hb hs Fn S (fun cdv A outer s H E hr => (hbody cdv A outer s H E hr).1)
theorem qpd_callC {g : List D → R D} {k j n : Nat} {x : Str} {p pos : Pos} {e : Expr} {es : List Expr} {fs : DEnv → R (List D)} (C : Callee X.prog X.w X.K X.mg X.base k x n g) (hr : Room j X.A) (hkj : k ≤ j) (hg : Gl X x) (ha : QAs X (e :: es) fs) (hn : ∀ δ ds, fs δ = .ok ds → ds.length = n) (hdb : (x == ("__debug__" : Str)) = false := by decide) (he : starEach (e :: es) X.env = (false, eval e X.env) :: starEach es X.env := by rfl) (hpl : (backTo pos (starEach es X.env)).any (·.1) = false := by rfl) : QD X (.Call (.Name x p) (e :: es) [] pos) (eCall g fs) := ⟨pd_callC C hr hkj hg ha.1 hn hdb he hpl⟩
theorem qpd_get {keys : List (Option Expr)} {values : List Expr} {trs : List (TE × TE)} {dpos apos cpos : Pos} {e f : Expr} {fe ff : FD} {kvs : List (Key × V)} (hu : X.A.units + 1 < cLine) (h : PPs X dpos keys values trs) (hall : keys.all (·.isSome) = true) (hl : keys.length = values.length) (h0 : keys ≠ []) (hc : ∀ σ H Q, Q (kvs.map fun kv => (kV kv.1, kv.2)) H → tPairs trs σ H Q) (hlen : kvs.length ≤ 15) (he : QD X e fe) (hf : QD X f ff) (m : M2 X (.Dict keys values dpos) "get" apos e f cpos) (hd : PE X (.Dict keys values dpos) (tDisp trs)) : QD X (.Call (.Attribute (.Dict keys values dpos) "get" apos) [e, f] [] cpos) (eGet kvs fe ff) := ⟨pd_get hu h hall hl h0 hc hlen he.1 hf.1 m hd⟩
theorem qpds_extV {i : Nat} {x : Str} {e : Expr} {f : FD} {npos apos cpos pos : Pos} (hN : X.N[i]? = some x) (hv : Vis X.env.scope x) (he : QD X e f) (hd : (x == ("__debug__" : Str)) = false := by decide) (hcd : (x == ("__classdict__" : Str)) = false := by decide) (hs : starEach [e] X.env = (false, eval e X.env) :: starEach [] X.env := by rfl) (hline : (apos.endLine == cpos.line) = true := by rfl) (hfew : ((backTo cpos (starEach [e] X.env)).all (fun x => !x.1) && (backToKw cpos (keywordEach [] X.env)).all (fun x => x.1.isSome)
      && decide (([e] : List Expr).length + ([] : List Keyword).length + (if ([] : List Keyword).isEmpty then 0 else 1) < 30)) = true := by rfl) (hsw : swapsWith (.Call (.Attribute (.Name x npos) "extend" apos) [e] [] cpos) none pos.line X.env = pure false := by rfl) (hbase : attributeBase (.Name x npos) "extend" X.env (eval (.Name x npos) X.env) = eval (.Name x npos) X.env := by rfl) : QDs X (.Expr (.Call (.Attribute (.Name x npos) "extend" apos) [e] [] cpos) pos) (sExtV i f) := ⟨pds_extV hN hv he.1 hd hcd hs hline hfew hsw hbase⟩
end
end L2

end
section
set_option maxRecDepth 100000
set_option maxHeartbeats 4000000
/-! ## a law that is a pure def (own; law_call of the layer, with the script's object told whole) -/
namespace L2
open PySem PySem.Spec PyProof.Rows
theorem law_callR {P : Program} {w : World} {K : PySem.W.Frag} {mg mb : Str → Option Value} {CX : CXT} {k : Nat} {fa a : Addr} {fd : FuncData} {x : Str} {sp : Sp} {s₁ : Shared} {vs : List Value} {ns : List Int}
    (KX : K.In s₁.heap) (hns : s₁.heap.Ns mainGlobals mg) (hb : s₁.heap.Ns builtinsNs mb) (hbb : ∀ x : Str, x ≠ "__name__" → mb x = bootBuiltins x) (hlim : s₁.heap.NoLimit) (hg : s₁.gens = #[])
    (ha : s₁.heap.get? a = some { cls := .type "list", data := .seq vs.toArray }) (hi : IntsAre vs ns) (hl : ns.length ≤ sizeLine) (hr : Room k callerA)
    (F : ∀ base : Heap, K.In base → base.Ns mainGlobals mg → FnOk P w K mg base CX k fa fd [x] sp) (hbind : ∀ (s : Shared) (u : Value), BindsTo s fd ⟨[u], []⟩ [(x, u)])
    (hsp : ∀ H : Hp, Only H → LsF K [] H a (ns.map V.int) → sp [.ref a] H (fun v _ => v = .bl true) fun _ _ _ => False)
    (hCX : ∀ H e s', CX [] H s₁ (fun _ _ _ => False) e s' → False) :
    codeAny (model P w) callerA (.call (.ref fa) ⟨[.ref a], []⟩) (fun r s' => r = .ok (.ret (.bool true)) ∧ OldK s₁.heap s'.heap ∧ s'.os = s₁.os ∧ AllBare s'.gens) s₁ := by
  have rv := vals_ints hi
  have lenV := hi.length
  -- from an abstract heap in which nothing but the script may be tracked
  have core : ∀ H : Hp, Only H → LsF K [] H a (ns.map V.int) → HOk P w H s₁.heap → (∀ b, H b ≠ none → b = a) → (H a ≠ none → K.lookup a = none) →
      codeAny (model P w) callerA (.call (.ref fa) ⟨[.ref a], []⟩) (fun r s' => r = .ok (.ret (.bool true)) ∧ OldK s₁.heap s'.heap ∧ s'.os = s₁.os ∧ AllBare s'.gens) s₁ := by
    intro H hO hS hok hA hK
    have base_of : ∀ {b : Addr} {o : Obj}, s₁.heap.get? b = some o → H b = none → (hidT s₁.heap H).get? b = some o := fun e n => hidT_get e n
    have noA : ∀ {b : Addr} {o : Obj} {es : Array DictEntry} {ep : Nat}, s₁.heap.get? b = some o → o.data = .dict es ep → H b = none := fun {b o es ep} e d => by
      cases q : H b with
      | none => rfl
      | some u =>
        have e' : b = a := hA b (by rw [q]; simp)
        subst e'
        rw [ha] at e; cases e
        have d' : Data.seq vs.toArray _ = Data.dict es ep := d
        cases d'
    have nsK : ∀ {b : Addr} {m : Str → Option Value}, s₁.heap.Ns b m → (hidT s₁.heap H).Ns b m := fun {b m} ⟨o, es, ep, e, d, r⟩ => ⟨o, es, ep, base_of e (noA e d), d, r⟩
    have hKb : K.In (hidT s₁.heap H) := fun b o e => base_of (KX b o e) (by
      cases q : H b with
      | none => rfl
      | some u =>
        have e' : b = a := hA b (by rw [q]; simp)
        subst e'
        rw [hK (by rw [q]; simp)] at e; cases e)
    have hM : Mod K mg (hidT s₁.heap H) := ⟨hKb, nsK hns, ⟨mb, nsK hb, hbb⟩, let ⟨mc, h1, h2⟩ := hlim; ⟨mc, nsK h1, h2⟩⟩
    have e0 : Env0 P w K mg (hidT s₁.heap H) callerA [] s₁ H := ⟨rfl, hM, fun b o e => of_hidT e, Nat.le_of_eq (hidT_size _ _), trivial, fun b hb => absurd (show b ∈ ([] : List Addr) from hb) (by simp), hok, .of_eq hg⟩
    refine codeAny_mono ((F _ hKb (nsK hns)).run callerA [] s₁ H ⟨[.ref a], []⟩ [.ref a] [.ref a] _ _ hr e0 (hbind s₁ (.ref a)) (.cons rfl .nil) (hsp H hO hS)) fun r s' h => ?_
    cases r with
    | error e => exact (hCX H e s' h).elim
    | ok fl =>
      cases fl with
      | next => exact False.elim h
      | brk => exact False.elim h
      | cont => exact False.elim h
      | ret u =>
        obtain ⟨v, H', os, bare, un, hok', r', q⟩ := h
        have q' : v = .bl true := q
        subst q'
        obtain rfl : u = Value.bool true := r'
        refine ⟨rfl, OldK.of_keep fun b o e => ?_, os, bare⟩
        cases q : H b with
        | none => exact un.keep b o e q (by intro z; exact absurd (show b ∈ ([] : List Addr) from z) (by simp)) (by simp)
        | some u =>
          rcases hO b with z | ⟨ob, xs, z⟩
          · rw [q] at z; cases z
          · have z2 := un.frzs b ob _ z
            obtain ⟨e1, _⟩ := hok b _ z
            obtain ⟨e2, _⟩ := hok' b _ z2
            rw [e] at e1; cases e1
            exact e2
  cases hk : K.lookup a with
  | some o =>
    -- the script is one of the module's own objects
    have e := KX a o hk
    rw [ha] at e
    cases e
    refine core (fun _ => none) (fun _ => .inl rfl) (.inr ⟨vs, _, hk, by rw [List.length_map]; exact hl, rv⟩) (fun b u z => by have z' : (none : Option HO) = some u := z; cases z') (fun b z => absurd rfl z) fun z => absurd rfl z
  | none =>
    refine core (fun b => if b = a then some (.frz { cls := .type "list", data := .seq vs.toArray } (.lst (ns.map V.int))) else none) (fun b => ?_) (.inl ⟨by simp, .inr ⟨{ cls := .type "list", data := .seq vs.toArray }, if_pos rfl⟩⟩) (fun b u z => ?_) (fun b z => ?_) fun _ => hk
    · by_cases hb : b = a
      · exact .inr ⟨_, _, if_pos hb⟩
      · exact .inl (if_neg hb)
    · by_cases hb : b = a
      · have z' := (if_pos hb).symm.trans z
        cases z'
        subst hb
        exact ⟨ha, by rw [List.length_map]; exact hl, vs, _, rv, ha⟩
      · have z' := (if_neg hb).symm.trans z
        cases z'
    · by_cases hb : b = a
      · exact hb
      · exact absurd (if_neg hb) z

theorem ints_rep {K : PySem.W.Frag} {B : List Addr} {H : Hp} : ∀ ns : List Int, Reps K B H (ns.map D.int) (ns.map V.int)
  | [] => Reps.nil
  | n :: ns => Reps.cons (Rep.int.mpr rfl) (ints_rep ns)
theorem walkL {l : PySem.W.OpenLaw} {n k : Nat} {q : Program} {loose : List Str} {XP : (Str → Option Value) → Heap → Prop} {YP : World → Heap → Prop} {d : DefRec} {K : Params → PySem.W.Frag} {x : Str} {g : List D → R D}
    (hn : l.most = some n) (hn2 : n ≤ sizeLine) (hdf : d.params.defaults = []) (hr : Room k callerA) (hY : ∀ (w : World) (h : Heap), YP w h → (K w.params).In h)
    (F : ∀ (w : World) (mg : Str → Option Value) (fa : Addr) (h : Heap), (K w.params).In h → h.Ns mainGlobals mg → mg d.name = some (.ref fa) →
      ∃ fd : FuncData, (∀ (s : Shared) (u : Value), BindsTo s fd ⟨[u], []⟩ [(x, u)]) ∧ ∀ base : Heap, (K w.params).In base → base.Ns mainGlobals mg → FnOk l.prog w (K w.params) mg base CX0 k fa fd [x] (spD (K w.params) 1 g))
    (hg : ∀ ns : List Int, ns.length ≤ n → g [.lst (ns.map D.int)] = .ok (.bl true)) : PySem.W.WalkO q loose XP YP l.row.toRowW d [] (fun f vs => PySem.call f vs) := by
  refine Att.attach_call hn hdf fun w s₀ s₁ mg mb fa o pm cd doc a vs ns G Y ho hd hcd hmg hobj hints hlen hgen => ?_
  have KX := hY w _ Y
  obtain ⟨fd, hb, hF⟩ := F w mg fa _ KX G.T.g hmg
  refine law_callR KX G.T.g G.T.b G.T.builtins G.T.nolimit hgen hobj hints (Nat.le_trans hlen hn2) hr hF hb (fun H hO hS => ?_) fun H e s' h => h
  refine ⟨rfl, [], [.lst (ns.map D.int)], .bl true, fun b hb => (by cases hb), Reps.cons (Rep.lst.mpr ⟨_, _, rfl, hS, ints_rep ns⟩) Reps.nil, hg ns hlen, fun z H' _ r => Rep.bl.mp r⟩
theorem def_mk {K : PySem.W.Frag} {h : Heap} {mg : Str → Option Value} {x : Str} {st : Stmt} {f : Addr} {oc : Value} {od an : Option Addr} {osl : Array (Option Value)} {kV doc pm cdv ct : Value} (X : K.In h) (G : h.Ns mainGlobals mg) (a : PySem.W.nsIn K mainGlobals x = some (some (.ref f)))
    (l : K.lookup f = some ⟨oc, od, .func (PySem.W.fnOf x x (defArgs st) (defBody st) (defScope st) .none kV doc pm an cdv ct), osl⟩) (c : PySem.W.codeIn K cdv x = true) (k : PySem.W.keepIn K (.ref f) = true) : Def K mg x st :=
  ⟨f, _, fun_mk l c k, PySem.W.mg_of X G a⟩
/-- a module's constant, from what the top has written -/
theorem glob_str {K : PySem.W.Frag} {h : Heap} {mg : Str → Option Value} (X : K.In h) (G : h.Ns mainGlobals mg) {x y : Str} {t : Tok} (a : PySem.W.nsIn K mainGlobals x = some (some (.str y t))) : Glob K mg x (.str y) :=
  ⟨_, .str y, PySem.W.mg_of X G a, ⟨t, rfl⟩, fun _ _ => Rep.str.mpr rfl⟩
theorem glob_int {K : PySem.W.Frag} {h : Heap} {mg : Str → Option Value} (X : K.In h) (G : h.Ns mainGlobals mg) {x : Str} {i : Int} {t : Tok} (a : PySem.W.nsIn K mainGlobals x = some (some (.int i t))) : Glob K mg x (.int i) :=
  ⟨_, .int i, PySem.W.mg_of X G a, ⟨t, rfl⟩, fun _ _ => Rep.int.mpr rfl⟩
theorem strs_rep {K : PySem.W.Frag} {B : List Addr} {H : Hp} : ∀ ss : List Str, Reps K B H (ss.map D.str) (ss.map V.str)
  | [] => Reps.nil
  | n :: ns => Reps.cons (Rep.str.mpr rfl) (strs_rep ns)
theorem glob_tup {K : PySem.W.Frag} {h : Heap} {mg : Str → Option Value} (X : K.In h) (G : h.Ns mainGlobals mg) {x : Str} {a : Addr} {o : Obj} {its : Array Value} {n : Nat} (ss : List Str) (e : PySem.W.nsIn K mainGlobals x = some (some (.ref a))) (l : K.lookup a = some o) (hc : o.cls = .type "tuple") (hd : o.data = .seq its n)
    (hz : its.size ≤ sizeLine) (r : Vals (ss.map V.str) its.toList) : Glob K mg x (.tup (ss.map D.str)) :=
  ⟨_, .ref a, PySem.W.mg_of X G e, rfl, fun B H => Rep.tup.mpr ⟨a, _, rfl, .inr ⟨o, its, n, l, hc, hd, hz, r⟩, strs_rep ss⟩⟩
end L2

end
section
set_option maxRecDepth 100000
set_option maxHeartbeats 4000000
/-! ## what loops and comprehensions are worth (own) -/
namespace L2
open PySem PySem.Spec PyProof.Rows

theorem loopD_from {t : FT} {body : FS} : ∀ (ds : List D) (n : Nat) (P : Nat → DEnv → Prop) {δ : DEnv}, P n δ →
    (∀ i d δ, ds[i]? = some d → P (n + i) δ → ∃ δ', ((t d δ).bind body) = .ok (.nx δ') ∧ P (n + i + 1) δ') → ∃ δ', loopD t body ds δ = .ok (.nx δ') ∧ P (n + ds.length) δ'
  | [], n, P, δ, h0, _ => ⟨δ, rfl, h0⟩
  | d :: ds, n, P, δ, h0, hs => by
    obtain ⟨δ1, e1, p1⟩ := hs 0 d δ rfl h0
    obtain ⟨δ2, e2, p2⟩ := loopD_from ds (n + 1) P p1 (fun i d' δ' hi hp => by
      have := hs (i + 1) d' δ' (by simpa using hi) (by rw [show n + (i + 1) = n + 1 + i by omega]; exact hp)
      rw [show n + (i + 1) + 1 = n + 1 + i + 1 by omega] at this
      exact this)
    refine ⟨δ2, ?_, by rw [List.length_cons, show n + (ds.length + 1) = n + 1 + ds.length by omega]; exact p2⟩
    obtain ⟨δ0, h1, h2⟩ := R.bind_ok e1
    show (t d δ).bind (fun δ1 => (body δ1).bind fun o => match o with | .nx δ2 => loopD t body ds δ2 | .rt r => .ok (.rt r)) = _
    rw [h1, R.ok_bind, h2, R.ok_bind]
    exact e2
theorem loopD_inv {t : FT} {body : FS} {ds : List D} (P : Nat → DEnv → Prop) {δ : DEnv} (h0 : P 0 δ)
    (hs : ∀ i d δ, ds[i]? = some d → P i δ → ∃ δ', ((t d δ).bind body) = .ok (.nx δ') ∧ P (i + 1) δ') : ∃ δ', loopD t body ds δ = .ok (.nx δ') ∧ P ds.length δ' := by
  have := loopD_from (t := t) (body := body) ds 0 P h0 (fun i d δ hi hp => by simpa using hs i d δ hi (by simpa using hp))
  simpa using this
theorem compL_map {t : FT} {c : DEnv → R Bool} {f : FD} {δ : DEnv} (g : D → D) : ∀ {ds : List D}, (∀ d ∈ ds, ∃ δ1, t d δ = .ok δ1 ∧ c δ1 = .ok true ∧ f δ1 = .ok (g d)) → compL t c f δ ds = .ok (ds.map g)
  | [], _ => rfl
  | d :: ds, h => by
    obtain ⟨δ1, h1, h2, h3⟩ := h d List.mem_cons_self
    have ih := compL_map (t := t) (c := c) (f := f) (δ := δ) g (fun d' hd => h d' (List.mem_cons_of_mem _ hd))
    unfold compL
    rw [h1, R.ok_bind, h2, R.ok_bind, if_pos rfl, h3, R.ok_bind, ih]
    rfl
theorem compL_filter {t : FT} {c : DEnv → R Bool} {f : FD} {δ : DEnv} (p : D → Bool) (g : D → D) : ∀ {ds : List D}, (∀ d ∈ ds, ∃ δ1, t d δ = .ok δ1 ∧ c δ1 = .ok (p d) ∧ f δ1 = .ok (g d)) → compL t c f δ ds = .ok ((ds.filter p).map g)
  | [], _ => rfl
  | d :: ds, h => by
    obtain ⟨δ1, h1, h2, h3⟩ := h d List.mem_cons_self
    have ih := compL_filter (t := t) (c := c) (f := f) (δ := δ) p g (fun d' hd => h d' (List.mem_cons_of_mem _ hd))
    unfold compL
    rw [h1, R.ok_bind, h2, R.ok_bind]
    cases e : p d with
    | true => rw [if_pos rfl, h3, R.ok_bind, ih, List.filter_cons, if_pos e]; rfl
    | false => rw [if_neg (by decide), ih, List.filter_cons, if_neg (by rw [e]; decide)]
/-- more things than places: one is not there -/
theorem pigeon {α : Type} [DecidableEq α] : ∀ (L F : List α), L.Nodup → (∀ x ∈ L, x ∈ F) → L.length ≤ F.length
  | [], _, _, _ => Nat.zero_le _
  | x :: L, F, hn, hs => by
    obtain ⟨h1, h2⟩ := List.nodup_cons.mp hn
    have hx : x ∈ F := hs x List.mem_cons_self
    have ih := pigeon L (F.erase x) h2 (fun y hy => (List.mem_erase_of_ne (fun (e : y = x) => h1 (by rw [← e]; exact hy))).mpr (hs y (List.mem_cons_of_mem _ hy)))
    rw [List.length_erase_of_mem hx] at ih
    have : 0 < F.length := List.length_pos_of_mem hx
    rw [List.length_cons]
    omega
theorem atI_of {α : Type} {xs : List α} {i : Int} (h0 : 0 ≤ i) (h : i.toNat < xs.length) : atI xs i = some xs[i.toNat] := by
  unfold atI ixN
  rw [if_pos h0, if_pos (by omega)]
  simp [h]
theorem atI_mem {α : Type} {xs : List α} {i : Int} {x : α} (h : atI xs i = some x) : x ∈ xs := by
  obtain ⟨j, _, e, _⟩ := atI_get h
  exact List.mem_of_getElem? e
theorem strs_map : ∀ ss : List Str, strs? (ss.map D.str) = some ss
  | [] => rfl
  | s :: ss => by show (strs? (ss.map D.str)).map (s :: ·) = _; rw [strs_map ss]; rfl
theorem ints_map : ∀ ss : List Int, ints? (ss.map D.int) = some ss
  | [] => rfl
  | s :: ss => by show (ints? (ss.map D.int)).map (s :: ·) = _; rw [ints_map ss]; rfl
theorem str_ext {a b : Str} (h : a.cps.toList = b.cps.toList) : a = b := by
  obtain ⟨a⟩ := a; obtain ⟨b⟩ := b
  congr 1
  exact Array.toList_inj.mp h
theorem str_app (a b : Str) : (a ++ b).cps.toList = a.cps.toList ++ b.cps.toList := by
  show (a.cps ++ b.cps).toList = _
  simp
theorem str_assoc (a b c : Str) : a ++ b ++ c = a ++ (b ++ c) := str_ext (by rw [str_app, str_app, str_app, str_app, List.append_assoc])
theorem empty_app (a : Str) : Str.empty ++ a = a := str_ext (by rw [str_app]; rfl)
theorem sSeq_ok {F G : FS} {δ δ1 : DEnv} {r : R Out} (h : F δ = .ok (.nx δ1)) (h2 : G δ1 = r) : sSeq F G δ = r := by unfold sSeq; rw [h, R.ok_bind]; exact h2
theorem eNew_ok {f : DEnv → R (List D)} {δ : DEnv} {ds : List D} (h : f δ = .ok ds) : eNew f δ = .ok (.lst ds) := by unfold eNew; rw [h]; rfl
theorem sIf_t {c : DEnv → R Bool} {F G : FS} {δ : DEnv} {r : R Out} (h : c δ = .ok true) (h2 : F δ = r) : sIf c F G δ = r := by unfold sIf; rw [h, R.ok_bind, if_pos rfl]; exact h2
theorem sIf_f {c : DEnv → R Bool} {F G : FS} {δ : DEnv} {r : R Out} (h : c δ = .ok false) (h2 : G δ = r) : sIf c F G δ = r := by unfold sIf; rw [h, R.ok_bind, if_neg (by decide)]; exact h2
theorem sFor_ok {it : DEnv → R (List D)} {t : FT} {F : FS} {δ : DEnv} {ds : List D} {r : R Out} (h : it δ = .ok ds) (h2 : loopD t F ds δ = r) : sFor it t F δ = r := by unfold sFor; rw [h, R.ok_bind]; exact h2
theorem sRet_ok {f : FD} {δ : DEnv} {d : D} (h : f δ = .ok d) : sRet f δ = .ok (.rt d) := by unfold sRet; rw [h]; rfl
theorem fnD_ok {N : List Str} {F : FS} {ds : List D} {d : D} (h : F (dStart N ds) = .ok (.rt d)) : fnD N F ds = .ok d := by unfold fnD; rw [h]; rfl
theorem when_of {α : Type} {p : Prop} [Decidable p] (r : R α) (h : p) : R.when (decide p) r = r := by rw [decide_eq_true h]; rfl
theorem sSet_ok {i : Nat} {f : FD} {δ : DEnv} {d : D} (h : f δ = .ok d) (hi : i < δ.length) : sSet i f δ = .ok (.nx (δ.set i (.val d))) := by unfold sSet; rw [h, R.ok_bind, when_of _ hi]
theorem sBld_ok {i : Nat} {f : DEnv → R (List D)} {δ : DEnv} {ds : List D} (h : f δ = .ok ds) (hi : i < δ.length) : sBld i f δ = .ok (.nx (δ.set i (.bld ds))) := by unfold sBld; rw [h, R.ok_bind, when_of _ hi]
theorem sApp_ok {i : Nat} {f : FD} {δ : DEnv} {d : D} {ds : List D} (h : f δ = .ok d) (hb : δ[i]? = some (.bld ds)) (hl : ds.length < sizeLine) : sApp i f δ = .ok (.nx (δ.set i (.bld (ds ++ [d])))) := by unfold sApp bldAt; rw [h, R.ok_bind, hb]; show R.when _ _ = _; rw [when_of _ hl]
theorem nComp_ok {it : DEnv → R (List D)} {t : FT} {c : DEnv → R Bool} {f : FD} {own : List Str} {kp : List Nat} {δ : DEnv} {ds ys : List D} (h1 : it δ = .ok ds) (h2 : ds.length ≤ sizeLine) (h3 : compL t c f (cEnv own kp δ) ds = .ok ys) : nComp it t c f own kp δ = .ok ys := by unfold nComp; rw [h1, R.ok_bind, when_of _ h2, h3]
theorem ixL_of {ds : List D} {i : Int} {d : D} (h : atI ds i = some d) : ixD (.lst ds) (.int i) = .ok d := by unfold ixD; simp only [h]
theorem ixT_of {ds : List D} {i : Int} {d : D} (h : atI ds i = some d) : ixD (.tup ds) (.int i) = .ok d := by unfold ixD; simp only [h]
theorem ixS_of {x : Str} {i : Int} {c : Nat} (hz : x.length ≤ sizeLine) (h : atI x.cps.toList i = some c) : ixD (.str x) (.int i) = .ok (.str ⟨#[c]⟩) := by unfold ixD; simp only [h, when_of _ hz]
end L2

end
section
set_option maxRecDepth 100000
/-! ## what expressions are worth, part by part (own) -/
namespace L2
open PySem PySem.Spec PyProof.Rows
theorem e2_ok {g : D → D → R D} {fa fb : FD} {δ : DEnv} {a b : D} {r : R D} (ha : fa δ = .ok a) (hb : fb δ = .ok b) (h : g a b = r) : e2 g fa fb δ = r := by unfold e2; rw [ha, R.ok_bind, hb, R.ok_bind]; exact h
theorem b2_ok {g : D → D → R D} {fa fb : FD} {δ : DEnv} {a b : D} {k : Bool} (ha : fa δ = .ok a) (hb : fb δ = .ok b) (h : g a b = .ok (.bl k)) : b2 g fa fb δ = .ok k := by unfold b2; rw [e2_ok ha hb h]; rfl
theorem aCons_ok {f : FD} {g : DEnv → R (List D)} {δ : DEnv} {d : D} {ds : List D} (h : f δ = .ok d) (h2 : g δ = .ok ds) : aCons f g δ = .ok (d :: ds) := by unfold aCons; rw [h, R.ok_bind, h2]; rfl
theorem eCall_ok {g : List D → R D} {fs : DEnv → R (List D)} {δ : DEnv} {ds : List D} {r : R D} (h : fs δ = .ok ds) (h2 : g ds = r) : eCall g fs δ = r := by unfold eCall; rw [h, R.ok_bind]; exact h2
theorem eThaw_ok {f : FD} {δ : DEnv} {d : D} (h : f (thaw δ) = .ok d) (ha : d.atom = true) : eThaw f δ = .ok d := by unfold eThaw; rw [h, R.ok_bind, ha]; rfl
theorem eTup_ok {g : DEnv → R (List D)} {δ : DEnv} {ds : List D} (h : g δ = .ok ds) (hl : ds.length ≤ sizeLine) : eTup g δ = .ok (.tup ds) := by unfold eTup; rw [h, R.ok_bind, when_of _ hl]
theorem nLst_ok {g : DEnv → R (List D)} {δ : DEnv} {ds : List D} (h : g δ = .ok ds) (hl : ds.length ≤ sizeLine) : nLst g δ = .ok ds := by unfold nLst; rw [h, R.ok_bind, when_of _ hl]
theorem eMtS_ok {g : D → List D → R D} {f : FD} {fs : DEnv → R (List D)} {δ : DEnv} {x : Str} {ds : List D} {r : R D} (h : f δ = .ok (.str x)) (h2 : fs δ = .ok ds) (h3 : g (.str x) ds = r) : eMt "str" g f fs δ = r := by
  unfold eMt; rw [h, R.ok_bind, h2, R.ok_bind]; exact h3
theorem eSl_ok {f : FD} {fl fh : FO} {δ : DEnv} {d : D} {lo hi : Option Int} {r : R D} (h : f δ = .ok d) (h1 : fl δ = .ok lo) (h2 : fh δ = .ok hi) (h3 : slD d lo hi = r) : eSl f fl fh δ = r := by unfold eSl; rw [h, R.ok_bind, h1, R.ok_bind, h2, R.ok_bind]; exact h3
theorem oSome_ok {f : FD} {δ : DEnv} {i : Int} (h : f δ = .ok (.int i)) : oSome f δ = .ok (some i) := by unfold oSome; rw [h]; rfl
theorem slS_ok {x : Str} {lo hi : Option Int} (h : x.length ≤ sizeLine) : slD (.str x) lo hi = .ok (.str (Txt.slice x lo hi)) := by unfold slD; exact when_of _ h
theorem addS_ok {a b : Str} (h : a.length + b.length ≤ sizeLine) : dAdd (.str a) (.str b) = .ok (.str (a ++ b)) := by unfold dAdd; exact when_of _ h
theorem addL_ok {a b : List D} (h : a.length + b.length ≤ sizeLine) : dAdd (.lst a) (.lst b) = .ok (.lst (a ++ b)) := by unfold dAdd; exact when_of _ h
theorem mod_ok {a b : Int} (h : 0 < b) : dMod (.int a) (.int b) = .ok (.int (a % b)) := by unfold dMod dII; exact when_of _ h
theorem fdiv_ok {a b : Int} (h : 0 < b) (h2 : b < 1073741824) : dFdiv (.int a) (.int b) = .ok (.int (a / b)) := by unfold dFdiv dII; exact when_of _ ⟨h, h2⟩
theorem mulS_ok {a : Str} {n : Int} (h0 : 0 ≤ n) (h1 : n < 1000) (hl : a.length * n.toNat ≤ sizeLine) : dMul (.str a) (.int n) = .ok (.str (Txt.mul a n)) := by unfold dMul; exact when_of _ ⟨by omega, by omega, hl⟩
theorem rng1_ok {f : FD} {δ : DEnv} {n : Nat} (h : f δ = .ok (.int n)) (hn : n < 1000000) : itRng1 f δ = .ok (rngD 0 n) := by
  unfold itRng1; rw [h, R.ok_bind]; show R.when (decide (-(2 ^ 62) ≤ (n : Int) ∧ (n : Int) < 2 ^ 62)) _ = _
  rw [when_of _ ⟨by omega, by omega⟩, Int.toNat_natCast]
theorem itL_ok {f : FD} {δ : DEnv} {ds : List D} (h : f δ = .ok (.lst ds)) : itSeq f δ = .ok ds := by unfold itSeq; rw [h]; rfl
theorem itT_ok {f : FD} {δ : DEnv} {ds : List D} (h : f δ = .ok (.tup ds)) : itSeq f δ = .ok ds := by unfold itSeq; rw [h]; rfl
theorem itE_ok {f : FD} {δ : DEnv} {ds : List D} (h : f δ = .ok (.lst ds)) : itEnum f δ = .ok (enumD ds) := by unfold itEnum; rw [h]; rfl
theorem asB_of {f : FD} {δ : DEnv} {b : Bool} (h : f δ = .ok (.bl b)) : asB f δ = .ok b := by unfold asB; rw [h]; rfl
theorem jCons_ok {f : FD} {g : DEnv → R (List Str)} {δ : DEnv} {x : Str} {ss : List Str} (h : f δ = .ok (.str x)) (h2 : g δ = .ok ss) : jCons f g δ = .ok (x :: ss) := by unfold jCons; rw [h, R.ok_bind]; show (g δ).bind _ = _; rw [h2]; rfl
theorem eFmtS_ok {f : FD} {δ : DEnv} {x : Str} (h : f δ = .ok (.str x)) (hl : x.length ≤ sizeLine) : eFmt f δ = .ok (.str x) := by unfold eFmt; rw [h, R.ok_bind]; unfold fmtD; exact when_of _ hl
theorem eFmtI_ok {f : FD} {δ : DEnv} {i : Int} (h : f δ = .ok (.int i)) (hl : i.natAbs.log2 < 1920) : eFmt f δ = .ok (.str (toString i)) := by unfold eFmt; rw [h, R.ok_bind]; unfold fmtD; exact when_of _ hl
theorem eJoined_ok {g : DEnv → R (List Str)} {δ : DEnv} {ss : List Str} (h : g δ = .ok ss) (hl : (ss.foldl (· ++ ·) Str.empty).length ≤ sizeLine) : eJoined g δ = .ok (.str (ss.foldl (· ++ ·) Str.empty)) := by unfold eJoined; rw [h, R.ok_bind, when_of _ hl]
theorem extV_ok {i : Nat} {f : FD} {δ : DEnv} {ds es : List D} (h : f δ = .ok (.lst es)) (hb : δ[i]? = some (.bld ds)) (hl : ds.length + es.length ≤ sizeLine) : sExtV i f δ = .ok (.nx (δ.set i (.bld (ds ++ es)))) := by
  unfold sExtV bldAt; rw [h, R.ok_bind, hb]; show R.when _ _ = _; rw [when_of _ hl]
theorem lenL (ds : List D) : cLen [.lst ds] = .ok (.int ds.length) := rfl
theorem strI_ok {i : Int} (h : i.natAbs.log2 < 1920) : cStr [.int i] = .ok (.str (toString i)) := by unfold cStr; exact when_of _ h
end L2

end
section
set_option Elab.async false
set_option linter.all false
set_option maxRecDepth 100000
set_option maxHeartbeats 4000000
namespace K6
open PySem PySem.Spec PyProof.Rows L2
/-! ### the text by places -/
def top (i : Nat) : Stmt := PySem.Challenge.pw_bearfaults_k06_nets_shown.main.body.getD i (.Pass ⟨0, 0, 0, 0⟩)
def g_LETTERS : D := (.str (Str.ofString "abcdefghijklmnopqrstuvwxyz"))
def g_BARRED : D := (.tup [(.str (Str.ofString "in")), (.str (Str.ofString "gate")), (.str (Str.ofString "sure")), (.str (Str.ofString "out")), (.str (Str.ofString "not")), (.str (Str.ofString "and")), (.str (Str.ofString "or")), (.str (Str.ofString "xor")), (.str (Str.ofString "vote"))])
structure Tp (K : PySem.W.Frag) (mg : Str → Option Value) : Prop where
  z_range : mg (Str.ofString "range") = none
  z_len : mg (Str.ofString "len") = none
  z_enumerate : mg (Str.ofString "enumerate") = none
  z_min : mg (Str.ofString "min") = none
  z_int : mg (Str.ofString "int") = none
  z_tuple : mg (Str.ofString "tuple") = none
  z_sum : mg (Str.ofString "sum") = none
  z_str : mg (Str.ofString "str") = none
  z_list : mg (Str.ofString "list") = none
  z_isinstance : mg (Str.ofString "isinstance") = none
  g_LETTERS : Glob K mg (Str.ofString "LETTERS") g_LETTERS
  g_BARRED : Glob K mg (Str.ofString "BARRED") g_BARRED
/-! ### in_wires -/
abbrev s_in_wires : Stmt := top 3
abbrev N_in_wires : List Str := [(Str.ofString "name"), (Str.ofString "width")]
def bd_in_wires : {b : List Stmt // defBody s_in_wires = b} := by
  have e : defBody s_in_wires = defBody s_in_wires := rfl
  conv at e => rhs; whnf
  exact ⟨_, e⟩
def sc_in_wires : {b : Scope // defScope s_in_wires = b} := by
  have e : defScope s_in_wires = defScope s_in_wires := rfl
  conv at e => rhs; whnf
  exact ⟨_, e⟩
theorem S_in_wires : FnScope N_in_wires [(Str.ofString "name"), (Str.ofString "width")] sc_in_wires.1 := ⟨rfl, rfl, rfl, by decide +kernel, rfl, by decide +kernel, by decide +kernel⟩
def F_in_wires : FS := (sSeq (sIf (b2 dEq (eVar 1) (eC (.int 1))) (sRet (eNew (nLst (aCons (eVar 0) aNil)))) sNil) (sRet (eNew (nComp (itRng1 (eVar 1)) (gNameD 0) cYes (eJoined (jCons (eFmt (eVar 1)) (jCons (eC (.str (Str.ofString ":"))) (jCons (eFmt (eVar 0)) jNil)))) [(Str.ofString "figure")] [0]))))
def d_in_wires : List D → R D := fnD N_in_wires F_in_wires
theorem c_in_wires {P : Program} {w : World} {K : PySem.W.Frag} {mg : Str → Option Value} {base : Heap} (T : Tp K mg) (h : Def K mg (Str.ofString "in_wires") s_in_wires)  : Callee P w K mg base 1 (Str.ofString "in_wires") 2 d_in_wires := by
  obtain ⟨f, fd, F, hm⟩ := h
  exact ⟨f, fd, _, qfn_pureB (k := 0) bd_in_wires.2 sc_in_wires.2 F S_in_wires (fun cdv A outer s H E hr => (qpds_cons (qpds_if (qpb_cmp (o_eq hr.units) (qpd_var 1) qpd_int (nomark _)) (qpds_one (qpds_ret (qpd_new (qpn_lst (qpas_cons (qpd_var 0) qpas_nil))))) qpds_nil) (qpds_one (qpds_ret (qpd_new (qpn_comp rfl (CScope.of (own := [(Str.ofString "figure")]) (kp := [0]) (kn := [(Str.ofString "name")]) (sc := sc_in_wires.1) (N := N_in_wires) rfl rfl (by decide +kernel)) (qpit_range1 (qpd_var 1) rfl T.z_range) (fun _ _ _ => (qptg_name (show List.Nodup [(Str.ofString "figure"), (Str.ofString "name")] from by decide +kernel) rfl (Or.inl rfl))) (fun _ _ _ => qpifs_yes) (fun _ _ _ => (qpd_joined (qpj_cons (qpd_fmt (qpd_var 1)) (qpj_cons qpd_str (qpj_cons (qpd_fmt (qpd_var 0)) qpj_nil))))))))))), hm, F.kp, F.binds fun _ _ _ _ _ _ us hl => match us, hl with | [_, _], _ => rfl⟩
/-! ### letters_of -/
abbrev s_letters_of : Stmt := top 5
abbrev N_letters_of : List Str := [(Str.ofString "place"), (Str.ofString "word"), (Str.ofString "rest")]
def bd_letters_of : {b : List Stmt // defBody s_letters_of = b} := by
  have e : defBody s_letters_of = defBody s_letters_of := rfl
  conv at e => rhs; whnf
  exact ⟨_, e⟩
def sc_letters_of : {b : Scope // defScope s_letters_of = b} := by
  have e : defScope s_letters_of = defScope s_letters_of := rfl
  conv at e => rhs; whnf
  exact ⟨_, e⟩
theorem S_letters_of : FnScope N_letters_of [(Str.ofString "place")] sc_letters_of.1 := ⟨rfl, rfl, rfl, by decide +kernel, rfl, by decide +kernel, by decide +kernel⟩
def B_letters_of_0 : FS := (sSeq (sSet 1 (e2 dAdd (e2 ixD (eC g_LETTERS) (e2 dMod (eVar 2) (eCall cLen (aCons (eC g_LETTERS) aNil)))) (eVar 1))) (sSet 2 (e2 dFdiv (eVar 2) (eCall cLen (aCons (eC g_LETTERS) aNil)))))
def F_letters_of : FS := (sSeq (sSet 1 (e2 ixD (eC g_LETTERS) (e2 dMod (eVar 0) (eCall cLen (aCons (eC g_LETTERS) aNil))))) (sSeq (sSet 2 (e2 dFdiv (eVar 0) (eCall cLen (aCons (eC g_LETTERS) aNil)))) (sSeq (sWhile 1000 (b2 dGt (eVar 2) (eC (.int 0))) B_letters_of_0) (sRet (eVar 1)))))
def d_letters_of : List D → R D := fnD N_letters_of F_letters_of
theorem c_letters_of {P : Program} {w : World} {K : PySem.W.Frag} {mg : Str → Option Value} {base : Heap} (T : Tp K mg) (h : Def K mg (Str.ofString "letters_of") s_letters_of)  : Callee P w K mg base 1 (Str.ofString "letters_of") 1 d_letters_of := by
  obtain ⟨f, fd, F, hm⟩ := h
  exact ⟨f, fd, _, qfn_pureB (k := 0) bd_letters_of.2 sc_letters_of.2 F S_letters_of (fun cdv A outer s H E hr => (qpds_cons (qpds_set S_letters_of.nd rfl (Or.inl rfl) (qpd_ix (qpd_glob T.g_LETTERS rfl) (qpd_op o_mod (qpd_var 0) (qpd_callB c_len rfl T.z_len PySem.boot_len (qpas_cons (qpd_glob T.g_LETTERS rfl) qpas_nil))) (fun _ _ => rfl))) (qpds_cons (qpds_set S_letters_of.nd rfl (Or.inl rfl) (qpd_op o_fdiv (qpd_var 0) (qpd_callB c_len rfl T.z_len PySem.boot_len (qpas_cons (qpd_glob T.g_LETTERS rfl) qpas_nil)))) (qpds_cons (qpds_while 1000 PassesOwn.never (qpb_cmp o_gt (qpd_var 2) qpd_int (nomark _)) (qpds_cons (qpds_set S_letters_of.nd rfl (Or.inl rfl) (qpd_op o_add (qpd_ix (qpd_glob T.g_LETTERS rfl) (qpd_op o_mod (qpd_var 2) (qpd_callB c_len rfl T.z_len PySem.boot_len (qpas_cons (qpd_glob T.g_LETTERS rfl) qpas_nil))) (fun _ _ => rfl)) (qpd_var 1))) (qpds_one (qpds_set S_letters_of.nd rfl (Or.inl rfl) (qpd_op o_fdiv (qpd_var 2) (qpd_callB c_len rfl T.z_len PySem.boot_len (qpas_cons (qpd_glob T.g_LETTERS rfl) qpas_nil))))))) (qpds_one (qpds_ret (qpd_var 1))))))), hm, F.kp, F.binds fun _ _ _ _ _ _ us hl => match us, hl with | [_], _ => rfl⟩
/-! ### gate_name -/
abbrev s_gate_name : Stmt := top 6
abbrev N_gate_name : List Str := [(Str.ofString "place"), (Str.ofString "in_names"), (Str.ofString "name")]
def bd_gate_name : {b : List Stmt // defBody s_gate_name = b} := by
  have e : defBody s_gate_name = defBody s_gate_name := rfl
  conv at e => rhs; whnf
  exact ⟨_, e⟩
def sc_gate_name : {b : Scope // defScope s_gate_name = b} := by
  have e : defScope s_gate_name = defScope s_gate_name := rfl
  conv at e => rhs; whnf
  exact ⟨_, e⟩
theorem S_gate_name : FnScope N_gate_name [(Str.ofString "place"), (Str.ofString "in_names")] sc_gate_name.1 := ⟨rfl, rfl, rfl, by decide +kernel, rfl, by decide +kernel, by decide +kernel⟩
def B_gate_name_0 : FS := (sSet 2 (e2 dAdd (eC (.str (Str.ofString "x"))) (eVar 2)))
def F_gate_name : FS := (sSeq (sSet 2 (eCall d_letters_of (aCons (eVar 0) aNil))) (sSeq (sWhile 1000 (bOr (b2 dIn (eVar 2) (eC g_BARRED)) (b2 dIn (eVar 2) (eVar 1))) B_gate_name_0) (sRet (eVar 2))))
def d_gate_name : List D → R D := fnD N_gate_name F_gate_name
theorem c_gate_name {P : Program} {w : World} {K : PySem.W.Frag} {mg : Str → Option Value} {base : Heap} (T : Tp K mg) (h : Def K mg (Str.ofString "gate_name") s_gate_name) (C_letters_of : Callee P w K mg base 1 (Str.ofString "letters_of") 1 d_letters_of) : Callee P w K mg base 2 (Str.ofString "gate_name") 2 d_gate_name := by
  obtain ⟨f, fd, F, hm⟩ := h
  exact ⟨f, fd, _, qfn_pureB (k := 1) bd_gate_name.2 sc_gate_name.2 F S_gate_name (fun cdv A outer s H E hr => (qpds_cons (qpds_set S_gate_name.nd rfl (Or.inl rfl) (qpd_callC C_letters_of hr (by decide) rfl (qpas_cons (qpd_var 0) qpas_nil) (alen_cons alen_nil))) (qpds_cons (qpds_while 1000 PassesOwn.never (qPBW_pb (qpbw_or (qpb_cmp o_in (qpd_var 2) (qpd_glob T.g_BARRED rfl) (by with_unfolding_all rfl)) (qpbw_or1 (qpb_cmp o_in (qpd_var 2) (qpd_var 1) (by with_unfolding_all rfl))))) (qpds_one (qpds_set S_gate_name.nd rfl (Or.inl rfl) (qpd_op o_add qpd_str (qpd_var 2))))) (qpds_one (qpds_ret (qpd_var 2)))))), hm, F.kp, F.binds fun _ _ _ _ _ _ us hl => match us, hl with | [_, _], _ => rfl⟩
/-! ### gate_row -/
abbrev s_gate_row : Stmt := top 7
abbrev N_gate_row : List Str := [(Str.ofString "name"), (Str.ofString "gate"), (Str.ofString "written"), (Str.ofString "word")]
def bd_gate_row : {b : List Stmt // defBody s_gate_row = b} := by
  have e : defBody s_gate_row = defBody s_gate_row := rfl
  conv at e => rhs; whnf
  exact ⟨_, e⟩
def sc_gate_row : {b : Scope // defScope s_gate_row = b} := by
  have e : defScope s_gate_row = defScope s_gate_row := rfl
  conv at e => rhs; whnf
  exact ⟨_, e⟩
theorem S_gate_row : FnScope N_gate_row [(Str.ofString "name"), (Str.ofString "gate"), (Str.ofString "written")] sc_gate_row.1 := ⟨rfl, rfl, rfl, by decide +kernel, rfl, by decide +kernel, by decide +kernel⟩
def F_gate_row : FS := (sSeq (sSet 3 (eIf (bTru (e2 ixD (eVar 1) (eC (.int 2)))) (eC (.str (Str.ofString "sure"))) (eC (.str (Str.ofString "gate"))))) (sRet (eMt "str" mJoin (eC (.str (Str.ofString " "))) (aCons (e2 dAdd (eNew (nLst (aCons (eVar 3) (aCons (eVar 0) (aCons (e2 ixD (eVar 1) (eC (.int 0))) aNil))))) (eNew (nComp (itSeq (e2 ixD (eVar 1) (eC (.int 1)))) (gNameD 0) cYes (e2 ixD (eVar 1) (eVar 0)) [(Str.ofString "wire")] [2]))) aNil))))
def d_gate_row : List D → R D := fnD N_gate_row F_gate_row
theorem c_gate_row {P : Program} {w : World} {K : PySem.W.Frag} {mg : Str → Option Value} {base : Heap} (T : Tp K mg) (h : Def K mg (Str.ofString "gate_row") s_gate_row)  : Callee P w K mg base 1 (Str.ofString "gate_row") 3 d_gate_row := by
  obtain ⟨f, fd, F, hm⟩ := h
  exact ⟨f, fd, _, qfn_pureB (k := 0) bd_gate_row.2 sc_gate_row.2 F S_gate_row (fun cdv A outer s H E hr => (qpds_cons (qpds_set S_gate_row.nd rfl (Or.inl rfl) (qpd_if (qpb_tru (qpd_ix (qpd_var 1) qpd_int (fun _ _ => rfl))) qpd_str qpd_str)) (qpds_one (qpds_ret (qpd_join qpd_str (qpas_cons (qpd_op o_add (qpd_new (qpn_lst (qpas_cons (qpd_var 3) (qpas_cons (qpd_var 0) (qpas_cons (qpd_ix (qpd_var 1) qpd_int (fun _ _ => rfl)) qpas_nil))))) (qpd_new (qpn_comp rfl (CScope.of (own := [(Str.ofString "wire")]) (kp := [2]) (kn := [(Str.ofString "written")]) (sc := sc_gate_row.1) (N := N_gate_row) rfl rfl (by decide +kernel)) (qpit_seq (qpd_ix (qpd_var 1) qpd_int (fun _ _ => rfl))) (fun _ _ _ => (qptg_name (show List.Nodup [(Str.ofString "wire"), (Str.ofString "written")] from by decide +kernel) rfl (Or.inl rfl))) (fun _ _ _ => qpifs_yes) (fun _ _ _ => (qpd_ix (qpd_var 1) (qpd_var 0) (fun _ _ => rfl)))))) qpas_nil)))))), hm, F.kp, F.binds fun _ _ _ _ _ _ us hl => match us, hl with | [_, _, _], _ => rfl⟩
/-! ### out_row -/
abbrev s_out_row : Stmt := top 8
abbrev N_out_row : List Str := [(Str.ofString "out"), (Str.ofString "written")]
def bd_out_row : {b : List Stmt // defBody s_out_row = b} := by
  have e : defBody s_out_row = defBody s_out_row := rfl
  conv at e => rhs; whnf
  exact ⟨_, e⟩
def sc_out_row : {b : Scope // defScope s_out_row = b} := by
  have e : defScope s_out_row = defScope s_out_row := rfl
  conv at e => rhs; whnf
  exact ⟨_, e⟩
theorem S_out_row : FnScope N_out_row [(Str.ofString "out"), (Str.ofString "written")] sc_out_row.1 := ⟨rfl, rfl, rfl, by decide +kernel, rfl, by decide +kernel, by decide +kernel⟩
def F_out_row : FS := (sRet (eMt "str" mJoin (eC (.str (Str.ofString " "))) (aCons (e2 dAdd (eNew (nLst (aCons (eC (.str (Str.ofString "out"))) (aCons (e2 ixD (eVar 0) (eC (.int 0))) aNil)))) (eNew (nComp (itSeq (e2 ixD (eVar 0) (eC (.int 1)))) (gNameD 0) cYes (e2 ixD (eVar 1) (eVar 0)) [(Str.ofString "wire")] [1]))) aNil)))
def d_out_row : List D → R D := fnD N_out_row F_out_row
theorem c_out_row {P : Program} {w : World} {K : PySem.W.Frag} {mg : Str → Option Value} {base : Heap} (T : Tp K mg) (h : Def K mg (Str.ofString "out_row") s_out_row)  : Callee P w K mg base 1 (Str.ofString "out_row") 2 d_out_row := by
  obtain ⟨f, fd, F, hm⟩ := h
  exact ⟨f, fd, _, qfn_pureB (k := 0) bd_out_row.2 sc_out_row.2 F S_out_row (fun cdv A outer s H E hr => (qpds_one (qpds_ret (qpd_join qpd_str (qpas_cons (qpd_op o_add (qpd_new (qpn_lst (qpas_cons qpd_str (qpas_cons (qpd_ix (qpd_var 0) qpd_int (fun _ _ => rfl)) qpas_nil)))) (qpd_new (qpn_comp rfl (CScope.of (own := [(Str.ofString "wire")]) (kp := [1]) (kn := [(Str.ofString "written")]) (sc := sc_out_row.1) (N := N_out_row) rfl rfl (by decide +kernel)) (qpit_seq (qpd_ix (qpd_var 0) qpd_int (fun _ _ => rfl))) (fun _ _ _ => (qptg_name (show List.Nodup [(Str.ofString "wire"), (Str.ofString "written")] from by decide +kernel) rfl (Or.inl rfl))) (fun _ _ _ => qpifs_yes) (fun _ _ _ => (qpd_ix (qpd_var 1) (qpd_var 0) (fun _ _ => rfl)))))) qpas_nil))))), hm, F.kp, F.binds fun _ _ _ _ _ _ us hl => match us, hl with | [_, _], _ => rfl⟩
/-! ### shown -/
abbrev s_shown : Stmt := top 9
abbrev N_shown : List Str := [(Str.ofString "net"), (Str.ofString "in_names"), (Str.ofString "rows"), (Str.ofString "written"), (Str.ofString "name"), (Str.ofString "width"), (Str.ofString "place"), (Str.ofString "gate"), (Str.ofString "out")]
def bd_shown : {b : List Stmt // defBody s_shown = b} := by
  have e : defBody s_shown = defBody s_shown := rfl
  conv at e => rhs; whnf
  exact ⟨_, e⟩
def sc_shown : {b : Scope // defScope s_shown = b} := by
  have e : defScope s_shown = defScope s_shown := rfl
  conv at e => rhs; whnf
  exact ⟨_, e⟩
theorem S_shown : FnScope N_shown [(Str.ofString "net")] sc_shown.1 := ⟨rfl, rfl, rfl, by decide +kernel, rfl, by decide +kernel, by decide +kernel⟩
def B_shown_0 : FS := (sSeq (sApp 2 (eJoined (jCons (eC (.str (Str.ofString "in "))) (jCons (eFmt (eVar 4)) (jCons (eC (.str (Str.ofString " "))) (jCons (eFmt (eVar 5)) jNil)))))) (sExtV 3 (eCall d_in_wires (aCons (eVar 4) (aCons (eVar 5) aNil)))))
def B_shown_1 : FS := (sSeq (sSet 4 (eCall d_gate_name (aCons (eVar 6) (aCons (eVar 1) aNil)))) (sSeq (sApp 2 (eThaw (eCall d_gate_row (aCons (eVar 4) (aCons (eVar 7) (aCons (eVar 3) aNil)))))) (sApp 3 (eVar 4))))
def B_shown_2 : FS := (sApp 2 (eCall d_out_row (aCons (eVar 8) (aCons (eVar 3) aNil))))
def F_shown : FS := (sSeq (sSet 1 (eNew (nComp (itSeq (e2 ixD (eVar 0) (eC (.int 0)))) (gTupD 2 (gConsD (gNameD 0) (gConsD (gNameD 1) gNilD))) cYes (eVar 0) [(Str.ofString "name"), (Str.ofString "width")] []))) (sSeq (sBld 2 (nLst aNil)) (sSeq (sBld 3 (nLst aNil)) (sSeq (sFor (itSeq (e2 ixD (eVar 0) (eC (.int 0)))) (gTupD 2 (gConsD (gNameD 4) (gConsD (gNameD 5) gNilD))) B_shown_0) (sSeq (sFor (itEnum (e2 ixD (eVar 0) (eC (.int 1)))) (gTupD 2 (gConsD (gNameD 6) (gConsD (gNameD 7) gNilD))) B_shown_1) (sFrz 3 (sSeq (sFor (itSeq (e2 ixD (eVar 0) (eC (.int 2)))) (gNameD 8) B_shown_2) (sFrz 2 (sRet (eMt "str" mJoin (eC (.str (Str.ofString "\n"))) (aCons (eVar 2) aNil)))))))))))
def d_shown : List D → R D := fnD N_shown F_shown
theorem c_shown {P : Program} {w : World} {K : PySem.W.Frag} {mg : Str → Option Value} {base : Heap} (T : Tp K mg) (h : Def K mg (Str.ofString "shown") s_shown) (C_in_wires : Callee P w K mg base 1 (Str.ofString "in_wires") 2 d_in_wires) (C_gate_name : Callee P w K mg base 2 (Str.ofString "gate_name") 2 d_gate_name) (C_gate_row : Callee P w K mg base 1 (Str.ofString "gate_row") 3 d_gate_row) (C_out_row : Callee P w K mg base 1 (Str.ofString "out_row") 2 d_out_row) : Callee P w K mg base 3 (Str.ofString "shown") 1 d_shown := by
  obtain ⟨f, fd, F, hm⟩ := h
  exact ⟨f, fd, _, qfn_pureB (k := 2) bd_shown.2 sc_shown.2 F S_shown (fun cdv A outer s H E hr => (qpds_cons (qpds_setComp rfl S_shown.nd rfl rfl (CScope.of (own := [(Str.ofString "name"), (Str.ofString "width")]) (kp := []) (kn := []) (sc := sc_shown.1) (N := N_shown) rfl rfl (by decide +kernel)) (qpit_seq (qpd_ix (qpd_var 0) qpd_int (fun _ _ => rfl))) (fun _ _ _ => (qptg_tup rfl (qptgs_cons (qptg_name (show List.Nodup [(Str.ofString "name"), (Str.ofString "width")] from by decide +kernel) rfl (Or.inl rfl)) (qptgs_cons (qptg_name (show List.Nodup [(Str.ofString "name"), (Str.ofString "width")] from by decide +kernel) rfl (Or.inl rfl)) qptgs_nil)))) (fun _ _ _ => qpifs_yes) (fun _ _ _ => (qpd_var 0))) (qpds_cons (qpds_bld S_shown.nd rfl (Or.inl rfl) (qpn_lst qpas_nil)) (qpds_cons (qpds_bld S_shown.nd rfl (Or.inl rfl) (qpn_lst qpas_nil)) (qpds_cons (qpds_for PassesOwn.never rfl (qpit_seq (qpd_ix (qpd_var 0) qpd_int (fun _ _ => rfl))) (qptg_tup rfl (qptgs_cons (qptg_name S_shown.nd rfl (Or.inl rfl)) (qptgs_cons (qptg_name S_shown.nd rfl (Or.inl rfl)) qptgs_nil))) (qpds_cons (qpds_app rfl (Or.inl rfl) (qpd_joined (qpj_cons qpd_str (qpj_cons (qpd_fmt (qpd_var 4)) (qpj_cons qpd_str (qpj_cons (qpd_fmt (qpd_var 5)) qpj_nil)))))) (qpds_one (qpds_extV rfl (Or.inl rfl) (qpd_callC C_in_wires hr (by decide) rfl (qpas_cons (qpd_var 4) (qpas_cons (qpd_var 5) qpas_nil)) (alen_cons (alen_cons alen_nil))))))) (qpds_cons (qpds_for PassesOwn.never rfl (qpit_enum (qpd_ix (qpd_var 0) qpd_int (fun _ _ => rfl)) rfl T.z_enumerate) (qptg_tup rfl (qptgs_cons (qptg_name S_shown.nd rfl (Or.inl rfl)) (qptgs_cons (qptg_name S_shown.nd rfl (Or.inl rfl)) qptgs_nil))) (qpds_cons (qpds_set S_shown.nd rfl (Or.inl rfl) (qpd_callC C_gate_name hr (by decide) rfl (qpas_cons (qpd_var 6) (qpas_cons (qpd_var 1) qpas_nil)) (alen_cons (alen_cons alen_nil)))) (qpds_cons (qpds_app rfl (Or.inl rfl) (qpd_thaw (qpd_callC C_gate_row hr (by decide) rfl (qpas_cons (qpd_var 4) (qpas_cons (qpd_var 7) (qpas_cons (qpd_var 3) qpas_nil))) (alen_cons (alen_cons (alen_cons alen_nil)))))) (qpds_one (qpds_app rfl (Or.inl rfl) (qpd_var 4)))))) (qpds_frz 3 (qpds_cons (qpds_for PassesOwn.never rfl (qpit_seq (qpd_ix (qpd_var 0) qpd_int (fun _ _ => rfl))) (qptg_name S_shown.nd rfl (Or.inl rfl)) (qpds_one (qpds_app rfl (Or.inl rfl) (qpd_callC C_out_row hr (by decide) rfl (qpas_cons (qpd_var 8) (qpas_cons (qpd_var 3) qpas_nil)) (alen_cons (alen_cons alen_nil)))))) (qpds_frz 2 (qpds_one (qpds_ret (qpd_join qpd_str (qpas_cons (qpd_var 2) qpas_nil))))))))))))), hm, F.kp, F.binds fun _ _ _ _ _ _ us hl => match us, hl with | [_], _ => rfl⟩
/-! ### law_cell_at -/
abbrev s_law_cell_at : Stmt := top 11
abbrev N_law_cell_at : List Str := [(Str.ofString "script"), (Str.ofString "k")]
def bd_law_cell_at : {b : List Stmt // defBody s_law_cell_at = b} := by
  have e : defBody s_law_cell_at = defBody s_law_cell_at := rfl
  conv at e => rhs; whnf
  exact ⟨_, e⟩
def sc_law_cell_at : {b : Scope // defScope s_law_cell_at = b} := by
  have e : defScope s_law_cell_at = defScope s_law_cell_at := rfl
  conv at e => rhs; whnf
  exact ⟨_, e⟩
theorem S_law_cell_at : FnScope N_law_cell_at [(Str.ofString "script"), (Str.ofString "k")] sc_law_cell_at.1 := ⟨rfl, rfl, rfl, by decide +kernel, rfl, by decide +kernel, by decide +kernel⟩
def F_law_cell_at : FS := (sSeq (sIf (b2 dLt (eVar 1) (eCall cLen (aCons (eVar 0) aNil))) (sRet (e2 ixD (eVar 0) (eVar 1))) sNil) (sRet (eC (.int 0))))
def d_law_cell_at : List D → R D := fnD N_law_cell_at F_law_cell_at
theorem c_law_cell_at {P : Program} {w : World} {K : PySem.W.Frag} {mg : Str → Option Value} {base : Heap} (T : Tp K mg) (h : Def K mg (Str.ofString "_law_cell_at") s_law_cell_at)  : Callee P w K mg base 1 (Str.ofString "_law_cell_at") 2 d_law_cell_at := by
  obtain ⟨f, fd, F, hm⟩ := h
  exact ⟨f, fd, _, qfn_pureB (k := 0) bd_law_cell_at.2 sc_law_cell_at.2 F S_law_cell_at (fun cdv A outer s H E hr => (qpds_cons (qpds_if (qpb_cmp o_lt (qpd_var 1) (qpd_callB c_len rfl T.z_len PySem.boot_len (qpas_cons (qpd_var 0) qpas_nil)) (nomark _)) (qpds_one (qpds_ret (qpd_ix (qpd_var 0) (qpd_var 1) (fun _ _ => rfl)))) qpds_nil) (qpds_one (qpds_ret qpd_int)))), hm, F.kp, F.binds fun _ _ _ _ _ _ us hl => match us, hl with | [_, _], _ => rfl⟩
/-! ### law_stir -/
abbrev s_law_stir : Stmt := top 12
abbrev N_law_stir : List Str := [(Str.ofString "cell"), (Str.ofString "k"), (Str.ofString "number")]
def bd_law_stir : {b : List Stmt // defBody s_law_stir = b} := by
  have e : defBody s_law_stir = defBody s_law_stir := rfl
  conv at e => rhs; whnf
  exact ⟨_, e⟩
def sc_law_stir : {b : Scope // defScope s_law_stir = b} := by
  have e : defScope s_law_stir = defScope s_law_stir := rfl
  conv at e => rhs; whnf
  exact ⟨_, e⟩
theorem S_law_stir : FnScope N_law_stir [(Str.ofString "cell"), (Str.ofString "k")] sc_law_stir.1 := ⟨rfl, rfl, rfl, by decide +kernel, rfl, by decide +kernel, by decide +kernel⟩
def F_law_stir : FS := (sSeq (sIf (b2 dGe (eVar 0) (e2 dPow (eC (.int 10)) (eC (.int 18)))) (sRet (e2 dMod (e2 dShr (e2 dSub (eVar 0) (e2 dPow (eC (.int 10)) (eC (.int 18)))) (e2 dMul (eC (.int 28)) (eVar 1))) (e2 dPow (eC (.int 2)) (eC (.int 28))))) sNil) (sSeq (sSet 2 (e2 dMod (e2 dMul (e2 dAdd (e2 dAdd (eVar 0) (e2 dMul (eC (.int 1013)) (eVar 1))) (eC (.int 1))) (eC (.int 16807))) (eC (.int 2147483647)))) (sSeq (sSet 2 (e2 dMod (e2 dMul (eVar 2) (eVar 2)) (eC (.int 2147483629)))) (sRet (e2 dFdiv (e2 dMod (e2 dMul (eVar 2) (eC (.int 39373))) (eC (.int 2147483587))) (eC (.int 8)))))))
def d_law_stir : List D → R D := fnD N_law_stir F_law_stir
theorem c_law_stir {P : Program} {w : World} {K : PySem.W.Frag} {mg : Str → Option Value} {base : Heap} (T : Tp K mg) (h : Def K mg (Str.ofString "_law_stir") s_law_stir)  : Callee P w K mg base 1 (Str.ofString "_law_stir") 2 d_law_stir := by
  obtain ⟨f, fd, F, hm⟩ := h
  exact ⟨f, fd, _, qfn_pureB (k := 0) bd_law_stir.2 sc_law_stir.2 F S_law_stir (fun cdv A outer s H E hr => (qpds_cons (qpds_if (qpb_cmp o_ge (qpd_var 0) (qpd_op o_pow qpd_int qpd_int) (nomark _)) (qpds_one (qpds_ret (qpd_op o_mod (qpd_op o_shr (qpd_op o_sub (qpd_var 0) (qpd_op o_pow qpd_int qpd_int)) (qpd_op o_mul qpd_int (qpd_var 1))) (qpd_op o_pow qpd_int qpd_int)))) qpds_nil) (qpds_cons (qpds_set S_law_stir.nd rfl (Or.inl rfl) (qpd_op o_mod (qpd_op o_mul (qpd_op o_add (qpd_op o_add (qpd_var 0) (qpd_op o_mul qpd_int (qpd_var 1))) qpd_int) qpd_int) qpd_int)) (qpds_cons (qpds_set S_law_stir.nd rfl (Or.inl rfl) (qpd_op o_mod (qpd_op o_mul (qpd_var 2) (qpd_var 2)) qpd_int)) (qpds_one (qpds_ret (qpd_op o_fdiv (qpd_op o_mod (qpd_op o_mul (qpd_var 2) qpd_int) qpd_int) qpd_int))))))), hm, F.kp, F.binds fun _ _ _ _ _ _ us hl => match us, hl with | [_, _], _ => rfl⟩
/-! ### law_names -/
abbrev s_law_names : Stmt := top 13
abbrev N_law_names : List Str := [(Str.ofString "head"), (Str.ofString "k"), (Str.ofString "many"), (Str.ofString "letters"), (Str.ofString "barred"), (Str.ofString "found"), (Str.ofString "j"), (Str.ofString "number"), (Str.ofString "word"), (Str.ofString "spare")]
def bd_law_names : {b : List Stmt // defBody s_law_names = b} := by
  have e : defBody s_law_names = defBody s_law_names := rfl
  conv at e => rhs; whnf
  exact ⟨_, e⟩
def sc_law_names : {b : Scope // defScope s_law_names = b} := by
  have e : defScope s_law_names = defScope s_law_names := rfl
  conv at e => rhs; whnf
  exact ⟨_, e⟩
theorem S_law_names : FnScope N_law_names [(Str.ofString "head"), (Str.ofString "k"), (Str.ofString "many")] sc_law_names.1 := ⟨rfl, rfl, rfl, by decide +kernel, rfl, by decide +kernel, by decide +kernel⟩
def B_law_names_0 : FS := (sSeq (sSet 7 (eCall d_law_stir (aCons (eVar 0) (aCons (e2 dAdd (eVar 1) (eVar 6)) aNil)))) (sSeq (sSet 8 (eMt "str" mJoin (eC (.str (Str.ofString ""))) (aCons (eNew (nLst (aCons (e2 ixD (eVar 3) (e2 dMod (eVar 7) (eC (.int 26)))) (aCons (e2 ixD (eVar 3) (e2 dMod (e2 dFdiv (eVar 7) (eC (.int 26))) (eC (.int 26)))) (aCons (e2 dMul (eC (.str (Str.ofString "x"))) (e2 dMod (e2 dFdiv (eVar 7) (eC (.int 700))) (eC (.int 7)))) aNil))))) aNil))) (sSeq (sSet 8 (eSl (eVar 8) (oSome (e2 dMod (e2 dFdiv (eVar 7) (eC (.int 5000))) (eC (.int 2)))) oNone)) (sSeq (sIf (bAnd (b2 dEq (e2 dMod (e2 dFdiv (eVar 7) (eC (.int 10000))) (eC (.int 4))) (eC (.int 0))) (bThaw (b2 dNe (eVar 5) (eNew (nLst aNil))))) (sSet 8 (eSl (e2 dAdd (eThaw (e2 ixD (eVar 5) (e2 dMod (e2 dFdiv (eVar 7) (eC (.int 40000))) (eCall cLen (aCons (eVar 5) aNil))))) (eVar 8)) oNone (oSome (eC (.int 8))))) sNil) (sSeq (sIf (bOr (b2 dEq (eVar 8) (eC (.str (Str.ofString "")))) (bOr (bThaw (b2 dIn (eVar 8) (eVar 5))) (b2 dIn (eVar 8) (eVar 4)))) (sSeq (sSet 9 (eNew (nComp (itRng1 (eC (.int 80))) (gNameD 0) cYes (e2 dAdd (e2 dAdd (eC (.str (Str.ofString "zz"))) (e2 ixD (eVar 1) (e2 dFdiv (eVar 0) (eC (.int 26))))) (e2 ixD (eVar 1) (e2 dMod (eVar 0) (eC (.int 26))))) [(Str.ofString "n")] [3]))) (sSet 8 (eThaw (e2 ixD (eNew (nComp (itSeq (eVar 9)) (gNameD 0) (b2 dNotIn (eVar 0) (eVar 1)) (eVar 0) [(Str.ofString "one")] [5])) (eC (.int 0)))))) sNil) (sApp 5 (eVar 8)))))))
def F_law_names : FS := (sSeq (sSet 3 (eC (.str (Str.ofString "abcdefghijklmnopqrstuvwxyz")))) (sSeq (sSet 4 (eNew (nLst (aCons (eC (.str (Str.ofString "in"))) (aCons (eC (.str (Str.ofString "gate"))) (aCons (eC (.str (Str.ofString "sure"))) (aCons (eC (.str (Str.ofString "out"))) (aCons (eC (.str (Str.ofString "not"))) (aCons (eC (.str (Str.ofString "and"))) (aCons (eC (.str (Str.ofString "or"))) (aCons (eC (.str (Str.ofString "xor"))) (aCons (eC (.str (Str.ofString "vote"))) aNil)))))))))))) (sSeq (sBld 5 (nLst aNil)) (sSeq (sFor (itRng1 (eVar 2)) (gNameD 6) B_law_names_0) (sFrz 5 (sRet (eVar 5)))))))
def d_law_names : List D → R D := fnD N_law_names F_law_names
theorem c_law_names {P : Program} {w : World} {K : PySem.W.Frag} {mg : Str → Option Value} {base : Heap} (T : Tp K mg) (h : Def K mg (Str.ofString "_law_names") s_law_names) (C_law_stir : Callee P w K mg base 1 (Str.ofString "_law_stir") 2 d_law_stir) : Callee P w K mg base 2 (Str.ofString "_law_names") 3 d_law_names := by
  obtain ⟨f, fd, F, hm⟩ := h
  exact ⟨f, fd, _, qfn_pureB (k := 1) bd_law_names.2 sc_law_names.2 F S_law_names (fun cdv A outer s H E hr => (qpds_cons (qpds_set S_law_names.nd rfl (Or.inr rfl) qpd_str) (qpds_cons (qpds_set S_law_names.nd rfl (Or.inl rfl) (qpd_new (qpn_lst (qpas_cons qpd_str (qpas_cons qpd_str (qpas_cons qpd_str (qpas_cons qpd_str (qpas_cons qpd_str (qpas_cons qpd_str (qpas_cons qpd_str (qpas_cons qpd_str (qpas_cons qpd_str qpas_nil)))))))))))) (qpds_cons (qpds_bld S_law_names.nd rfl (Or.inr rfl) (qpn_lst qpas_nil)) (qpds_cons (qpds_for PassesOwn.never rfl (qpit_range1 (qpd_var 2) rfl T.z_range) (qptg_name S_law_names.nd rfl (Or.inl rfl)) (qpds_cons (qpds_set S_law_names.nd rfl (Or.inl rfl) (qpd_callC C_law_stir hr (by decide) rfl (qpas_cons (qpd_var 0) (qpas_cons (qpd_op o_add (qpd_var 1) (qpd_var 6)) qpas_nil)) (alen_cons (alen_cons alen_nil)))) (qpds_cons (qpds_set S_law_names.nd rfl (Or.inl rfl) (qpd_join qpd_str (qpas_cons (qpd_new (qpn_lst (qpas_cons (qpd_ix (qpd_var 3) (qpd_op o_mod (qpd_var 7) qpd_int) (fun _ _ => rfl)) (qpas_cons (qpd_ix (qpd_var 3) (qpd_op o_mod (qpd_op o_fdiv (qpd_var 7) qpd_int) qpd_int) (fun _ _ => rfl)) (qpas_cons (qpd_op o_mul qpd_str (qpd_op o_mod (qpd_op o_fdiv (qpd_var 7) qpd_int) qpd_int)) qpas_nil))))) qpas_nil))) (qpds_cons (qpds_set S_law_names.nd rfl (Or.inl rfl) (qpd_sl (qpd_var 8) (qpp_some (qpd_op o_mod (qpd_op o_fdiv (qpd_var 7) qpd_int) qpd_int)) qpp_none)) (qpds_cons (qpds_if (qPBW_pb (qpbw_and (qpb_cmp (o_eq hr.units) (qpd_op o_mod (qpd_op o_fdiv (qpd_var 7) qpd_int) qpd_int) qpd_int (nomark _)) (qpbw_and1 (qpb_thaw (qpb_cmp (o_ne hr.units) (qpd_var 5) (qpd_new (qpn_lst qpas_nil)) (nomark _)))))) (qpds_one (qpds_set S_law_names.nd rfl (Or.inl rfl) (qpd_sl (qpd_op o_add (qpd_thaw (qpd_ix (qpd_var 5) (qpd_op o_mod (qpd_op o_fdiv (qpd_var 7) qpd_int) (qpd_callB c_len rfl T.z_len PySem.boot_len (qpas_cons (qpd_var 5) qpas_nil))) (fun _ _ => rfl))) (qpd_var 8)) qpp_none (qpp_some qpd_int)))) qpds_nil) (qpds_cons (qpds_if (qPBW_pb (qpbw_or (qpb_cmp (o_eq hr.units) (qpd_var 8) qpd_str (nomark _)) (qpbw_or (qpb_thaw (qpb_cmp o_in (qpd_var 8) (qpd_var 5) (by with_unfolding_all rfl))) (qpbw_or1 (qpb_cmp o_in (qpd_var 8) (qpd_var 4) (by with_unfolding_all rfl)))))) (qpds_cons (qpds_setComp rfl S_law_names.nd rfl rfl (CScope.of (own := [(Str.ofString "n")]) (kp := [3]) (kn := [(Str.ofString "letters")]) (sc := sc_law_names.1) (N := N_law_names) rfl rfl (by decide +kernel)) (qpit_range1 qpd_int rfl T.z_range) (fun _ _ _ => (qptg_name (show List.Nodup [(Str.ofString "n"), (Str.ofString "letters")] from by decide +kernel) rfl (Or.inl rfl))) (fun _ _ _ => qpifs_yes) (fun _ _ _ => (qpd_op o_add (qpd_op o_add qpd_str (qpd_ix (qpd_var 1) (qpd_op o_fdiv (qpd_var 0) qpd_int) (fun _ _ => rfl))) (qpd_ix (qpd_var 1) (qpd_op o_mod (qpd_var 0) qpd_int) (fun _ _ => rfl))))) (qpds_one (qpds_set S_law_names.nd rfl (Or.inl rfl) (qpd_thaw (qpd_ix (qpd_new (qpn_comp rfl (CScope.of (own := [(Str.ofString "one")]) (kp := [5]) (kn := [(Str.ofString "found")]) (sc := sc_law_names.1) (N := N_law_names) rfl rfl (by decide +kernel)) (qpit_seq (qpd_var 9)) (fun _ _ _ => (qptg_name (show List.Nodup [(Str.ofString "one"), (Str.ofString "found")] from by decide +kernel) rfl (Or.inl rfl))) (fun _ _ _ => (qpifs_if (qpb_cmp o_notIn (qpd_var 0) (qpd_var 1) (by with_unfolding_all rfl)))) (fun _ _ _ => (qpd_var 0)))) qpd_int (fun _ _ => rfl)))))) qpds_nil) (qpds_one (qpds_app rfl (Or.inr (Or.inl rfl)) (qpd_var 8))))))))) (qpds_frz 5 (qpds_one (qpds_ret (qpd_var 5))))))))), hm, F.kp, F.binds fun _ _ _ _ _ _ us hl => match us, hl with | [_, _, _], _ => rfl⟩
/-! ### law_wires -/
abbrev s_law_wires : Stmt := top 14
abbrev N_law_wires : List Str := [(Str.ofString "cell"), (Str.ofString "k"), (Str.ofString "many"), (Str.ofString "count"), (Str.ofString "found"), (Str.ofString "j"), (Str.ofString "number")]
def bd_law_wires : {b : List Stmt // defBody s_law_wires = b} := by
  have e : defBody s_law_wires = defBody s_law_wires := rfl
  conv at e => rhs; whnf
  exact ⟨_, e⟩
def sc_law_wires : {b : Scope // defScope s_law_wires = b} := by
  have e : defScope s_law_wires = defScope s_law_wires := rfl
  conv at e => rhs; whnf
  exact ⟨_, e⟩
theorem S_law_wires : FnScope N_law_wires [(Str.ofString "cell"), (Str.ofString "k"), (Str.ofString "many"), (Str.ofString "count")] sc_law_wires.1 := ⟨rfl, rfl, rfl, by decide +kernel, rfl, by decide +kernel, by decide +kernel⟩
def B_law_wires_0 : FS := (sSeq (sSet 6 (eCall d_law_stir (aCons (eVar 0) (aCons (e2 dAdd (eVar 1) (eVar 5)) aNil)))) (sApp 4 (e2 ixD (eNew (nLst (aCons (e2 dMod (e2 dFdiv (eVar 6) (eC (.int 4))) (eVar 3)) (aCons (e2 dSub (e2 dSub (eVar 3) (eC (.int 1))) (e2 dMod (e2 dFdiv (eVar 6) (eC (.int 4))) (eCall cMin (aCons (eVar 3) (aCons (eC (.int 6)) aNil))))) aNil)))) (eCall cInt (aCons (e2 dGt (e2 dMod (eVar 6) (eC (.int 4))) (eC (.int 0))) aNil)))))
def F_law_wires : FS := (sSeq (sBld 4 (nLst aNil)) (sSeq (sFor (itRng1 (eVar 2)) (gNameD 5) B_law_wires_0) (sFrz 4 (sRet (eCall cTuple (aCons (eVar 4) aNil))))))
def d_law_wires : List D → R D := fnD N_law_wires F_law_wires
theorem c_law_wires {P : Program} {w : World} {K : PySem.W.Frag} {mg : Str → Option Value} {base : Heap} (T : Tp K mg) (h : Def K mg (Str.ofString "_law_wires") s_law_wires) (C_law_stir : Callee P w K mg base 1 (Str.ofString "_law_stir") 2 d_law_stir) : Callee P w K mg base 2 (Str.ofString "_law_wires") 4 d_law_wires := by
  obtain ⟨f, fd, F, hm⟩ := h
  exact ⟨f, fd, _, qfn_pureB (k := 1) bd_law_wires.2 sc_law_wires.2 F S_law_wires (fun cdv A outer s H E hr => (qpds_cons (qpds_bld S_law_wires.nd rfl (Or.inl rfl) (qpn_lst qpas_nil)) (qpds_cons (qpds_for PassesOwn.never rfl (qpit_range1 (qpd_var 2) rfl T.z_range) (qptg_name S_law_wires.nd rfl (Or.inl rfl)) (qpds_cons (qpds_set S_law_wires.nd rfl (Or.inl rfl) (qpd_callC C_law_stir hr (by decide) rfl (qpas_cons (qpd_var 0) (qpas_cons (qpd_op o_add (qpd_var 1) (qpd_var 5)) qpas_nil)) (alen_cons (alen_cons alen_nil)))) (qpds_one (qpds_app rfl (Or.inl rfl) (qpd_ix (qpd_new (qpn_lst (qpas_cons (qpd_op o_mod (qpd_op o_fdiv (qpd_var 6) qpd_int) (qpd_var 3)) (qpas_cons (qpd_op o_sub (qpd_op o_sub (qpd_var 3) qpd_int) (qpd_op o_mod (qpd_op o_fdiv (qpd_var 6) qpd_int) (qpd_callB (c_min rfl) rfl T.z_min PyProof.Rows.boot_min (qpas_cons (qpd_var 3) (qpas_cons qpd_int qpas_nil))))) qpas_nil)))) (qpd_callTy c_int rfl T.z_int PyProof.Rows.boot_int (qpas_cons (qpd_cmp o_gt (qpd_op o_mod (qpd_var 6) qpd_int) qpd_int (nomark _)) qpas_nil)) (fun _ _ => rfl)))))) (qpds_frz 4 (qpds_one (qpds_ret (qpd_callTy c_tuple rfl T.z_tuple PyProof.Rows.boot_tuple (qpas_cons (qpd_var 4) qpas_nil)))))))), hm, F.kp, F.binds fun _ _ _ _ _ _ us hl => match us, hl with | [_, _, _, _], _ => rfl⟩
/-! ### law_gate -/
abbrev s_law_gate : Stmt := top 15
abbrev N_law_gate : List Str := [(Str.ofString "cell"), (Str.ofString "count"), (Str.ofString "number"), (Str.ofString "kind"), (Str.ofString "many")]
def bd_law_gate : {b : List Stmt // defBody s_law_gate = b} := by
  have e : defBody s_law_gate = defBody s_law_gate := rfl
  conv at e => rhs; whnf
  exact ⟨_, e⟩
def sc_law_gate : {b : Scope // defScope s_law_gate = b} := by
  have e : defScope s_law_gate = defScope s_law_gate := rfl
  conv at e => rhs; whnf
  exact ⟨_, e⟩
theorem S_law_gate : FnScope N_law_gate [(Str.ofString "cell"), (Str.ofString "count")] sc_law_gate.1 := ⟨rfl, rfl, rfl, by decide +kernel, rfl, by decide +kernel, by decide +kernel⟩
def F_law_gate : FS := (sSeq (sSet 2 (eCall d_law_stir (aCons (eVar 0) (aCons (eC (.int 0)) aNil)))) (sSeq (sSet 3 (e2 ixD (eNew (nLst (aCons (eC (.str (Str.ofString "and"))) (aCons (eC (.str (Str.ofString "or"))) (aCons (eC (.str (Str.ofString "xor"))) (aCons (eC (.str (Str.ofString "vote"))) (aCons (eC (.str (Str.ofString "not"))) (aCons (eC (.str (Str.ofString "and"))) (aCons (eC (.str (Str.ofString "xor"))) (aCons (eC (.str (Str.ofString "vote"))) aNil)))))))))) (e2 dMod (eVar 2) (eC (.int 8))))) (sSeq (sSet 4 (eGet [((Sum.inr (Str.ofString "not") : Key), V.int 1), ((Sum.inr (Str.ofString "vote") : Key), V.int 3)] (eVar 3) (eC (.int 2)))) (sRet (eTup (aCons (eVar 3) (aCons (eCall d_law_wires (aCons (eVar 0) (aCons (eC (.int 1)) (aCons (eVar 4) (aCons (eVar 1) aNil))))) (aCons (e2 dEq (e2 dMod (e2 dFdiv (eVar 2) (eC (.int 8))) (eC (.int 4))) (eC (.int 0))) aNil))))))))
def d_law_gate : List D → R D := fnD N_law_gate F_law_gate
theorem c_law_gate {P : Program} {w : World} {K : PySem.W.Frag} {mg : Str → Option Value} {base : Heap} (T : Tp K mg) (h : Def K mg (Str.ofString "_law_gate") s_law_gate) (C_law_stir : Callee P w K mg base 1 (Str.ofString "_law_stir") 2 d_law_stir) (C_law_wires : Callee P w K mg base 2 (Str.ofString "_law_wires") 4 d_law_wires) : Callee P w K mg base 3 (Str.ofString "_law_gate") 2 d_law_gate := by
  obtain ⟨f, fd, F, hm⟩ := h
  exact ⟨f, fd, _, qfn_pureB (k := 2) bd_law_gate.2 sc_law_gate.2 F S_law_gate (fun cdv A outer s H E hr => (qpds_cons (qpds_set S_law_gate.nd rfl (Or.inl rfl) (qpd_callC C_law_stir hr (by decide) rfl (qpas_cons (qpd_var 0) (qpas_cons qpd_int qpas_nil)) (alen_cons (alen_cons alen_nil)))) (qpds_cons (qpds_set S_law_gate.nd rfl (Or.inl rfl) (qpd_ix (qpd_new (qpn_lst (qpas_cons qpd_str (qpas_cons qpd_str (qpas_cons qpd_str (qpas_cons qpd_str (qpas_cons qpd_str (qpas_cons qpd_str (qpas_cons qpd_str (qpas_cons qpd_str qpas_nil)))))))))) (qpd_op o_mod (qpd_var 2) qpd_int) (fun _ _ => rfl))) (qpds_cons (qpds_set S_law_gate.nd rfl (Or.inl rfl) (qpd_get (hu_of hr) (pps_cons pe_str pe_int (pps_cons pe_str pe_int pps_nil)) rfl rfl (by simp) (fun _ _ _ h => h) (by decide) (qpd_var 3) qpd_int ⟨rfl, rfl, rfl, rfl⟩ (pe_disp (pps_cons pe_str pe_int (pps_cons pe_str pe_int pps_nil)) rfl rfl (by simp) (by decide)))) (qpds_one (qpds_ret (qpd_tup (qpas_cons (qpd_var 3) (qpas_cons (qpd_callC C_law_wires hr (by decide) rfl (qpas_cons (qpd_var 0) (qpas_cons qpd_int (qpas_cons (qpd_var 4) (qpas_cons (qpd_var 1) qpas_nil)))) (alen_cons (alen_cons (alen_cons (alen_cons alen_nil))))) (qpas_cons (qpd_cmp (o_eq hr.units) (qpd_op o_mod (qpd_op o_fdiv (qpd_var 2) qpd_int) qpd_int) qpd_int (nomark _)) qpas_nil)))))))))), hm, F.kp, F.binds fun _ _ _ _ _ _ us hl => match us, hl with | [_, _], _ => rfl⟩
/-! ### law_net -/
abbrev s_law_net : Stmt := top 16
abbrev N_law_net : List Str := [(Str.ofString "script"), (Str.ofString "head"), (Str.ofString "names"), (Str.ofString "ins"), (Str.ofString "place"), (Str.ofString "first"), (Str.ofString "gates"), (Str.ofString "cell"), (Str.ofString "outs"), (Str.ofString "others"), (Str.ofString "number")]
def bd_law_net : {b : List Stmt // defBody s_law_net = b} := by
  have e : defBody s_law_net = defBody s_law_net := rfl
  conv at e => rhs; whnf
  exact ⟨_, e⟩
def sc_law_net : {b : Scope // defScope s_law_net = b} := by
  have e : defScope s_law_net = defScope s_law_net := rfl
  conv at e => rhs; whnf
  exact ⟨_, e⟩
theorem S_law_net : FnScope N_law_net [(Str.ofString "script")] sc_law_net.1 := ⟨rfl, rfl, rfl, by decide +kernel, rfl, by decide +kernel, by decide +kernel⟩
def B_law_net_0 : FS := (sApp 3 (eTup (aCons (e2 ixD (eVar 2) (eVar 4)) (aCons (e2 dAdd (eC (.int 1)) (e2 dMod (eCall d_law_stir (aCons (eVar 1) (aCons (e2 dAdd (eC (.int 321)) (eVar 4)) aNil))) (eC (.int 3)))) aNil))))
def B_law_net_1 : FS := (sApp 6 (eCall d_law_gate (aCons (eVar 7) (aCons (e2 dAdd (eVar 5) (eThaw (eCall cLen (aCons (eVar 6) aNil)))) aNil))))
def B_law_net_2 : FS := (sSeq (sSet 10 (eCall d_law_stir (aCons (eVar 1) (aCons (e2 dAdd (eC (.int 342)) (eVar 4)) aNil)))) (sApp 8 (eTup (aCons (e2 ixD (eVar 9) (e2 dSub (eC (.int 5)) (eVar 4))) (aCons (eCall d_law_wires (aCons (eVar 1) (aCons (e2 dAdd (eC (.int 350)) (e2 dMul (eC (.int 3)) (eVar 4))) (aCons (e2 dAdd (eC (.int 1)) (e2 dMod (eVar 10) (eC (.int 3)))) (aCons (e2 dAdd (eVar 5) (eCall cLen (aCons (eVar 6) aNil))) aNil))))) aNil)))))
def F_law_net : FS := (sSeq (sSet 1 (eCall d_law_cell_at (aCons (eVar 0) (aCons (eC (.int 0)) aNil)))) (sSeq (sSet 2 (eCall d_law_names (aCons (eVar 1) (aCons (eC (.int 300)) (aCons (eC (.int 6)) aNil))))) (sSeq (sBld 3 (nLst aNil)) (sSeq (sFor (itRng1 (e2 dAdd (eC (.int 1)) (e2 dMod (eCall d_law_stir (aCons (eVar 1) (aCons (eC (.int 320)) aNil))) (eC (.int 6))))) (gNameD 4) B_law_net_0) (sFrz 3 (sSeq (sSet 5 (eCall cSum (aCons (eNew (nComp (itSeq (eVar 3)) (gTupD 2 (gConsD (gNameD 0) (gConsD (gNameD 1) gNilD))) cYes (eVar 1) [(Str.ofString "name"), (Str.ofString "width")] [])) aNil))) (sSeq (sBld 6 (nLst aNil)) (sSeq (sFor (itSeq (eSl (eVar 0) (oSome (eC (.int 1))) (oSome (eC (.int 61))))) (gNameD 7) B_law_net_1) (sFrz 6 (sSeq (sBld 8 (nLst aNil)) (sSeq (sSet 9 (eCall d_law_names (aCons (eVar 1) (aCons (eC (.int 330)) (aCons (eC (.int 6)) aNil))))) (sSeq (sIf (b2 dEq (e2 dMod (eCall d_law_stir (aCons (eVar 1) (aCons (eC (.int 340)) aNil))) (eC (.int 2))) (eC (.int 0))) (sSet 9 (eVar 2)) sNil) (sSeq (sFor (itRng1 (e2 dAdd (eC (.int 1)) (e2 dMod (eCall d_law_stir (aCons (eVar 1) (aCons (eC (.int 341)) aNil))) (eC (.int 6))))) (gNameD 4) B_law_net_2) (sFrz 8 (sRet (eTup (aCons (eVar 3) (aCons (eVar 6) (aCons (eVar 8) aNil)))))))))))))))))))
def d_law_net : List D → R D := fnD N_law_net F_law_net
theorem c_law_net {P : Program} {w : World} {K : PySem.W.Frag} {mg : Str → Option Value} {base : Heap} (T : Tp K mg) (h : Def K mg (Str.ofString "_law_net") s_law_net) (C_law_cell_at : Callee P w K mg base 1 (Str.ofString "_law_cell_at") 2 d_law_cell_at) (C_law_names : Callee P w K mg base 2 (Str.ofString "_law_names") 3 d_law_names) (C_law_stir : Callee P w K mg base 1 (Str.ofString "_law_stir") 2 d_law_stir) (C_law_gate : Callee P w K mg base 3 (Str.ofString "_law_gate") 2 d_law_gate) (C_law_wires : Callee P w K mg base 2 (Str.ofString "_law_wires") 4 d_law_wires) : Callee P w K mg base 4 (Str.ofString "_law_net") 1 d_law_net := by
  obtain ⟨f, fd, F, hm⟩ := h
  exact ⟨f, fd, _, qfn_pureB (k := 3) bd_law_net.2 sc_law_net.2 F S_law_net (fun cdv A outer s H E hr => (qpds_cons (qpds_set S_law_net.nd rfl (Or.inl rfl) (qpd_callC C_law_cell_at hr (by decide) rfl (qpas_cons (qpd_var 0) (qpas_cons qpd_int qpas_nil)) (alen_cons (alen_cons alen_nil)))) (qpds_cons (qpds_set S_law_net.nd rfl (Or.inl rfl) (qpd_callC C_law_names hr (by decide) rfl (qpas_cons (qpd_var 1) (qpas_cons qpd_int (qpas_cons qpd_int qpas_nil))) (alen_cons (alen_cons (alen_cons alen_nil))))) (qpds_cons (qpds_bld S_law_net.nd rfl (Or.inl rfl) (qpn_lst qpas_nil)) (qpds_cons (qpds_for PassesOwn.never rfl (qpit_range1 (qpd_op o_add qpd_int (qpd_op o_mod (qpd_callC C_law_stir hr (by decide) rfl (qpas_cons (qpd_var 1) (qpas_cons qpd_int qpas_nil)) (alen_cons (alen_cons alen_nil))) qpd_int)) rfl T.z_range) (qptg_name S_law_net.nd rfl (Or.inl rfl)) (qpds_one (qpds_app rfl (Or.inl rfl) (qpd_tup (qpas_cons (qpd_ix (qpd_var 2) (qpd_var 4) (fun _ _ => rfl)) (qpas_cons (qpd_op o_add qpd_int (qpd_op o_mod (qpd_callC C_law_stir hr (by decide) rfl (qpas_cons (qpd_var 1) (qpas_cons (qpd_op o_add qpd_int (qpd_var 4)) qpas_nil)) (alen_cons (alen_cons alen_nil))) qpd_int)) qpas_nil)))))) (qpds_frz 3 (qpds_cons (qpds_set S_law_net.nd rfl (Or.inl rfl) (qpd_callB (c_sum rfl) rfl T.z_sum PyProof.Rows.boot_sum (qpas_cons (qpd_new (qpn_comp rfl (CScope.of (own := [(Str.ofString "name"), (Str.ofString "width")]) (kp := []) (kn := []) (sc := sc_law_net.1) (N := N_law_net) rfl rfl (by decide +kernel)) (qpit_seq (qpd_var 3)) (fun _ _ _ => (qptg_tup rfl (qptgs_cons (qptg_name (show List.Nodup [(Str.ofString "name"), (Str.ofString "width")] from by decide +kernel) rfl (Or.inl rfl)) (qptgs_cons (qptg_name (show List.Nodup [(Str.ofString "name"), (Str.ofString "width")] from by decide +kernel) rfl (Or.inl rfl)) qptgs_nil)))) (fun _ _ _ => qpifs_yes) (fun _ _ _ => (qpd_var 1)))) qpas_nil))) (qpds_cons (qpds_bld S_law_net.nd rfl (Or.inl rfl) (qpn_lst qpas_nil)) (qpds_cons (qpds_for PassesOwn.never rfl (qpit_seq (qpd_sl (qpd_var 0) (qpp_some qpd_int) (qpp_some qpd_int))) (qptg_name S_law_net.nd rfl (Or.inl rfl)) (qpds_one (qpds_app rfl (Or.inl rfl) (qpd_callC C_law_gate hr (by decide) rfl (qpas_cons (qpd_var 7) (qpas_cons (qpd_op o_add (qpd_var 5) (qpd_thaw (qpd_callB c_len rfl T.z_len PySem.boot_len (qpas_cons (qpd_var 6) qpas_nil)))) qpas_nil)) (alen_cons (alen_cons alen_nil)))))) (qpds_frz 6 (qpds_cons (qpds_bld S_law_net.nd rfl (Or.inl rfl) (qpn_lst qpas_nil)) (qpds_cons (qpds_set S_law_net.nd rfl (Or.inl rfl) (qpd_callC C_law_names hr (by decide) rfl (qpas_cons (qpd_var 1) (qpas_cons qpd_int (qpas_cons qpd_int qpas_nil))) (alen_cons (alen_cons (alen_cons alen_nil))))) (qpds_cons (qpds_if (qpb_cmp (o_eq hr.units) (qpd_op o_mod (qpd_callC C_law_stir hr (by decide) rfl (qpas_cons (qpd_var 1) (qpas_cons qpd_int qpas_nil)) (alen_cons (alen_cons alen_nil))) qpd_int) qpd_int (nomark _)) (qpds_one (qpds_set S_law_net.nd rfl (Or.inl rfl) (qpd_var 2))) qpds_nil) (qpds_cons (qpds_for PassesOwn.never rfl (qpit_range1 (qpd_op o_add qpd_int (qpd_op o_mod (qpd_callC C_law_stir hr (by decide) rfl (qpas_cons (qpd_var 1) (qpas_cons qpd_int qpas_nil)) (alen_cons (alen_cons alen_nil))) qpd_int)) rfl T.z_range) (qptg_name S_law_net.nd rfl (Or.inl rfl)) (qpds_cons (qpds_set S_law_net.nd rfl (Or.inl rfl) (qpd_callC C_law_stir hr (by decide) rfl (qpas_cons (qpd_var 1) (qpas_cons (qpd_op o_add qpd_int (qpd_var 4)) qpas_nil)) (alen_cons (alen_cons alen_nil)))) (qpds_one (qpds_app rfl (Or.inl rfl) (qpd_tup (qpas_cons (qpd_ix (qpd_var 9) (qpd_op o_sub qpd_int (qpd_var 4)) (fun _ _ => rfl)) (qpas_cons (qpd_callC C_law_wires hr (by decide) rfl (qpas_cons (qpd_var 1) (qpas_cons (qpd_op o_add qpd_int (qpd_op o_mul qpd_int (qpd_var 4))) (qpas_cons (qpd_op o_add qpd_int (qpd_op o_mod (qpd_var 10) qpd_int)) (qpas_cons (qpd_op o_add (qpd_var 5) (qpd_callB c_len rfl T.z_len PySem.boot_len (qpas_cons (qpd_var 6) qpas_nil))) qpas_nil)))) (alen_cons (alen_cons (alen_cons (alen_cons alen_nil))))) qpas_nil))))))) (qpds_frz 8 (qpds_one (qpds_ret (qpd_tup (qpas_cons (qpd_var 3) (qpas_cons (qpd_var 6) (qpas_cons (qpd_var 8) qpas_nil))))))))))))))))))))), hm, F.kp, F.binds fun _ _ _ _ _ _ us hl => match us, hl with | [_], _ => rfl⟩
/-! ### law_words -/
abbrev s_law_words : Stmt := top 17
abbrev N_law_words : List Str := [(Str.ofString "ins"), (Str.ofString "gate_names"), (Str.ofString "found"), (Str.ofString "name"), (Str.ofString "width")]
def bd_law_words : {b : List Stmt // defBody s_law_words = b} := by
  have e : defBody s_law_words = defBody s_law_words := rfl
  conv at e => rhs; whnf
  exact ⟨_, e⟩
def sc_law_words : {b : Scope // defScope s_law_words = b} := by
  have e : defScope s_law_words = defScope s_law_words := rfl
  conv at e => rhs; whnf
  exact ⟨_, e⟩
theorem S_law_words : FnScope N_law_words [(Str.ofString "ins"), (Str.ofString "gate_names")] sc_law_words.1 := ⟨rfl, rfl, rfl, by decide +kernel, rfl, by decide +kernel, by decide +kernel⟩
def B_law_words_0 : FS := (sSet 2 (e2 dAdd (eVar 2) (e2 ixD (eNew (nLst (aCons (eNew (nLst (aCons (eVar 3) aNil))) (aCons (eSl (eNew (nLst (aCons (e2 dAdd (eVar 3) (eC (.str (Str.ofString ":0")))) (aCons (e2 dAdd (eVar 3) (eC (.str (Str.ofString ":1")))) (aCons (e2 dAdd (eVar 3) (eC (.str (Str.ofString ":2")))) aNil))))) oNone (oSome (eVar 4))) aNil)))) (eCall cInt (aCons (e2 dGt (eVar 4) (eC (.int 1))) aNil)))))
def F_law_words : FS := (sSeq (sSet 2 (eNew (nLst aNil))) (sSeq (sFor (itSeq (eVar 0)) (gTupD 2 (gConsD (gNameD 3) (gConsD (gNameD 4) gNilD))) B_law_words_0) (sRet (e2 dAdd (eVar 2) (eVar 1)))))
def d_law_words : List D → R D := fnD N_law_words F_law_words
theorem c_law_words {P : Program} {w : World} {K : PySem.W.Frag} {mg : Str → Option Value} {base : Heap} (T : Tp K mg) (h : Def K mg (Str.ofString "_law_words") s_law_words)  : Callee P w K mg base 1 (Str.ofString "_law_words") 2 d_law_words := by
  obtain ⟨f, fd, F, hm⟩ := h
  exact ⟨f, fd, _, qfn_pureB (k := 0) bd_law_words.2 sc_law_words.2 F S_law_words (fun cdv A outer s H E hr => (qpds_cons (qpds_set S_law_words.nd rfl (Or.inl rfl) (qpd_new (qpn_lst qpas_nil))) (qpds_cons (qpds_for PassesOwn.never rfl (qpit_seq (qpd_var 0)) (qptg_tup rfl (qptgs_cons (qptg_name S_law_words.nd rfl (Or.inl rfl)) (qptgs_cons (qptg_name S_law_words.nd rfl (Or.inl rfl)) qptgs_nil))) (qpds_one (qpds_set S_law_words.nd rfl (Or.inl rfl) (qpd_op o_add (qpd_var 2) (qpd_ix (qpd_new (qpn_lst (qpas_cons (qpd_new (qpn_lst (qpas_cons (qpd_var 3) qpas_nil))) (qpas_cons (qpd_sl (qpd_new (qpn_lst (qpas_cons (qpd_op o_add (qpd_var 3) qpd_str) (qpas_cons (qpd_op o_add (qpd_var 3) qpd_str) (qpas_cons (qpd_op o_add (qpd_var 3) qpd_str) qpas_nil))))) qpp_none (qpp_some (qpd_var 4))) qpas_nil)))) (qpd_callTy c_int rfl T.z_int PyProof.Rows.boot_int (qpas_cons (qpd_cmp o_gt (qpd_var 4) qpd_int (nomark _)) qpas_nil)) (fun _ _ => rfl)))))) (qpds_one (qpds_ret (qpd_op o_add (qpd_var 2) (qpd_var 1))))))), hm, F.kp, F.binds fun _ _ _ _ _ _ us hl => match us, hl with | [_, _], _ => rfl⟩
/-! ### law_rows -/
abbrev s_law_rows : Stmt := top 18
abbrev N_law_rows : List Str := [(Str.ofString "net"), (Str.ofString "gate_names"), (Str.ofString "ins"), (Str.ofString "gates"), (Str.ofString "outs"), (Str.ofString "words"), (Str.ofString "rows"), (Str.ofString "place"), (Str.ofString "kind"), (Str.ofString "wires"), (Str.ofString "sure"), (Str.ofString "row"), (Str.ofString "name")]
def bd_law_rows : {b : List Stmt // defBody s_law_rows = b} := by
  have e : defBody s_law_rows = defBody s_law_rows := rfl
  conv at e => rhs; whnf
  exact ⟨_, e⟩
def sc_law_rows : {b : Scope // defScope s_law_rows = b} := by
  have e : defScope s_law_rows = defScope s_law_rows := rfl
  conv at e => rhs; whnf
  exact ⟨_, e⟩
theorem S_law_rows : FnScope N_law_rows [(Str.ofString "net"), (Str.ofString "gate_names")] sc_law_rows.1 := ⟨rfl, rfl, rfl, by decide +kernel, rfl, by decide +kernel, by decide +kernel⟩
def B_law_rows_0 : FS := (sSeq (sSet 11 (eNew (nLst (aCons (e2 ixD (eNew (nLst (aCons (eC (.str (Str.ofString "gate"))) (aCons (eC (.str (Str.ofString "sure"))) aNil)))) (eCall cInt (aCons (eVar 10) aNil))) (aCons (e2 ixD (eVar 1) (eVar 7)) (aCons (eVar 8) aNil)))))) (sApp 6 (eMt "str" mJoin (eC (.str (Str.ofString " "))) (aCons (e2 dAdd (eVar 11) (eNew (nComp (itSeq (eVar 9)) (gNameD 0) cYes (e2 ixD (eVar 1) (eVar 0)) [(Str.ofString "wire")] [5]))) aNil))))
def B_law_rows_1 : FS := (sApp 6 (eMt "str" mJoin (eC (.str (Str.ofString " "))) (aCons (e2 dAdd (eNew (nLst (aCons (eC (.str (Str.ofString "out"))) (aCons (eVar 12) aNil)))) (eNew (nComp (itSeq (eVar 9)) (gNameD 0) cYes (e2 ixD (eVar 1) (eVar 0)) [(Str.ofString "wire")] [5]))) aNil)))
def F_law_rows : FS := (sSeq (sAsg (eVar 0) (gTupD 3 (gConsD (gNameD 2) (gConsD (gNameD 3) (gConsD (gNameD 4) gNilD))))) (sSeq (sSet 5 (eCall d_law_words (aCons (eVar 2) (aCons (eVar 1) aNil)))) (sSeq (sBld 6 (nComp (itSeq (eVar 2)) (gTupD 2 (gConsD (gNameD 0) (gConsD (gNameD 1) gNilD))) cYes (eMt "str" mJoin (eC (.str (Str.ofString " "))) (aCons (eNew (nLst (aCons (eC (.str (Str.ofString "in"))) (aCons (eVar 0) (aCons (eCall cStr (aCons (eVar 1) aNil)) aNil))))) aNil)) [(Str.ofString "name"), (Str.ofString "width")] [])) (sSeq (sFor (itEnum (eVar 3)) (gTupD 2 (gConsD (gNameD 7) (gConsD (gTupD 3 (gConsD (gNameD 8) (gConsD (gNameD 9) (gConsD (gNameD 10) gNilD)))) gNilD))) B_law_rows_0) (sSeq (sFor (itSeq (eVar 4)) (gTupD 2 (gConsD (gNameD 12) (gConsD (gNameD 9) gNilD))) B_law_rows_1) (sFrz 6 (sRet (eVar 6))))))))
def d_law_rows : List D → R D := fnD N_law_rows F_law_rows
theorem c_law_rows {P : Program} {w : World} {K : PySem.W.Frag} {mg : Str → Option Value} {base : Heap} (T : Tp K mg) (h : Def K mg (Str.ofString "_law_rows") s_law_rows) (C_law_words : Callee P w K mg base 1 (Str.ofString "_law_words") 2 d_law_words) : Callee P w K mg base 2 (Str.ofString "_law_rows") 2 d_law_rows := by
  obtain ⟨f, fd, F, hm⟩ := h
  exact ⟨f, fd, _, qfn_pureB (k := 1) bd_law_rows.2 sc_law_rows.2 F S_law_rows (fun cdv A outer s H E hr => (qpds_cons (qpds_asg (qpd_var 0) (qptg_tup rfl (qptgs_cons (qptg_name S_law_rows.nd rfl (Or.inl rfl)) (qptgs_cons (qptg_name S_law_rows.nd rfl (Or.inl rfl)) (qptgs_cons (qptg_name S_law_rows.nd rfl (Or.inl rfl)) qptgs_nil))))) (qpds_cons (qpds_set S_law_rows.nd rfl (Or.inr rfl) (qpd_callC C_law_words hr (by decide) rfl (qpas_cons (qpd_var 2) (qpas_cons (qpd_var 1) qpas_nil)) (alen_cons (alen_cons alen_nil)))) (qpds_cons (qpds_bldComp rfl S_law_rows.nd rfl rfl (CScope.of (own := [(Str.ofString "name"), (Str.ofString "width")]) (kp := []) (kn := []) (sc := sc_law_rows.1) (N := N_law_rows) rfl rfl (by decide +kernel)) (qpit_seq (qpd_var 2)) (fun _ _ _ => (qptg_tup rfl (qptgs_cons (qptg_name (show List.Nodup [(Str.ofString "name"), (Str.ofString "width")] from by decide +kernel) rfl (Or.inl rfl)) (qptgs_cons (qptg_name (show List.Nodup [(Str.ofString "name"), (Str.ofString "width")] from by decide +kernel) rfl (Or.inl rfl)) qptgs_nil)))) (fun _ _ _ => qpifs_yes) (fun _ _ _ => (qpd_join qpd_str (qpas_cons (qpd_new (qpn_lst (qpas_cons qpd_str (qpas_cons (qpd_var 0) (qpas_cons (qpd_callTy c_str rfl T.z_str PyProof.Rows.boot_str (qpas_cons (qpd_var 1) qpas_nil)) qpas_nil))))) qpas_nil)))) (qpds_cons (qpds_for PassesOwn.never rfl (qpit_enum (qpd_var 3) rfl T.z_enumerate) (qptg_tup rfl (qptgs_cons (qptg_name S_law_rows.nd rfl (Or.inl rfl)) (qptgs_cons (qptg_tup rfl (qptgs_cons (qptg_name S_law_rows.nd rfl (Or.inl rfl)) (qptgs_cons (qptg_name S_law_rows.nd rfl (Or.inl rfl)) (qptgs_cons (qptg_name S_law_rows.nd rfl (Or.inl rfl)) qptgs_nil)))) qptgs_nil))) (qpds_cons (qpds_set S_law_rows.nd rfl (Or.inl rfl) (qpd_new (qpn_lst (qpas_cons (qpd_ix (qpd_new (qpn_lst (qpas_cons qpd_str (qpas_cons qpd_str qpas_nil)))) (qpd_callTy c_int rfl T.z_int PyProof.Rows.boot_int (qpas_cons (qpd_var 10) qpas_nil)) (fun _ _ => rfl)) (qpas_cons (qpd_ix (qpd_var 1) (qpd_var 7) (fun _ _ => rfl)) (qpas_cons (qpd_var 8) qpas_nil)))))) (qpds_one (qpds_app rfl (Or.inl rfl) (qpd_join qpd_str (qpas_cons (qpd_op o_add (qpd_var 11) (qpd_new (qpn_comp rfl (CScope.of (own := [(Str.ofString "wire")]) (kp := [5]) (kn := [(Str.ofString "words")]) (sc := sc_law_rows.1) (N := N_law_rows) rfl rfl (by decide +kernel)) (qpit_seq (qpd_var 9)) (fun _ _ _ => (qptg_name (show List.Nodup [(Str.ofString "wire"), (Str.ofString "words")] from by decide +kernel) rfl (Or.inl rfl))) (fun _ _ _ => qpifs_yes) (fun _ _ _ => (qpd_ix (qpd_var 1) (qpd_var 0) (fun _ _ => rfl)))))) qpas_nil)))))) (qpds_cons (qpds_for PassesOwn.never rfl (qpit_seq (qpd_var 4)) (qptg_tup rfl (qptgs_cons (qptg_name S_law_rows.nd rfl (Or.inl rfl)) (qptgs_cons (qptg_name S_law_rows.nd rfl (Or.inl rfl)) qptgs_nil))) (qpds_one (qpds_app rfl (Or.inl rfl) (qpd_join qpd_str (qpas_cons (qpd_op o_add (qpd_new (qpn_lst (qpas_cons qpd_str (qpas_cons (qpd_var 12) qpas_nil)))) (qpd_new (qpn_comp rfl (CScope.of (own := [(Str.ofString "wire")]) (kp := [5]) (kn := [(Str.ofString "words")]) (sc := sc_law_rows.1) (N := N_law_rows) rfl rfl (by decide +kernel)) (qpit_seq (qpd_var 9)) (fun _ _ _ => (qptg_name (show List.Nodup [(Str.ofString "wire"), (Str.ofString "words")] from by decide +kernel) rfl (Or.inl rfl))) (fun _ _ _ => qpifs_yes) (fun _ _ _ => (qpd_ix (qpd_var 1) (qpd_var 0) (fun _ _ => rfl)))))) qpas_nil))))) (qpds_frz 6 (qpds_one (qpds_ret (qpd_var 6)))))))))), hm, F.kp, F.binds fun _ _ _ _ _ _ us hl => match us, hl with | [_, _], _ => rfl⟩
/-! ### law_gate_name -/
abbrev s_law_gate_name : Stmt := top 19
abbrev N_law_gate_name : List Str := [(Str.ofString "place"), (Str.ofString "barred"), (Str.ofString "letters"), (Str.ofString "found")]
def bd_law_gate_name : {b : List Stmt // defBody s_law_gate_name = b} := by
  have e : defBody s_law_gate_name = defBody s_law_gate_name := rfl
  conv at e => rhs; whnf
  exact ⟨_, e⟩
def sc_law_gate_name : {b : Scope // defScope s_law_gate_name = b} := by
  have e : defScope s_law_gate_name = defScope s_law_gate_name := rfl
  conv at e => rhs; whnf
  exact ⟨_, e⟩
theorem S_law_gate_name : FnScope N_law_gate_name [(Str.ofString "place"), (Str.ofString "barred")] sc_law_gate_name.1 := ⟨rfl, rfl, rfl, by decide +kernel, rfl, by decide +kernel, by decide +kernel⟩
def B_law_gate_name_0 : FS := (sSet 3 (e2 dAdd (eC (.str (Str.ofString "x"))) (eVar 3)))
def F_law_gate_name : FS := (sSeq (sSet 2 (eC (.str (Str.ofString "abcdefghijklmnopqrstuvwxyz")))) (sSeq (sSet 3 (e2 ixD (eVar 2) (e2 dMod (eVar 0) (eC (.int 26))))) (sSeq (sIf (b2 dGt (eVar 0) (eC (.int 25))) (sSet 3 (e2 dAdd (e2 ixD (eVar 2) (e2 dFdiv (eVar 0) (eC (.int 26)))) (eVar 3))) sNil) (sSeq (sWhile 1000 (b2 dIn (eVar 3) (eVar 1)) B_law_gate_name_0) (sRet (eVar 3))))))
def d_law_gate_name : List D → R D := fnD N_law_gate_name F_law_gate_name
theorem c_law_gate_name {P : Program} {w : World} {K : PySem.W.Frag} {mg : Str → Option Value} {base : Heap} (T : Tp K mg) (h : Def K mg (Str.ofString "_law_gate_name") s_law_gate_name)  : Callee P w K mg base 1 (Str.ofString "_law_gate_name") 2 d_law_gate_name := by
  obtain ⟨f, fd, F, hm⟩ := h
  exact ⟨f, fd, _, qfn_pureB (k := 0) bd_law_gate_name.2 sc_law_gate_name.2 F S_law_gate_name (fun cdv A outer s H E hr => (qpds_cons (qpds_set S_law_gate_name.nd rfl (Or.inl rfl) qpd_str) (qpds_cons (qpds_set S_law_gate_name.nd rfl (Or.inl rfl) (qpd_ix (qpd_var 2) (qpd_op o_mod (qpd_var 0) qpd_int) (fun _ _ => rfl))) (qpds_cons (qpds_if (qpb_cmp o_gt (qpd_var 0) qpd_int (nomark _)) (qpds_one (qpds_set S_law_gate_name.nd rfl (Or.inl rfl) (qpd_op o_add (qpd_ix (qpd_var 2) (qpd_op o_fdiv (qpd_var 0) qpd_int) (fun _ _ => rfl)) (qpd_var 3)))) qpds_nil) (qpds_cons (qpds_while 1000 PassesOwn.never (qpb_cmp o_in (qpd_var 3) (qpd_var 1) (by with_unfolding_all rfl)) (qpds_one (qpds_set S_law_gate_name.nd rfl (Or.inl rfl) (qpd_op o_add qpd_str (qpd_var 3))))) (qpds_one (qpds_ret (qpd_var 3)))))))), hm, F.kp, F.binds fun _ _ _ _ _ _ us hl => match us, hl with | [_, _], _ => rfl⟩
/-! ### law_strange_ins -/
abbrev s_law_strange_ins : Stmt := top 20
abbrev N_law_strange_ins : List Str := [(Str.ofString "cell"), (Str.ofString "ins"), (Str.ofString "number"), (Str.ofString "base"), (Str.ofString "found"), (Str.ofString "place"), (Str.ofString "name"), (Str.ofString "width"), (Str.ofString "other")]
def bd_law_strange_ins : {b : List Stmt // defBody s_law_strange_ins = b} := by
  have e : defBody s_law_strange_ins = defBody s_law_strange_ins := rfl
  conv at e => rhs; whnf
  exact ⟨_, e⟩
def sc_law_strange_ins : {b : Scope // defScope s_law_strange_ins = b} := by
  have e : defScope s_law_strange_ins = defScope s_law_strange_ins := rfl
  conv at e => rhs; whnf
  exact ⟨_, e⟩
theorem S_law_strange_ins : FnScope N_law_strange_ins [(Str.ofString "cell"), (Str.ofString "ins")] sc_law_strange_ins.1 := ⟨rfl, rfl, rfl, by decide +kernel, rfl, by decide +kernel, by decide +kernel⟩
def B_law_strange_ins_0 : FS := (sSeq (sSet 8 (e2 ixD (eNew (nLst (aCons (eVar 6) (aCons (e2 dAdd (e2 dMul (eC (.str (Str.ofString "x"))) (eVar 5)) (eVar 3)) (aCons (e2 ixD (eC (.str (Str.ofString "abcxyz"))) (eVar 5)) (aCons (e2 ixD (eNew (nLst (aCons (eC (.str (Str.ofString "xa"))) (aCons (eC (.str (Str.ofString "xxa"))) (aCons (eC (.str (Str.ofString "xb"))) (aCons (eC (.str (Str.ofString "a"))) (aCons (eC (.str (Str.ofString "xx"))) (aCons (eC (.str (Str.ofString "x"))) aNil)))))))) (eVar 5)) aNil)))))) (e2 dMod (eVar 2) (eC (.int 4))))) (sApp 4 (eTup (aCons (eVar 8) (aCons (eVar 7) aNil)))))
def F_law_strange_ins : FS := (sSeq (sSet 2 (eCall d_law_stir (aCons (eVar 0) (aCons (eC (.int 500)) aNil)))) (sSeq (sSet 3 (e2 ixD (eNew (nLst (aCons (eC (.str (Str.ofString "a"))) (aCons (eC (.str (Str.ofString "b"))) (aCons (eC (.str (Str.ofString "x"))) (aCons (eC (.str (Str.ofString "ba"))) (aCons (eC (.str (Str.ofString "c"))) (aCons (eC (.str (Str.ofString "z"))) aNil)))))))) (e2 dMod (e2 dFdiv (eVar 2) (eC (.int 4))) (eC (.int 6))))) (sSeq (sBld 4 (nLst aNil)) (sSeq (sFor (itEnum (eVar 1)) (gTupD 2 (gConsD (gNameD 5) (gConsD (gTupD 2 (gConsD (gNameD 6) (gConsD (gNameD 7) gNilD))) gNilD))) B_law_strange_ins_0) (sFrz 4 (sRet (eVar 4)))))))
def d_law_strange_ins : List D → R D := fnD N_law_strange_ins F_law_strange_ins
theorem c_law_strange_ins {P : Program} {w : World} {K : PySem.W.Frag} {mg : Str → Option Value} {base : Heap} (T : Tp K mg) (h : Def K mg (Str.ofString "_law_strange_ins") s_law_strange_ins) (C_law_stir : Callee P w K mg base 1 (Str.ofString "_law_stir") 2 d_law_stir) : Callee P w K mg base 2 (Str.ofString "_law_strange_ins") 2 d_law_strange_ins := by
  obtain ⟨f, fd, F, hm⟩ := h
  exact ⟨f, fd, _, qfn_pureB (k := 1) bd_law_strange_ins.2 sc_law_strange_ins.2 F S_law_strange_ins (fun cdv A outer s H E hr => (qpds_cons (qpds_set S_law_strange_ins.nd rfl (Or.inl rfl) (qpd_callC C_law_stir hr (by decide) rfl (qpas_cons (qpd_var 0) (qpas_cons qpd_int qpas_nil)) (alen_cons (alen_cons alen_nil)))) (qpds_cons (qpds_set S_law_strange_ins.nd rfl (Or.inl rfl) (qpd_ix (qpd_new (qpn_lst (qpas_cons qpd_str (qpas_cons qpd_str (qpas_cons qpd_str (qpas_cons qpd_str (qpas_cons qpd_str (qpas_cons qpd_str qpas_nil)))))))) (qpd_op o_mod (qpd_op o_fdiv (qpd_var 2) qpd_int) qpd_int) (fun _ _ => rfl))) (qpds_cons (qpds_bld S_law_strange_ins.nd rfl (Or.inl rfl) (qpn_lst qpas_nil)) (qpds_cons (qpds_for PassesOwn.never rfl (qpit_enum (qpd_var 1) rfl T.z_enumerate) (qptg_tup rfl (qptgs_cons (qptg_name S_law_strange_ins.nd rfl (Or.inl rfl)) (qptgs_cons (qptg_tup rfl (qptgs_cons (qptg_name S_law_strange_ins.nd rfl (Or.inl rfl)) (qptgs_cons (qptg_name S_law_strange_ins.nd rfl (Or.inl rfl)) qptgs_nil))) qptgs_nil))) (qpds_cons (qpds_set S_law_strange_ins.nd rfl (Or.inl rfl) (qpd_ix (qpd_new (qpn_lst (qpas_cons (qpd_var 6) (qpas_cons (qpd_op o_add (qpd_op o_mul qpd_str (qpd_var 5)) (qpd_var 3)) (qpas_cons (qpd_ix qpd_str (qpd_var 5) (fun _ _ => rfl)) (qpas_cons (qpd_ix (qpd_new (qpn_lst (qpas_cons qpd_str (qpas_cons qpd_str (qpas_cons qpd_str (qpas_cons qpd_str (qpas_cons qpd_str (qpas_cons qpd_str qpas_nil)))))))) (qpd_var 5) (fun _ _ => rfl)) qpas_nil)))))) (qpd_op o_mod (qpd_var 2) qpd_int) (fun _ _ => rfl))) (qpds_one (qpds_app rfl (Or.inl rfl) (qpd_tup (qpas_cons (qpd_var 8) (qpas_cons (qpd_var 7) qpas_nil))))))) (qpds_frz 4 (qpds_one (qpds_ret (qpd_var 4))))))))), hm, F.kp, F.binds fun _ _ _ _ _ _ us hl => match us, hl with | [_, _], _ => rfl⟩
/-! ### law -/
abbrev s_law : Stmt := top 21
abbrev N_law : List Str := [(Str.ofString "script"), (Str.ofString "ins"), (Str.ofString "gates"), (Str.ofString "outs"), (Str.ofString "barred"), (Str.ofString "names"), (Str.ofString "due"), (Str.ofString "handed"), (Str.ofString "found")]
def bd_law : {b : List Stmt // defBody s_law = b} := by
  have e : defBody s_law = defBody s_law := rfl
  conv at e => rhs; whnf
  exact ⟨_, e⟩
def sc_law : {b : Scope // defScope s_law = b} := by
  have e : defScope s_law = defScope s_law := rfl
  conv at e => rhs; whnf
  exact ⟨_, e⟩
theorem S_law : FnScope N_law [(Str.ofString "script")] sc_law.1 := ⟨rfl, rfl, rfl, by decide +kernel, rfl, by decide +kernel, by decide +kernel⟩
def F_law : FS := (sSeq (sAsg (eCall d_law_net (aCons (eVar 0) aNil)) (gTupD 3 (gConsD (gNameD 1) (gConsD (gNameD 2) (gConsD (gNameD 3) gNilD))))) (sSeq (sSet 1 (eCall d_law_strange_ins (aCons (eCall d_law_cell_at (aCons (eVar 0) (aCons (eC (.int 0)) aNil))) (aCons (eVar 1) aNil)))) (sSeq (sSet 4 (eNew (nComp (itSeq (eVar 1)) (gTupD 2 (gConsD (gNameD 0) (gConsD (gNameD 1) gNilD))) cYes (eVar 0) [(Str.ofString "name"), (Str.ofString "width")] []))) (sSeq (sSet 5 (eNew (nComp (itRng1 (eCall cLen (aCons (eVar 2) aNil))) (gNameD 0) cYes (eCall d_law_gate_name (aCons (eVar 0) (aCons (eVar 1) aNil))) [(Str.ofString "place")] [4]))) (sSeq (sSet 6 (eMt "str" mJoin (eC (.str (Str.ofString "\n"))) (aCons (eCall d_law_rows (aCons (eTup (aCons (eVar 1) (aCons (eVar 2) (aCons (eVar 3) aNil)))) (aCons (eVar 5) aNil))) aNil))) (sSeq (sSet 7 (eTup (aCons (eCall cList (aCons (eVar 1) aNil)) (aCons (eCall cList (aCons (eVar 2) aNil)) (aCons (eCall cList (aCons (eVar 3) aNil)) aNil))))) (sSeq (sSet 8 (eCall d_shown (aCons (eVar 7) aNil))) (sRet (eAnd (eIsT "str" (eVar 8)) (eAnd (e2 dEq (eVar 8) (eVar 6)) (e2 dEq (eVar 7) (eTup (aCons (eVar 1) (aCons (eVar 2) (aCons (eVar 3) aNil)))))))))))))))
def d_law : List D → R D := fnD N_law F_law
theorem c_law {P : Program} {w : World} {K : PySem.W.Frag} {mg : Str → Option Value} {base : Heap} (T : Tp K mg) (h : Def K mg (Str.ofString "law") s_law) (C_law_net : Callee P w K mg base 4 (Str.ofString "_law_net") 1 d_law_net) (C_law_cell_at : Callee P w K mg base 1 (Str.ofString "_law_cell_at") 2 d_law_cell_at) (C_law_strange_ins : Callee P w K mg base 2 (Str.ofString "_law_strange_ins") 2 d_law_strange_ins) (C_law_gate_name : Callee P w K mg base 1 (Str.ofString "_law_gate_name") 2 d_law_gate_name) (C_law_rows : Callee P w K mg base 2 (Str.ofString "_law_rows") 2 d_law_rows) (C_shown : Callee P w K mg base 3 (Str.ofString "shown") 1 d_shown) : Callee P w K mg base 5 (Str.ofString "law") 1 d_law := by
  obtain ⟨f, fd, F, hm⟩ := h
  exact ⟨f, fd, _, qfn_pureB (k := 4) bd_law.2 sc_law.2 F S_law (fun cdv A outer s H E hr => (qpds_cons (qpds_asg (qpd_callC C_law_net hr (by decide) rfl (qpas_cons (qpd_var 0) qpas_nil) (alen_cons alen_nil)) (qptg_tup rfl (qptgs_cons (qptg_name S_law.nd rfl (Or.inl rfl)) (qptgs_cons (qptg_name S_law.nd rfl (Or.inl rfl)) (qptgs_cons (qptg_name S_law.nd rfl (Or.inl rfl)) qptgs_nil))))) (qpds_cons (qpds_set S_law.nd rfl (Or.inl rfl) (qpd_callC C_law_strange_ins hr (by decide) rfl (qpas_cons (qpd_callC C_law_cell_at hr (by decide) rfl (qpas_cons (qpd_var 0) (qpas_cons qpd_int qpas_nil)) (alen_cons (alen_cons alen_nil))) (qpas_cons (qpd_var 1) qpas_nil)) (alen_cons (alen_cons alen_nil)))) (qpds_cons (qpds_set S_law.nd rfl (Or.inr rfl) (qpd_new (qpn_comp rfl (CScope.of (own := [(Str.ofString "name"), (Str.ofString "width")]) (kp := []) (kn := []) (sc := sc_law.1) (N := N_law) rfl rfl (by decide +kernel)) (qpit_seq (qpd_var 1)) (fun _ _ _ => (qptg_tup rfl (qptgs_cons (qptg_name (show List.Nodup [(Str.ofString "name"), (Str.ofString "width")] from by decide +kernel) rfl (Or.inl rfl)) (qptgs_cons (qptg_name (show List.Nodup [(Str.ofString "name"), (Str.ofString "width")] from by decide +kernel) rfl (Or.inl rfl)) qptgs_nil)))) (fun _ _ _ => qpifs_yes) (fun _ _ _ => (qpd_var 0))))) (qpds_cons (qpds_setComp rfl S_law.nd rfl rfl (CScope.of (own := [(Str.ofString "place")]) (kp := [4]) (kn := [(Str.ofString "barred")]) (sc := sc_law.1) (N := N_law) rfl rfl (by decide +kernel)) (qpit_range1 (qpd_callB c_len rfl T.z_len PySem.boot_len (qpas_cons (qpd_var 2) qpas_nil)) rfl T.z_range) (fun _ _ _ => (qptg_name (show List.Nodup [(Str.ofString "place"), (Str.ofString "barred")] from by decide +kernel) rfl (Or.inl rfl))) (fun _ _ _ => qpifs_yes) (fun _ _ _ => (qpd_callC C_law_gate_name hr (by decide) rfl (qpas_cons (qpd_var 0) (qpas_cons (qpd_var 1) qpas_nil)) (alen_cons (alen_cons alen_nil))))) (qpds_cons (qpds_set S_law.nd rfl (Or.inl rfl) (qpd_join qpd_str (qpas_cons (qpd_callC C_law_rows hr (by decide) rfl (qpas_cons (qpd_tup (qpas_cons (qpd_var 1) (qpas_cons (qpd_var 2) (qpas_cons (qpd_var 3) qpas_nil)))) (qpas_cons (qpd_var 5) qpas_nil)) (alen_cons (alen_cons alen_nil))) qpas_nil))) (qpds_cons (qpds_set S_law.nd rfl (Or.inl rfl) (qpd_tup (qpas_cons (qpd_callTy c_list rfl T.z_list PyProof.Rows.boot_list (qpas_cons (qpd_var 1) qpas_nil)) (qpas_cons (qpd_callTy c_list rfl T.z_list PyProof.Rows.boot_list (qpas_cons (qpd_var 2) qpas_nil)) (qpas_cons (qpd_callTy c_list rfl T.z_list PyProof.Rows.boot_list (qpas_cons (qpd_var 3) qpas_nil)) qpas_nil))))) (qpds_cons (qpds_set S_law.nd rfl (Or.inl rfl) (qpd_callC C_shown hr (by decide) rfl (qpas_cons (qpd_var 7) qpas_nil) (alen_cons alen_nil))) (qpds_one (qpds_ret (qpd_and (qpd_isT (qpd_var 8) rfl T.z_isinstance rfl T.z_str PyProof.Rows.boot_str) (qpd_and (qpd_cmp (o_eq hr.units) (qpd_var 8) (qpd_var 6) (nomark _)) (qpd_one (qpd_cmp (o_eq hr.units) (qpd_var 7) (qpd_tup (qpas_cons (qpd_var 1) (qpas_cons (qpd_var 2) (qpas_cons (qpd_var 3) qpas_nil)))) (nomark _))))))))))))))), hm, F.kp, F.binds fun _ _ _ _ _ _ us hl => match us, hl with | [_], _ => rfl⟩
/-! ### the law -/
theorem law_ok {P : Program} {w : World} {K : PySem.W.Frag} {mg : Str → Option Value} {base : Heap} {f : Addr} {fd : FuncData} (T : Tp K mg) (D_in_wires : Def K mg (Str.ofString "in_wires") s_in_wires) (D_letters_of : Def K mg (Str.ofString "letters_of") s_letters_of) (D_gate_name : Def K mg (Str.ofString "gate_name") s_gate_name) (D_gate_row : Def K mg (Str.ofString "gate_row") s_gate_row) (D_out_row : Def K mg (Str.ofString "out_row") s_out_row) (D_shown : Def K mg (Str.ofString "shown") s_shown) (D_law_cell_at : Def K mg (Str.ofString "_law_cell_at") s_law_cell_at) (D_law_stir : Def K mg (Str.ofString "_law_stir") s_law_stir) (D_law_names : Def K mg (Str.ofString "_law_names") s_law_names) (D_law_wires : Def K mg (Str.ofString "_law_wires") s_law_wires) (D_law_gate : Def K mg (Str.ofString "_law_gate") s_law_gate) (D_law_net : Def K mg (Str.ofString "_law_net") s_law_net) (D_law_words : Def K mg (Str.ofString "_law_words") s_law_words) (D_law_rows : Def K mg (Str.ofString "_law_rows") s_law_rows) (D_law_gate_name : Def K mg (Str.ofString "_law_gate_name") s_law_gate_name) (D_law_strange_ins : Def K mg (Str.ofString "_law_strange_ins") s_law_strange_ins) (F : Fun K (Str.ofString "law") (Str.ofString "law") s_law f fd) : FnOk P w K mg base CX0 5 f fd [Str.ofString "script"] (spD K 1 d_law) := by
  have C_in_wires : Callee P w K mg base 1 (Str.ofString "in_wires") 2 d_in_wires := c_in_wires T D_in_wires 
  have C_letters_of : Callee P w K mg base 1 (Str.ofString "letters_of") 1 d_letters_of := c_letters_of T D_letters_of 
  have C_gate_name : Callee P w K mg base 2 (Str.ofString "gate_name") 2 d_gate_name := c_gate_name T D_gate_name C_letters_of
  have C_gate_row : Callee P w K mg base 1 (Str.ofString "gate_row") 3 d_gate_row := c_gate_row T D_gate_row 
  have C_out_row : Callee P w K mg base 1 (Str.ofString "out_row") 2 d_out_row := c_out_row T D_out_row 
  have C_shown : Callee P w K mg base 3 (Str.ofString "shown") 1 d_shown := c_shown T D_shown C_in_wires C_gate_name C_gate_row C_out_row
  have C_law_cell_at : Callee P w K mg base 1 (Str.ofString "_law_cell_at") 2 d_law_cell_at := c_law_cell_at T D_law_cell_at 
  have C_law_stir : Callee P w K mg base 1 (Str.ofString "_law_stir") 2 d_law_stir := c_law_stir T D_law_stir 
  have C_law_names : Callee P w K mg base 2 (Str.ofString "_law_names") 3 d_law_names := c_law_names T D_law_names C_law_stir
  have C_law_wires : Callee P w K mg base 2 (Str.ofString "_law_wires") 4 d_law_wires := c_law_wires T D_law_wires C_law_stir
  have C_law_gate : Callee P w K mg base 3 (Str.ofString "_law_gate") 2 d_law_gate := c_law_gate T D_law_gate C_law_stir C_law_wires
  have C_law_net : Callee P w K mg base 4 (Str.ofString "_law_net") 1 d_law_net := c_law_net T D_law_net C_law_cell_at C_law_names C_law_stir C_law_gate C_law_wires
  have C_law_words : Callee P w K mg base 1 (Str.ofString "_law_words") 2 d_law_words := c_law_words T D_law_words 
  have C_law_rows : Callee P w K mg base 2 (Str.ofString "_law_rows") 2 d_law_rows := c_law_rows T D_law_rows C_law_words
  have C_law_gate_name : Callee P w K mg base 1 (Str.ofString "_law_gate_name") 2 d_law_gate_name := c_law_gate_name T D_law_gate_name 
  have C_law_strange_ins : Callee P w K mg base 2 (Str.ofString "_law_strange_ins") 2 d_law_strange_ins := c_law_strange_ins T D_law_strange_ins C_law_stir
  exact qfn_pureB (k := 4) bd_law.2 sc_law.2 F S_law (fun cdv A outer s H E hr => (qpds_cons (qpds_asg (qpd_callC C_law_net hr (by decide) rfl (qpas_cons (qpd_var 0) qpas_nil) (alen_cons alen_nil)) (qptg_tup rfl (qptgs_cons (qptg_name S_law.nd rfl (Or.inl rfl)) (qptgs_cons (qptg_name S_law.nd rfl (Or.inl rfl)) (qptgs_cons (qptg_name S_law.nd rfl (Or.inl rfl)) qptgs_nil))))) (qpds_cons (qpds_set S_law.nd rfl (Or.inl rfl) (qpd_callC C_law_strange_ins hr (by decide) rfl (qpas_cons (qpd_callC C_law_cell_at hr (by decide) rfl (qpas_cons (qpd_var 0) (qpas_cons qpd_int qpas_nil)) (alen_cons (alen_cons alen_nil))) (qpas_cons (qpd_var 1) qpas_nil)) (alen_cons (alen_cons alen_nil)))) (qpds_cons (qpds_set S_law.nd rfl (Or.inr rfl) (qpd_new (qpn_comp rfl (CScope.of (own := [(Str.ofString "name"), (Str.ofString "width")]) (kp := []) (kn := []) (sc := sc_law.1) (N := N_law) rfl rfl (by decide +kernel)) (qpit_seq (qpd_var 1)) (fun _ _ _ => (qptg_tup rfl (qptgs_cons (qptg_name (show List.Nodup [(Str.ofString "name"), (Str.ofString "width")] from by decide +kernel) rfl (Or.inl rfl)) (qptgs_cons (qptg_name (show List.Nodup [(Str.ofString "name"), (Str.ofString "width")] from by decide +kernel) rfl (Or.inl rfl)) qptgs_nil)))) (fun _ _ _ => qpifs_yes) (fun _ _ _ => (qpd_var 0))))) (qpds_cons (qpds_setComp rfl S_law.nd rfl rfl (CScope.of (own := [(Str.ofString "place")]) (kp := [4]) (kn := [(Str.ofString "barred")]) (sc := sc_law.1) (N := N_law) rfl rfl (by decide +kernel)) (qpit_range1 (qpd_callB c_len rfl T.z_len PySem.boot_len (qpas_cons (qpd_var 2) qpas_nil)) rfl T.z_range) (fun _ _ _ => (qptg_name (show List.Nodup [(Str.ofString "place"), (Str.ofString "barred")] from by decide +kernel) rfl (Or.inl rfl))) (fun _ _ _ => qpifs_yes) (fun _ _ _ => (qpd_callC C_law_gate_name hr (by decide) rfl (qpas_cons (qpd_var 0) (qpas_cons (qpd_var 1) qpas_nil)) (alen_cons (alen_cons alen_nil))))) (qpds_cons (qpds_set S_law.nd rfl (Or.inl rfl) (qpd_join qpd_str (qpas_cons (qpd_callC C_law_rows hr (by decide) rfl (qpas_cons (qpd_tup (qpas_cons (qpd_var 1) (qpas_cons (qpd_var 2) (qpas_cons (qpd_var 3) qpas_nil)))) (qpas_cons (qpd_var 5) qpas_nil)) (alen_cons (alen_cons alen_nil))) qpas_nil))) (qpds_cons (qpds_set S_law.nd rfl (Or.inl rfl) (qpd_tup (qpas_cons (qpd_callTy c_list rfl T.z_list PyProof.Rows.boot_list (qpas_cons (qpd_var 1) qpas_nil)) (qpas_cons (qpd_callTy c_list rfl T.z_list PyProof.Rows.boot_list (qpas_cons (qpd_var 2) qpas_nil)) (qpas_cons (qpd_callTy c_list rfl T.z_list PyProof.Rows.boot_list (qpas_cons (qpd_var 3) qpas_nil)) qpas_nil))))) (qpds_cons (qpds_set S_law.nd rfl (Or.inl rfl) (qpd_callC C_shown hr (by decide) rfl (qpas_cons (qpd_var 7) qpas_nil) (alen_cons alen_nil))) (qpds_one (qpds_ret (qpd_and (qpd_isT (qpd_var 8) rfl T.z_isinstance rfl T.z_str PyProof.Rows.boot_str) (qpd_and (qpd_cmp (o_eq hr.units) (qpd_var 8) (qpd_var 6) (nomark _)) (qpd_one (qpd_cmp (o_eq hr.units) (qpd_var 7) (qpd_tup (qpas_cons (qpd_var 1) (qpas_cons (qpd_var 2) (qpas_cons (qpd_var 3) qpas_nil)))) (nomark _)))))))))))))))
end K6

end
section
set_option maxRecDepth 100000
set_option maxHeartbeats 4000000
namespace K6
open PySem PySem.Spec PyProof.Rows L2
def stir (cell k : Int) : Int := if 10 ^ 18 ≤ cell then (cell - 10 ^ 18) / 2 ^ (28 * k).toNat % 2 ^ 28
  else ((cell + 1013 * k + 1) * 16807 % 2147483647) * ((cell + 1013 * k + 1) * 16807 % 2147483647) % 2147483629 * 39373 % 2147483587 / 8
theorem stir_ok (cell k : Int) (hk : 0 ≤ k) : d_law_stir [.int cell, .int k] = .ok (.int (stir cell k)) := by
  unfold d_law_stir F_law_stir stir
  by_cases h : (10 : Int) ^ 18 ≤ cell
  · rw [if_pos h]
    simp (implicitDefEqProofs := false) (disch := first | omega | decide) only [fnD, dStart, sSeq, sSet, sBld, sApp, sExtV, sExt, sFrz, sRet, sIf, sNil, sAsg, eVar, eC, e2, eNew, eThaw, eCall, eTup, eIf, eSl, eMt, eJoined, eFmt, eAnd, eIsT, asB, b2, bThaw, bAnd, bOr, bNot, bTru, nLst, aNil, aCons, jNil, jCons, oNone, oSome, dAdd, dSub, dFdiv, dMod, dPow, dShr, dLt, dLe, dGt, dGe, dII0, dII, dIB, dMul, dEq, dNe, dIn, dNotIn, cInt, cStr, cMin, cTuple, cList, cLen, fmtD, truD, gNameD, gTupD, gConsD, gNilD, bldAt, frz, thaw, D.atom, tyName, R.ok_bind, R.when_true, List.map_cons, List.map_nil, List.map_append, List.set_cons_zero, List.set_cons_succ, List.getElem?_cons_zero, List.getElem?_cons_succ, List.length_cons, List.length_nil, List.nil_append, List.cons_append, List.append_nil, List.length_map, List.length_append, List.replicate, Nat.reduceAdd, Nat.reduceSub, Nat.zero_add, decide_true, decide_false, Nat.lt_add_one, Nat.reduceLT, Nat.reduceLeDiff, Nat.reduceEqDiff, if_true, if_false, Bool.false_eq_true, ite_true, ite_false, Bool.true_or, Bool.or_true, Bool.true_and, Bool.and_true, beq_self_eq_true, when_of, decide_eq_true_eq, Int.reduceToNat, N_law_stir, h]
    done
  · rw [if_neg h]
    simp (implicitDefEqProofs := false) (disch := first | omega | decide) only [fnD, dStart, sSeq, sSet, sBld, sApp, sExtV, sExt, sFrz, sRet, sIf, sNil, sAsg, eVar, eC, e2, eNew, eThaw, eCall, eTup, eIf, eSl, eMt, eJoined, eFmt, eAnd, eIsT, asB, b2, bThaw, bAnd, bOr, bNot, bTru, nLst, aNil, aCons, jNil, jCons, oNone, oSome, dAdd, dSub, dFdiv, dMod, dPow, dShr, dLt, dLe, dGt, dGe, dII0, dII, dIB, dMul, dEq, dNe, dIn, dNotIn, cInt, cStr, cMin, cTuple, cList, cLen, fmtD, truD, gNameD, gTupD, gConsD, gNilD, bldAt, frz, thaw, D.atom, tyName, R.ok_bind, R.when_true, List.map_cons, List.map_nil, List.map_append, List.set_cons_zero, List.set_cons_succ, List.getElem?_cons_zero, List.getElem?_cons_succ, List.length_cons, List.length_nil, List.nil_append, List.cons_append, List.append_nil, List.length_map, List.length_append, List.replicate, Nat.reduceAdd, Nat.reduceSub, Nat.zero_add, decide_true, decide_false, Nat.lt_add_one, Nat.reduceLT, Nat.reduceLeDiff, Nat.reduceEqDiff, if_true, if_false, Bool.false_eq_true, ite_true, ite_false, Bool.true_or, Bool.or_true, Bool.true_and, Bool.and_true, beq_self_eq_true, when_of, decide_eq_true_eq, Int.reduceToNat, N_law_stir, h]
    done
theorem stir_lo (cell k : Int) : 0 ≤ stir cell k := by
  unfold stir
  split <;> omega
theorem stir_hi (cell k : Int) : stir cell k < 268435456 := by
  unfold stir
  split <;> omega
theorem cell_at_ok (ns : List Int) : d_law_cell_at [.lst (ns.map .int), .int 0] = .ok (.int (ns.headD 0)) := by
  unfold d_law_cell_at F_law_cell_at
  cases ns with
  | nil => rfl
  | cons n ns =>
    have q1 : ixD (.lst (D.int n :: ns.map .int)) (.int 0) = .ok (.int n) := ixL_of (atI_nat (j := 0) rfl)
    have q2 : ((0 : Int) < ((ns.length + 1 : Nat) : Int)) = True := eq_true (by omega)
    simp (implicitDefEqProofs := false) (disch := first | omega | decide) only [fnD, dStart, sSeq, sSet, sBld, sApp, sExtV, sExt, sFrz, sRet, sIf, sNil, sAsg, eVar, eC, e2, eNew, eThaw, eCall, eTup, eIf, eSl, eMt, eJoined, eFmt, eAnd, eIsT, asB, b2, bThaw, bAnd, bOr, bNot, bTru, nLst, aNil, aCons, jNil, jCons, oNone, oSome, dAdd, dSub, dFdiv, dMod, dPow, dShr, dLt, dLe, dGt, dGe, dII0, dII, dIB, dMul, dEq, dNe, dIn, dNotIn, cInt, cStr, cMin, cTuple, cList, cLen, fmtD, truD, gNameD, gTupD, gConsD, gNilD, bldAt, frz, thaw, D.atom, tyName, R.ok_bind, R.when_true, List.map_cons, List.map_nil, List.map_append, List.set_cons_zero, List.set_cons_succ, List.getElem?_cons_zero, List.getElem?_cons_succ, List.length_cons, List.length_nil, List.nil_append, List.cons_append, List.append_nil, List.length_map, List.length_append, List.replicate, Nat.reduceAdd, Nat.reduceSub, Nat.zero_add, decide_true, decide_false, Nat.lt_add_one, Nat.reduceLT, Nat.reduceLeDiff, Nat.reduceEqDiff, if_true, if_false, Bool.false_eq_true, ite_true, ite_false, Bool.true_or, Bool.or_true, Bool.true_and, Bool.and_true, beq_self_eq_true, when_of, decide_eq_true_eq, Int.reduceToNat, N_law_cell_at, q1, q2]
    rfl
/-! wires -/
def wireAt (cell k count : Int) (j : Nat) : Int := if stir cell (k + j) % 4 > 0 then count - 1 - stir cell (k + j) / 4 % (if 6 < count then 6 else count) else stir cell (k + j) / 4 % count
def wiresOf (cell k count : Int) (m : Nat) : List Int := (List.range m).map (wireAt cell k count)
theorem wireAt_lo (cell k count : Int) (j : Nat) (hc : 0 < count) : 0 ≤ wireAt cell k count j ∧ wireAt cell k count j < count := by
  unfold wireAt
  have h1 := Int.emod_nonneg (stir cell (k + j) / 4) (show (if 6 < count then 6 else count) ≠ 0 by split <;> omega)
  have h2 := Int.emod_lt_of_pos (stir cell (k + j) / 4) (show 0 < (if 6 < count then 6 else count) by split <;> omega)
  have h3 := Int.emod_nonneg (stir cell (k + j) / 4) (show count ≠ 0 by omega)
  have h4 := Int.emod_lt_of_pos (stir cell (k + j) / 4) hc
  split
  · split at h1 <;> split at h2 <;> split <;> omega
  · omega
theorem wires_step (cell k count : Int) (m i : Nat) (hk : 0 ≤ k) (hc : 0 < count) (hi : i < 100) (a b : Sl) : ((gNameD 5 (.int (0 + i)) [.val (.int cell), .val (.int k), .val (.int m), .val (.int count), .bld ((wiresOf cell k count i).map .int), a, b]).bind B_law_wires_0) =
    .ok (.nx [.val (.int cell), .val (.int k), .val (.int m), .val (.int count), .bld ((wiresOf cell k count (i + 1)).map .int), .val (.int (0 + i)), .val (.int (stir cell (k + i)))]) := by
  have hs := stir_ok cell (k + (0 + (i : Int))) (by omega)
  have hz : sizeLine = 16777216 := sizeLine_eq
  have hw : wiresOf cell k count (i + 1) = wiresOf cell k count i ++ [wireAt cell k count i] := by unfold wiresOf; rw [List.range_succ, List.map_append]; rfl
  have hlen : (wiresOf cell k count i).length = i := by unfold wiresOf; simp
  have q0 : (0 : Int) < (if 6 < count then 6 else count) := by split <;> omega
  have e0 : k + (0 + (i : Int)) = k + i := by omega
  rw [hw]
  unfold B_law_wires_0
  rw [e0] at hs
  by_cases h : stir cell (k + i) % 4 > 0
  · have hx : ∀ x y : D, ixD (.lst [x, y]) (.int 1) = .ok y := fun x y => ixL_of (atI_nat (j := 1) rfl)
    have wv : wireAt cell k count i = count - 1 - stir cell (k + i) / 4 % (if 6 < count then 6 else count) := by unfold wireAt; rw [if_pos h]
    rw [wv]
    simp (implicitDefEqProofs := false) (disch := first | omega | decide) only [fnD, dStart, sSeq, sSet, sBld, sApp, sExtV, sExt, sFrz, sRet, sIf, sNil, sAsg, eVar, eC, e2, eNew, eThaw, eCall, eTup, eIf, eSl, eMt, eJoined, eFmt, eAnd, eIsT, asB, b2, bThaw, bAnd, bOr, bNot, bTru, nLst, aNil, aCons, jNil, jCons, oNone, oSome, dAdd, dSub, dFdiv, dMod, dPow, dShr, dLt, dLe, dGt, dGe, dII0, dII, dIB, dMul, dEq, dNe, dIn, dNotIn, cInt, cStr, cMin, cTuple, cList, cLen, fmtD, truD, gNameD, gTupD, gConsD, gNilD, bldAt, frz, thaw, D.atom, tyName, R.ok_bind, R.when_true, List.map_cons, List.map_nil, List.map_append, List.set_cons_zero, List.set_cons_succ, List.getElem?_cons_zero, List.getElem?_cons_succ, List.length_cons, List.length_nil, List.nil_append, List.cons_append, List.append_nil, List.length_map, List.length_append, List.replicate, Nat.reduceAdd, Nat.reduceSub, Nat.zero_add, decide_true, decide_false, Nat.lt_add_one, Nat.reduceLT, Nat.reduceLeDiff, Nat.reduceEqDiff, if_true, if_false, Bool.false_eq_true, ite_true, ite_false, Bool.true_or, Bool.or_true, Bool.true_and, Bool.and_true, beq_self_eq_true, when_of, decide_eq_true_eq, Int.reduceToNat, e0, hs, h, hx, q0, hlen]
    done
  · have hx : ∀ x y : D, ixD (.lst [x, y]) (.int 0) = .ok x := fun x y => ixL_of (atI_nat (j := 0) rfl)
    have wv : wireAt cell k count i = stir cell (k + i) / 4 % count := by unfold wireAt; rw [if_neg h]
    rw [wv]
    simp (implicitDefEqProofs := false) (disch := first | omega | decide) only [fnD, dStart, sSeq, sSet, sBld, sApp, sExtV, sExt, sFrz, sRet, sIf, sNil, sAsg, eVar, eC, e2, eNew, eThaw, eCall, eTup, eIf, eSl, eMt, eJoined, eFmt, eAnd, eIsT, asB, b2, bThaw, bAnd, bOr, bNot, bTru, nLst, aNil, aCons, jNil, jCons, oNone, oSome, dAdd, dSub, dFdiv, dMod, dPow, dShr, dLt, dLe, dGt, dGe, dII0, dII, dIB, dMul, dEq, dNe, dIn, dNotIn, cInt, cStr, cMin, cTuple, cList, cLen, fmtD, truD, gNameD, gTupD, gConsD, gNilD, bldAt, frz, thaw, D.atom, tyName, R.ok_bind, R.when_true, List.map_cons, List.map_nil, List.map_append, List.set_cons_zero, List.set_cons_succ, List.getElem?_cons_zero, List.getElem?_cons_succ, List.length_cons, List.length_nil, List.nil_append, List.cons_append, List.append_nil, List.length_map, List.length_append, List.replicate, Nat.reduceAdd, Nat.reduceSub, Nat.zero_add, decide_true, decide_false, Nat.lt_add_one, Nat.reduceLT, Nat.reduceLeDiff, Nat.reduceEqDiff, if_true, if_false, Bool.false_eq_true, ite_true, ite_false, Bool.true_or, Bool.or_true, Bool.true_and, Bool.and_true, beq_self_eq_true, when_of, decide_eq_true_eq, Int.reduceToNat, e0, hs, h, hx, q0, hlen]
    done
theorem rng_len (m : Nat) : (rngD 0 m).length = m := by unfold rngD; simp
theorem rng_get {m i : Nat} {d : D} (h : (rngD 0 m)[i]? = some d) : d = .int (0 + i) ∧ i < m := by
  unfold rngD at h
  rw [List.getElem?_map] at h
  cases e : (List.range m)[i]? with
  | none => rw [e] at h; cases h
  | some j =>
    rw [e] at h
    obtain ⟨hi, ej⟩ := List.getElem?_eq_some_iff.mp e
    rw [List.getElem_range] at ej
    subst ej
    rw [List.length_range] at hi
    exact ⟨(Option.some.inj h).symm, hi⟩
theorem wires_loop (cell k count : Int) (m : Nat) (hk : 0 ≤ k) (hc : 0 < count) (hm : m ≤ 3) : ∃ a b, loopD (gNameD 5) B_law_wires_0 (rngD 0 m) [.val (.int cell), .val (.int k), .val (.int m), .val (.int count), .bld [], .un, .un] =
    .ok (.nx [.val (.int cell), .val (.int k), .val (.int m), .val (.int count), .bld ((wiresOf cell k count m).map .int), a, b]) := by
  obtain ⟨δ', h1, a, b, hδ⟩ := loopD_inv (t := gNameD 5) (body := B_law_wires_0) (ds := rngD 0 m) (fun i δ => ∃ a b, δ = [.val (.int cell), .val (.int k), .val (.int m), .val (.int count), .bld ((wiresOf cell k count i).map .int), a, b])
    (δ := [.val (.int cell), .val (.int k), .val (.int m), .val (.int count), .bld [], .un, .un]) ⟨_, _, rfl⟩ (by
      rintro i d δ hd ⟨a, b, rfl⟩
      obtain ⟨rfl, hi⟩ := rng_get hd
      exact ⟨_, wires_step cell k count m i hk hc (by omega) a b, _, _, rfl⟩)
  rw [rng_len] at hδ
  exact ⟨a, b, by rw [h1, hδ]⟩
end K6

end
section
set_option maxRecDepth 100000
set_option maxHeartbeats 400000
namespace K6
open PySem PySem.Spec PyProof.Rows L2
theorem wires_ok (cell k count : Int) (m : Nat) (hk : 0 ≤ k) (hc : 0 < count) (hm : m ≤ 3) : d_law_wires [.int cell, .int k, .int m, .int count] = .ok (.tup ((wiresOf cell k count m).map .int)) := by
  have hz : sizeLine = 16777216 := sizeLine_eq
  obtain ⟨a, b, hl⟩ := wires_loop cell k count m hk hc hm
  unfold d_law_wires F_law_wires
  simp (implicitDefEqProofs := false) (disch := first | omega | decide) only [fnD, dStart, sSeq, sSet, sBld, sApp, sExtV, sExt, sFrz, sRet, sIf, sNil, sAsg, eVar, eC, e2, eNew, eThaw, eCall, eTup, eIf, eSl, eMt, eJoined, eFmt, eAnd, eIsT, asB, b2, bThaw, bAnd, bOr, bNot, bTru, nLst, aNil, aCons, jNil, jCons, oNone, oSome, dAdd, dSub, dFdiv, dMod, dPow, dShr, dLt, dLe, dGt, dGe, dII0, dII, dIB, dMul, dEq, dNe, dIn, dNotIn, cInt, cStr, cMin, cTuple, cList, cLen, fmtD, truD, gNameD, gTupD, gConsD, gNilD, bldAt, frz, thaw, D.atom, tyName, R.ok_bind, R.when_true, List.map_cons, List.map_nil, List.map_append, List.set_cons_zero, List.set_cons_succ, List.getElem?_cons_zero, List.getElem?_cons_succ, List.length_cons, List.length_nil, List.nil_append, List.cons_append, List.append_nil, List.length_map, List.length_append, List.replicate, Nat.reduceAdd, Nat.reduceSub, Nat.zero_add, decide_true, decide_false, Nat.lt_add_one, Nat.reduceLT, Nat.reduceLeDiff, Nat.reduceEqDiff, if_true, if_false, Bool.false_eq_true, ite_true, ite_false, Bool.true_or, Bool.or_true, Bool.true_and, Bool.and_true, beq_self_eq_true, when_of, decide_eq_true_eq, Int.reduceToNat, N_law_wires, sFor, itRng1, Int.toNat_natCast, hl]
  done
theorem wires_len (cell k count : Int) (m : Nat) : (wiresOf cell k count m).length = m := by unfold wiresOf; simp
theorem wires_in (cell k count : Int) (m : Nat) (hc : 0 < count) : ∀ x ∈ wiresOf cell k count m, 0 ≤ x ∧ x < count := by
  intro x hx
  unfold wiresOf at hx
  obtain ⟨j, _, rfl⟩ := List.mem_map.mp hx
  exact wireAt_lo cell k count j hc
/-! gates -/
structure Gt where
  kind : Str
  wires : List Int
  sure : Bool
def Gt.d (g : Gt) : D := .tup [.str g.kind, .tup (g.wires.map .int), .bl g.sure]
def kinds : List Str := [Str.ofString "and", Str.ofString "or", Str.ofString "xor", Str.ofString "vote", Str.ofString "not", Str.ofString "and", Str.ofString "xor", Str.ofString "vote"]
theorem gate_ok (cell count : Int) (hc : 0 < count) : ∃ g : Gt, d_law_gate [.int cell, .int count] = .ok g.d ∧ g.kind ∈ kinds ∧ g.wires.length ≤ 3 ∧ ∀ x ∈ g.wires, 0 ≤ x ∧ x < count := by
  have hz : sizeLine = 16777216 := sizeLine_eq
  have hs := stir_ok cell 0 (by omega)
  have hlo := stir_lo cell 0
  have h8 : ∃ j : Nat, j < 8 ∧ stir cell 0 % 8 = j := ⟨(stir cell 0 % 8).toNat, by omega, by omega⟩
  obtain ⟨j, hj, e8⟩ := h8
  have key : ∀ (w : Str) (m : Nat), m ≤ 3 → ixD (.lst (kinds.map .str)) (.int j) = .ok (.str w) → w ∈ kinds → (valV (mergeK [] [((Sum.inr (Str.ofString "not") : Key), V.int 1), ((Sum.inr (Str.ofString "vote") : Key), V.int 3)]) (Sum.inr w) = some (V.int m) ∨ (valV (mergeK [] [((Sum.inr (Str.ofString "not") : Key), V.int 1), ((Sum.inr (Str.ofString "vote") : Key), V.int 3)]) (Sum.inr w) = none ∧ m = 2)) →
      ∃ g : Gt, d_law_gate [.int cell, .int count] = .ok g.d ∧ g.kind ∈ kinds ∧ g.wires.length ≤ 3 ∧ ∀ x ∈ g.wires, 0 ≤ x ∧ x < count := by
    intro w m hm h1 hw h2
    have hwr := wires_ok cell 1 count m (by omega) hc hm
    unfold kinds at h1
    simp only [List.map_cons, List.map_nil] at h1
    refine ⟨⟨w, wiresOf cell 1 count m, decide (stir cell 0 / 8 % 4 = 0)⟩, ?_, hw, by rw [wires_len]; exact hm, wires_in cell 1 count m hc⟩
    unfold d_law_gate F_law_gate Gt.d
    rcases h2 with h2 | ⟨h2, rfl⟩
    · simp (implicitDefEqProofs := false) (disch := first | omega | decide) only [fnD, dStart, sSeq, sSet, sBld, sApp, sExtV, sExt, sFrz, sRet, sIf, sNil, sAsg, eVar, eC, e2, eNew, eThaw, eCall, eTup, eIf, eSl, eMt, eJoined, eFmt, eAnd, eIsT, asB, b2, bThaw, bAnd, bOr, bNot, bTru, nLst, aNil, aCons, jNil, jCons, oNone, oSome, dAdd, dSub, dFdiv, dMod, dPow, dShr, dLt, dLe, dGt, dGe, dII0, dII, dIB, dMul, dEq, dNe, dIn, dNotIn, cInt, cStr, cMin, cTuple, cList, cLen, fmtD, truD, gNameD, gTupD, gConsD, gNilD, bldAt, frz, thaw, D.atom, tyName, R.ok_bind, R.when_true, List.map_cons, List.map_nil, List.map_append, List.set_cons_zero, List.set_cons_succ, List.getElem?_cons_zero, List.getElem?_cons_succ, List.length_cons, List.length_nil, List.nil_append, List.cons_append, List.append_nil, List.length_map, List.length_append, List.replicate, Nat.reduceAdd, Nat.reduceSub, Nat.zero_add, decide_true, decide_false, Nat.lt_add_one, Nat.reduceLT, Nat.reduceLeDiff, Nat.reduceEqDiff, if_true, if_false, Bool.false_eq_true, ite_true, ite_false, Bool.true_or, Bool.or_true, Bool.true_and, Bool.and_true, beq_self_eq_true, when_of, decide_eq_true_eq, Int.reduceToNat, N_law_gate, hs, e8, h1, eGet, h2, hwr, eqD]
      done
    · have hwr : d_law_wires [.int cell, .int 1, .int 2, .int count] = .ok (.tup ((wiresOf cell 1 count 2).map .int)) := hwr
      simp (implicitDefEqProofs := false) (disch := first | omega | decide) only [fnD, dStart, sSeq, sSet, sBld, sApp, sExtV, sExt, sFrz, sRet, sIf, sNil, sAsg, eVar, eC, e2, eNew, eThaw, eCall, eTup, eIf, eSl, eMt, eJoined, eFmt, eAnd, eIsT, asB, b2, bThaw, bAnd, bOr, bNot, bTru, nLst, aNil, aCons, jNil, jCons, oNone, oSome, dAdd, dSub, dFdiv, dMod, dPow, dShr, dLt, dLe, dGt, dGe, dII0, dII, dIB, dMul, dEq, dNe, dIn, dNotIn, cInt, cStr, cMin, cTuple, cList, cLen, fmtD, truD, gNameD, gTupD, gConsD, gNilD, bldAt, frz, thaw, D.atom, tyName, R.ok_bind, R.when_true, List.map_cons, List.map_nil, List.map_append, List.set_cons_zero, List.set_cons_succ, List.getElem?_cons_zero, List.getElem?_cons_succ, List.length_cons, List.length_nil, List.nil_append, List.cons_append, List.append_nil, List.length_map, List.length_append, List.replicate, Nat.reduceAdd, Nat.reduceSub, Nat.zero_add, decide_true, decide_false, Nat.lt_add_one, Nat.reduceLT, Nat.reduceLeDiff, Nat.reduceEqDiff, if_true, if_false, Bool.false_eq_true, ite_true, ite_false, Bool.true_or, Bool.or_true, Bool.true_and, Bool.and_true, beq_self_eq_true, when_of, decide_eq_true_eq, Int.reduceToNat, N_law_gate, hs, e8, h1, eGet, h2, hwr, eqD]
      done
  match j, hj with
  | 0, _ => exact key (Str.ofString "and") 2 (by omega) (ixL_of (atI_nat (j := 0) rfl)) (by decide +kernel) (.inr ⟨by decide +kernel, rfl⟩)
  | 1, _ => exact key (Str.ofString "or") 2 (by omega) (ixL_of (atI_nat (j := 1) rfl)) (by decide +kernel) (.inr ⟨by decide +kernel, rfl⟩)
  | 2, _ => exact key (Str.ofString "xor") 2 (by omega) (ixL_of (atI_nat (j := 2) rfl)) (by decide +kernel) (.inr ⟨by decide +kernel, rfl⟩)
  | 3, _ => exact key (Str.ofString "vote") 3 (by omega) (ixL_of (atI_nat (j := 3) rfl)) (by decide +kernel) (.inl (by decide +kernel))
  | 4, _ => exact key (Str.ofString "not") 1 (by omega) (ixL_of (atI_nat (j := 4) rfl)) (by decide +kernel) (.inl (by decide +kernel))
  | 5, _ => exact key (Str.ofString "and") 2 (by omega) (ixL_of (atI_nat (j := 5) rfl)) (by decide +kernel) (.inr ⟨by decide +kernel, rfl⟩)
  | 6, _ => exact key (Str.ofString "xor") 2 (by omega) (ixL_of (atI_nat (j := 6) rfl)) (by decide +kernel) (.inr ⟨by decide +kernel, rfl⟩)
  | 7, _ => exact key (Str.ofString "vote") 3 (by omega) (ixL_of (atI_nat (j := 7) rfl)) (by decide +kernel) (.inl (by decide +kernel))
end K6

end
section
set_option maxRecDepth 100000
set_option maxHeartbeats 1000000
namespace K6
open PySem PySem.Spec PyProof.Rows L2
/-- a text of at most n signs, all of them plain -/
structure Gd (n : Nat) (s : Str) : Prop where
  len : s.length ≤ n
  low : ∀ c ∈ s.cps.toList, c < 128
theorem Gd.mono {n m : Nat} {s : Str} (h : Gd n s) (hm : n ≤ m) : Gd m s := ⟨Nat.le_trans h.len hm, h.low⟩
theorem Gd.app {n m : Nat} {a b : Str} (h : Gd n a) (h' : Gd m b) : Gd (n + m) (a ++ b) := ⟨by rw [Str.length_append]; have := h.len; have := h'.len; omega, fun c hc => by
  rw [str_app] at hc
  rcases List.mem_append.mp hc with z | z
  · exact h.low c z
  · exact h'.low c z⟩
theorem Gd.slice {n : Nat} {a : Str} (h : Gd n a) (lo hi : Option Int) : Gd n (Txt.slice a lo hi) := ⟨Nat.le_trans (Txt.slice_le a lo hi) h.len, fun c hc => by
  unfold Txt.slice at hc
  split at hc
  · exact h.low c hc
  · rw [List.toList_toArray, List.mem_filterMap] at hc
    obtain ⟨i, _, e⟩ := hc
    exact h.low c (by have := Array.mem_of_getElem? e; simpa using this)⟩
theorem Gd.ok {n : Nat} {s : Str} (h : Gd n s) : PyData.strOk s = true := by
  unfold PyData.strOk
  rw [Array.all_eq_true']
  intro c hc
  have := h.low c (by simpa using hc)
  simp; omega
abbrev LET : Str := Str.ofString "abcdefghijklmnopqrstuvwxyz"
abbrev BARS : List Str := [Str.ofString "in", Str.ofString "gate", Str.ofString "sure", Str.ofString "out", Str.ofString "not", Str.ofString "and", Str.ofString "or", Str.ofString "xor", Str.ofString "vote"]
def letAt (i : Int) : Str := ⟨#[97 + i.toNat]⟩
theorem LET_codes : LET.cps.toList = (List.range 26).map (97 + ·) := by decide +kernel
theorem LET_len : LET.length = 26 := by decide +kernel
theorem let_ix {i : Int} (h0 : 0 ≤ i) (h : i < 26) : ixD (.str LET) (.int i) = .ok (.str (letAt i)) := by
  have hz : sizeLine = 16777216 := sizeLine_eq
  refine ixS_of (by rw [LET_len]; omega) ?_
  rw [LET_codes]
  rw [atI_of h0 (by simp; omega)]
  simp
theorem let_gd {i : Int} (h0 : 0 ≤ i) (h : i < 26) : Gd 1 (letAt i) := ⟨by show 1 ≤ 1; omega, fun c hc => by
  have hc : c ∈ [97 + i.toNat] := hc
  rw [List.mem_singleton] at hc
  omega⟩
theorem mulx {r : Int} (h0 : 0 ≤ r) (h : r < 7) : Gd 6 (Txt.mul (Str.ofString "x") r) := by
  have : ∃ j : Nat, j < 7 ∧ r = j := ⟨r.toNat, by omega, by omega⟩
  obtain ⟨j, hj, rfl⟩ := this
  match j, hj with
  | 0, _ => exact ⟨by decide +kernel, by decide +kernel⟩
  | 1, _ => exact ⟨by decide +kernel, by decide +kernel⟩
  | 2, _ => exact ⟨by decide +kernel, by decide +kernel⟩
  | 3, _ => exact ⟨by decide +kernel, by decide +kernel⟩
  | 4, _ => exact ⟨by decide +kernel, by decide +kernel⟩
  | 5, _ => exact ⟨by decide +kernel, by decide +kernel⟩
  | 6, _ => exact ⟨by decide +kernel, by decide +kernel⟩
theorem join_ok {sep : Str} {ss : List Str} (h : (ss.map (·.length)).sum + ss.length * sep.length ≤ 16777216) : mJoin (.str sep) [.lst (ss.map .str)] = .ok (.str (Str.join sep ss)) := by
  unfold mJoin
  simp only [L2.strs_map]
  rw [joinOk_of h]
  rfl
theorem len_str : ∀ x : Str, x.length ≤ sizeLine → cLen [.str x] = .ok (.int x.length) := fun x h => by unfold cLen; exact when_of _ h
theorem eq_nil {ss : List Str} (h : ∀ s ∈ ss, ∃ n, Gd n s) : eqD (.lst (ss.map .str)) (.lst []) = .ok ss.isEmpty := by
  have hp : ∀ ss : List Str, plainDs (ss.map .str) = true := by
    intro ss
    induction ss with
    | nil => unfold plainDs; rfl
    | cons s ss ih => rw [List.map_cons]; unfold plainDs; rw [ih]; unfold plainD; rfl
  have ht : ∀ ss : List Str, toPys (ss.map .str) = ss.map PyData.str := by
    intro ss
    induction ss with
    | nil => unfold toPys; rfl
    | cons s ss ih => rw [List.map_cons, List.map_cons]; unfold toPys; rw [ih]; unfold toPy; rfl
  have hl : ∀ ss : List Str, (∀ s ∈ ss, ∃ n, Gd n s) → PyData.canLayAll0 (ss.map PyData.str) = true := by
    intro ss
    induction ss with
    | nil => intro _; rfl
    | cons s ss ih => intro h; rw [List.map_cons]; unfold PyData.canLayAll0; rw [ih fun t ht => h t (List.mem_cons_of_mem _ ht)]; obtain ⟨n, g⟩ := h s List.mem_cons_self; unfold PyData.canLay0; rw [g.ok]; rfl
  have hd : ∀ ss : List Str, PyData.depthAll (ss.map PyData.str) = 0 := by
    intro ss
    induction ss with
    | nil => rfl
    | cons s ss ih => rw [List.map_cons]; unfold PyData.depthAll; rw [ih]; rfl
  have hsh : SeqAt.shaped (toPy (.lst (ss.map .str))) = true := by
    unfold toPy SeqAt.shaped
    rw [ht]
    unfold PyData.canLay0 PyData.depth
    rw [hl ss h, hd]
    rfl
  have hpd : plainD (.lst (ss.map .str)) = true := by unfold plainD; exact hp ss
  have hne : eqD (.lst (ss.map .str)) (.lst []) = R.when (plainD (.lst (ss.map .str)) && plainD (.lst []) && SeqAt.shaped (toPy (.lst (ss.map .str))) && SeqAt.shaped (toPy (.lst []))) (.ok (PyData.eqv (toPy (.lst (ss.map .str))) (toPy (.lst [])))) := rfl
  rw [hne, hpd, hsh, show plainD (.lst []) = true from rfl, show SeqAt.shaped (toPy (.lst [])) = true from rfl]
  show R.ok _ = _
  unfold toPy
  rw [ht]
  cases ss with
  | nil => rfl
  | cons s ss => rfl
theorem join3 {a b c : Str} {n m k : Nat} (ha : Gd n a) (hb : Gd m b) (hc : Gd k c) : Gd (n + m + k) (Str.join (Str.ofString "") [a, b, c]) := by
  have he : Gd 0 (Str.ofString "") := ⟨by decide +kernel, by decide +kernel⟩
  have : Str.join (Str.ofString "") [a, b, c] = a ++ Str.ofString "" ++ (b ++ Str.ofString "" ++ c) := rfl
  rw [this]
  exact ((ha.app he).app ((hb.app he).app hc)).mono (by omega)
/-! the names' loop -/
def nEnv (head k : Int) (ss : List Str) (a b c d : Sl) : DEnv := [.val (.int head), .val (.int k), .val (.int 6), .val (.str LET), .val (.lst (BARS.map .str)), .bld (ss.map .str), a, b, c, d]
def nSpare : FS := (sSet 9 (eNew (nComp (itRng1 (eC (.int 80))) (gNameD 0) cYes (e2 dAdd (e2 dAdd (eC (.str (Str.ofString "zz"))) (e2 ixD (eVar 1) (e2 dFdiv (eVar 0) (eC (.int 26))))) (e2 ixD (eVar 1) (e2 dMod (eVar 0) (eC (.int 26))))) [(Str.ofString "n")] [3])))
def nPick : FS := (sSet 8 (eThaw (e2 ixD (eNew (nComp (itSeq (eVar 9)) (gNameD 0) (b2 dNotIn (eVar 0) (eVar 1)) (eVar 0) [(Str.ofString "one")] [5])) (eC (.int 0)))))
def nC2 : DEnv → R Bool := (bOr (b2 dEq (eVar 8) (eC (.str (Str.ofString "")))) (bOr (bThaw (b2 dIn (eVar 8) (eVar 5))) (b2 dIn (eVar 8) (eVar 4))))
def nT2 : FS := (sSeq (sIf nC2 (sSeq nSpare nPick) sNil) (sApp 5 (eVar 8)))
def nC1 : DEnv → R Bool := (bAnd (b2 dEq (e2 dMod (e2 dFdiv (eVar 7) (eC (.int 10000))) (eC (.int 4))) (eC (.int 0))) (bThaw (b2 dNe (eVar 5) (eNew (nLst aNil)))))
def nS1 : FS := (sSet 8 (eSl (e2 dAdd (eThaw (e2 ixD (eVar 5) (e2 dMod (e2 dFdiv (eVar 7) (eC (.int 40000))) (eCall cLen (aCons (eVar 5) aNil))))) (eVar 8)) oNone (oSome (eC (.int 8)))))
def nT1 : FS := (sSeq (sIf nC1 nS1 sNil) nT2)
def nT0 : FS := (sSeq (sSet 7 (eCall d_law_stir (aCons (eVar 0) (aCons (e2 dAdd (eVar 1) (eVar 6)) aNil)))) (sSeq (sSet 8 (eMt "str" mJoin (eC (.str (Str.ofString ""))) (aCons (eNew (nLst (aCons (e2 ixD (eVar 3) (e2 dMod (eVar 7) (eC (.int 26)))) (aCons (e2 ixD (eVar 3) (e2 dMod (e2 dFdiv (eVar 7) (eC (.int 26))) (eC (.int 26)))) (aCons (e2 dMul (eC (.str (Str.ofString "x"))) (e2 dMod (e2 dFdiv (eVar 7) (eC (.int 700))) (eC (.int 7)))) aNil))))) aNil))) (sSeq (sSet 8 (eSl (eVar 8) (oSome (e2 dMod (e2 dFdiv (eVar 7) (eC (.int 5000))) (eC (.int 2)))) oNone)) nT1)))
theorem nT0_eq : B_law_names_0 = nT0 := rfl
def spareL : List Str := (List.range 80).map fun n => ⟨#[122, 122, 97 + n / 26, 97 + n % 26]⟩
theorem spare_gd : ∀ s ∈ spareL, Gd 4 s := fun s hs => by
  unfold spareL at hs
  obtain ⟨n, hn, rfl⟩ := List.mem_map.mp hs
  rw [List.mem_range] at hn
  refine ⟨by show 4 ≤ 4; omega, fun c hc => ?_⟩
  have hc : c ∈ [122, 122, 97 + n / 26, 97 + n % 26] := hc
  simp only [List.mem_cons, List.not_mem_nil, or_false] at hc
  omega
theorem spare_nd : (spareL.take 7).Nodup := by decide +kernel
theorem spare_one (ss : List Str) (h : ss.length ≤ 6) : ∃ w, (spareL.filter fun s => !ss.contains s)[0]? = some w ∧ w ∈ spareL := by
  cases e : spareL.filter fun s => !ss.contains s with
  | cons w r => exact ⟨w, rfl, (List.mem_filter.mp (by rw [e]; exact List.mem_cons_self)).1⟩
  | nil =>
    exfalso
    have := pigeon (spareL.take 7) ss spare_nd (fun x hx => by
      have hx' : x ∈ spareL := List.mem_of_mem_take hx
      by_cases q : x ∈ ss
      · exact q
      · have : x ∈ spareL.filter fun s => !ss.contains s := List.mem_filter.mpr ⟨hx', by simp [q]⟩
        rw [e] at this
        cases this)
    have h7 : (spareL.take 7).length = 7 := by decide +kernel
    omega
theorem zz_str {n : Nat} (h : n < 80) : Str.ofString "zz" ++ letAt ((n : Int) / 26) ++ letAt ((n : Int) % 26) = (⟨#[122, 122, 97 + n / 26, 97 + n % 26]⟩ : Str) := by
  apply str_ext
  rw [str_app, str_app, show (Str.ofString "zz").cps.toList = [122, 122] by decide +kernel]
  unfold letAt
  have h1 : ((n : Int) / 26).toNat = n / 26 := by omega
  have h2 : ((n : Int) % 26).toNat = n % 26 := by omega
  rw [h1, h2]
  rfl
theorem spare_ok (head k : Int) (ss : List Str) (a b c d : Sl) : nSpare (nEnv head k ss a b c d) = .ok (.nx (nEnv head k ss a b c (.val (.lst (spareL.map .str))))) := by
  have hz : sizeLine = 16777216 := sizeLine_eq
  have hc : compL (gNameD 0) cYes (e2 dAdd (e2 dAdd (eC (.str (Str.ofString "zz"))) (e2 ixD (eVar 1) (e2 dFdiv (eVar 0) (eC (.int 26))))) (e2 ixD (eVar 1) (e2 dMod (eVar 0) (eC (.int 26))))) [.un, .val (.str LET)] (rngD 0 80) = .ok (spareL.map .str) := by
    have e0 : spareL.map D.str = (rngD 0 80).map (fun d => match d with | .int i => .str (⟨#[122, 122, 97 + i.toNat / 26, 97 + i.toNat % 26]⟩ : Str) | _ => .non) := by
      unfold spareL rngD
      rw [List.map_map, List.map_map]
      apply List.map_congr_left
      intro n _
      simp
    rw [e0]
    refine compL_map _ fun d hd => ?_
    unfold rngD at hd
    obtain ⟨n, hn, rfl⟩ := List.mem_map.mp hd
    rw [List.mem_range] at hn
    refine ⟨[.val (.int (0 + n)), .val (.str LET)], rfl, rfl, ?_⟩
    have i1 := let_ix (i := (n : Int) / 26) (by omega) (by omega)
    have i2 := let_ix (i := (n : Int) % 26) (by omega) (by omega)
    have l1 : (Str.ofString "zz").length = 2 := by decide +kernel
    have l2 : (letAt ((n : Int) / 26)).length = 1 := rfl
    have l3 : (letAt ((n : Int) % 26)).length = 1 := rfl
    have zs := zz_str hn
    simp (implicitDefEqProofs := false) (disch := first | omega | decide) only [fnD, dStart, sSeq, sSet, sBld, sApp, sExtV, sExt, sFrz, sRet, sIf, sNil, sAsg, eVar, eC, e2, eNew, eThaw, eCall, eTup, eIf, eSl, eMt, eJoined, eFmt, eAnd, eIsT, asB, b2, bThaw, bAnd, bOr, bNot, bTru, nLst, aNil, aCons, jNil, jCons, oNone, oSome, dAdd, dSub, dFdiv, dMod, dPow, dShr, dLt, dLe, dGt, dGe, dII0, dII, dIB, dMul, dEq, dNe, dIn, dNotIn, cInt, cStr, cMin, cTuple, cList, cLen, fmtD, truD, gNameD, gTupD, gConsD, gNilD, bldAt, frz, thaw, D.atom, tyName, R.ok_bind, R.when_true, List.map_cons, List.map_nil, List.map_append, List.set_cons_zero, List.set_cons_succ, List.getElem?_cons_zero, List.getElem?_cons_succ, List.length_cons, List.length_nil, List.nil_append, List.cons_append, List.append_nil, List.length_map, List.length_append, List.replicate, Nat.reduceAdd, Nat.reduceSub, Nat.zero_add, decide_true, decide_false, Nat.lt_add_one, Nat.reduceLT, Nat.reduceLeDiff, Nat.reduceEqDiff, if_true, if_false, Bool.false_eq_true, ite_true, ite_false, Bool.true_or, Bool.or_true, Bool.true_and, Bool.and_true, beq_self_eq_true, when_of, decide_eq_true_eq, Int.reduceToNat, Int.zero_add, i1, i2, l1, l2, l3, Str.length_append, zs, Int.toNat_natCast]
    done
  have hr : (rngD 0 80).length = 80 := rng_len 80
  exact sSet_ok (δ := nEnv head k ss a b c d) (eNew_ok (nComp_ok (ds := rngD 0 80) rfl (by rw [hr, hz]; omega) hc)) (by show 9 < 10; omega)
theorem pick_ok (head k : Int) (ss : List Str) (a b c : Sl) (h : ss.length ≤ 6) : ∃ w, Gd 4 w ∧ nPick (nEnv head k ss a b c (.val (.lst (spareL.map .str)))) = .ok (.nx (nEnv head k ss a b (.val (.str w)) (.val (.lst (spareL.map .str))))) := by
  have hz : sizeLine = 16777216 := sizeLine_eq
  obtain ⟨w, hw, hm⟩ := spare_one ss h
  refine ⟨w, spare_gd w hm, ?_⟩
  have hc : compL (gNameD 0) (b2 dNotIn (eVar 0) (eVar 1)) (eVar 0) [.un, .val (.lst (ss.map .str))] (spareL.map .str) = .ok ((spareL.filter fun s => !ss.contains s).map .str) := by
    have e0 : (spareL.filter fun s => !ss.contains s).map D.str = ((spareL.map D.str).filter (fun d => match d with | .str s => !ss.contains s | _ => false)).map (fun d => d) := by
      rw [List.map_id', List.filter_map]
      rfl
    rw [e0]
    refine compL_filter _ _ fun d hd => ?_
    obtain ⟨s, hs, rfl⟩ := List.mem_map.mp hd
    refine ⟨[.val (.str s), .val (.lst (ss.map .str))], rfl, ?_, rfl⟩
    have q : dNotIn (.str s) (.lst (ss.map .str)) = .ok (.bl (!ss.contains s)) := by unfold dNotIn inD; simp only [L2.strs_map]; rfl
    unfold b2 e2 eVar
    show ((dNotIn (.str s) (.lst (ss.map .str))).bind _) = _
    rw [q]
    rfl
  have hlen : (spareL.map D.str).length = 80 := by rw [List.length_map]; unfold spareL; simp
  have h1 : nComp (itSeq (eVar 9)) (gNameD 0) (b2 dNotIn (eVar 0) (eVar 1)) (eVar 0) [(Str.ofString "one")] [5] (thaw (nEnv head k ss a b c (.val (.lst (spareL.map .str))))) = .ok ((spareL.filter fun s => !ss.contains s).map .str) := by
    refine nComp_ok (ds := spareL.map .str) ?_ (by rw [hlen, hz]; omega) ?_
    · cases a <;> cases b <;> cases c <;> rfl
    · have : cEnv [(Str.ofString "one")] [5] (thaw (nEnv head k ss a b c (.val (.lst (spareL.map .str))))) = [.un, .val (.lst (ss.map .str))] := by cases a <;> cases b <;> cases c <;> rfl
      rw [this]
      exact hc
  have h2 : ixD (.lst ((spareL.filter fun s => !ss.contains s).map .str)) (.int 0) = .ok (.str w) := ixL_of (atI_nat (j := 0) (by rw [List.getElem?_map, hw]; rfl))
  refine sSet_ok (δ := nEnv head k ss a b c (.val (.lst (spareL.map .str)))) ?_ (by show 8 < 10; omega)
  unfold eThaw e2
  rw [eNew_ok h1, R.ok_bind]
  rw [show eC (.int 0) (thaw (nEnv head k ss a b c (.val (.lst (spareL.map .str))))) = .ok (.int 0) from rfl, R.ok_bind, h2]
  rfl
theorem app_ok (head k : Int) (ss : List Str) (a b d : Sl) (w : Str) (h : ss.length ≤ 6) : sApp 5 (eVar 8) (nEnv head k ss a b (.val (.str w)) d) = .ok (.nx (nEnv head k (ss ++ [w]) a b (.val (.str w)) d)) := by
  have hz : sizeLine = 16777216 := sizeLine_eq
  rw [sApp_ok (d := .str w) (ds := ss.map .str) rfl rfl (by rw [List.length_map, hz]; omega)]
  show R.ok (Out.nx (_ :: _ :: _ :: _ :: _ :: Sl.bld (ss.map D.str ++ [.str w]) :: _)) = _
  unfold nEnv
  rw [List.map_append]
  rfl
theorem T2_ok (head k : Int) (ss : List Str) (a b d : Sl) (w : Str) (n : Nat) (hn : 4 ≤ n) (hw : Gd n w) (h : ss.length ≤ 6) : ∃ w' c' d', Gd n w' ∧ nT2 (nEnv head k ss a b (.val (.str w)) d) = .ok (.nx (nEnv head k (ss ++ [w']) a b c' d')) := by
  have q : ∃ k2, nC2 (nEnv head k ss a b (.val (.str w)) d) = .ok k2 := by
    have q1 : inD (.str w) (.lst (ss.map .str)) = .ok (ss.contains w) := by unfold inD; simp only [L2.strs_map]
    have q2 : inD (.str w) (.lst (BARS.map .str)) = .ok (BARS.contains w) := by unfold inD; simp only [L2.strs_map]
    have t5 : b2 dIn (eVar 8) (eVar 5) (thaw (nEnv head k ss a b (.val (.str w)) d)) = .ok (ss.contains w) := by
      have e8 : eVar 8 (thaw (nEnv head k ss a b (.val (.str w)) d)) = .ok (.str w) := by cases a <;> cases b <;> cases d <;> rfl
      have e5 : eVar 5 (thaw (nEnv head k ss a b (.val (.str w)) d)) = .ok (.lst (ss.map .str)) := by cases a <;> cases b <;> cases d <;> rfl
      unfold b2 e2 dIn
      rw [e8, R.ok_bind, e5, R.ok_bind, q1]
      rfl
    have t4 : b2 dIn (eVar 8) (eVar 4) (nEnv head k ss a b (.val (.str w)) d) = .ok (BARS.contains w) := by
      have e8 : eVar 8 (nEnv head k ss a b (.val (.str w)) d) = .ok (.str w) := rfl
      have e4 : eVar 4 (nEnv head k ss a b (.val (.str w)) d) = .ok (.lst (BARS.map .str)) := rfl
      unfold b2 e2 dIn
      rw [e8, R.ok_bind, e4, R.ok_bind, q2]
      rfl
    refine ⟨decide (w = Str.ofString "") || (ss.contains w || BARS.contains w), ?_⟩
    have t8 : b2 dEq (eVar 8) (eC (.str (Str.ofString ""))) (nEnv head k ss a b (.val (.str w)) d) = .ok (decide (w = Str.ofString "")) := rfl
    unfold nC2 bOr bThaw
    rw [t8, R.ok_bind, t5, R.ok_bind, t4]
    cases decide (w = Str.ofString "") <;> cases ss.contains w <;> rfl
  obtain ⟨k2, q⟩ := q
  cases k2 with
  | true =>
    obtain ⟨w', g', hp⟩ := pick_ok head k ss a b (.val (.str w)) h
    exact ⟨w', _, _, g'.mono hn, sSeq_ok (sIf_t q (sSeq_ok (spare_ok head k ss a b _ d) hp)) (app_ok head k ss a b _ w' h)⟩
  | false => exact ⟨w, _, _, hw, sSeq_ok (sIf_f q rfl) (app_ok head k ss a b d w h)⟩
theorem T1_ok (head k : Int) (ss : List Str) (a d : Sl) (w : Str) (x : Int) (n : Nat) (hn : 4 ≤ n) (hn2 : n ≤ 1000) (hw : Gd 8 w) (hx : 0 ≤ x) (h : ss.length ≤ 6) (hs : ∀ s ∈ ss, Gd n s) : ∃ w' c' d', Gd (n + 8) w' ∧ nT1 (nEnv head k ss a (.val (.int x)) (.val (.str w)) d) = .ok (.nx (nEnv head k (ss ++ [w']) a (.val (.int x)) c' d')) := by
  have hz : sizeLine = 16777216 := sizeLine_eq
  have q : nC1 (nEnv head k ss a (.val (.int x)) (.val (.str w)) d) = .ok (decide (x / 10000 % 4 = 0) && !ss.isEmpty) := by
    have t1 : b2 dEq (e2 dMod (e2 dFdiv (eVar 7) (eC (.int 10000))) (eC (.int 4))) (eC (.int 0)) (nEnv head k ss a (.val (.int x)) (.val (.str w)) d) = .ok (decide (x / 10000 % 4 = 0)) := rfl
    have t5 : eVar 5 (thaw (nEnv head k ss a (.val (.int x)) (.val (.str w)) d)) = .ok (.lst (ss.map .str)) := by cases a <;> cases d <;> rfl
    have t6 : eNew (nLst aNil) (thaw (nEnv head k ss a (.val (.int x)) (.val (.str w)) d)) = .ok (.lst []) := eNew_ok (by unfold nLst aNil; rw [R.ok_bind, when_of _ (by show 0 ≤ sizeLine; omega)])
    unfold nC1 bAnd bThaw
    rw [t1, R.ok_bind]
    cases decide (x / 10000 % 4 = 0) with
    | false => rfl
    | true =>
      rw [if_pos rfl]
      unfold b2 e2 dNe
      rw [t5, R.ok_bind, t6, R.ok_bind, eq_nil fun s hs' => ⟨n, hs s hs'⟩]
      cases ss.isEmpty <;> rfl
  cases e : (decide (x / 10000 % 4 = 0) && !ss.isEmpty) with
  | false =>
    rw [e] at q
    obtain ⟨w', c', d', g, ht⟩ := T2_ok head k ss a (.val (.int x)) d w (n + 8) (by omega) (hw.mono (by omega)) h
    exact ⟨w', c', d', g, sSeq_ok (sIf_f q rfl) ht⟩
  | true =>
    rw [e] at q
    have hne : 0 < ss.length := by
      cases ss with
      | nil => simp at e
      | cons => simp
    have hm : 0 ≤ x / 40000 % (ss.length : Int) ∧ x / 40000 % (ss.length : Int) < ss.length := ⟨Int.emod_nonneg _ (by omega), Int.emod_lt_of_pos _ (by omega)⟩
    obtain ⟨i, hi, ei⟩ : ∃ i : Nat, i < ss.length ∧ x / 40000 % (ss.length : Int) = i := ⟨(x / 40000 % (ss.length : Int)).toNat, by omega, by omega⟩
    have hg := hs ss[i] (List.getElem_mem hi)
    have h1 : ixD (.lst (ss.map .str)) (.int i) = .ok (.str ss[i]) := ixL_of (atI_nat (by rw [List.getElem?_map, List.getElem?_eq_getElem hi]; rfl))
    have t5 : eVar 5 (thaw (nEnv head k ss a (.val (.int x)) (.val (.str w)) d)) = .ok (.lst (ss.map .str)) := by cases a <;> cases d <;> rfl
    have t7 : eVar 7 (thaw (nEnv head k ss a (.val (.int x)) (.val (.str w)) d)) = .ok (.int x) := by cases a <;> cases d <;> rfl
    have hl := hg.len
    have hl2 := hw.len
    have v1 : eThaw (e2 ixD (eVar 5) (e2 dMod (e2 dFdiv (eVar 7) (eC (.int 40000))) (eCall cLen (aCons (eVar 5) aNil)))) (nEnv head k ss a (.val (.int x)) (.val (.str w)) d) = .ok (.str ss[i]) := by
      have p1 : (0 : Int) < (ss.length : Int) := by omega
      refine eThaw_ok (e2_ok t5 (e2_ok (e2_ok t7 rfl (fdiv_ok (by omega) (by omega))) (eCall_ok (aCons_ok t5 rfl) (lenL _)) (mod_ok (by rw [List.length_map]; exact p1))) ?_) rfl
      rw [List.length_map, ei]
      exact h1
    have v2 : eVar 8 (nEnv head k ss a (.val (.int x)) (.val (.str w)) d) = .ok (.str w) := rfl
    have g2 : Gd (n + 8) (Txt.slice (ss[i] ++ w) none (some 8)) := (hg.app hw).slice none (some 8)
    have v3 : nS1 (nEnv head k ss a (.val (.int x)) (.val (.str w)) d) = .ok (.nx (nEnv head k ss a (.val (.int x)) (.val (.str (Txt.slice (ss[i] ++ w) none (some 8)))) d)) := by
      refine sSet_ok (δ := nEnv head k ss a (.val (.int x)) (.val (.str w)) d) ?_ (by show 8 < 10; omega)
      have l3 : (ss[i] ++ w).length ≤ sizeLine := by rw [Str.length_append]; omega
      have p3 : e2 dAdd (eThaw (e2 ixD (eVar 5) (e2 dMod (e2 dFdiv (eVar 7) (eC (.int 40000))) (eCall cLen (aCons (eVar 5) aNil))))) (eVar 8) (nEnv head k ss a (.val (.int x)) (.val (.str w)) d) = .ok (.str (ss[i] ++ w)) := by
        unfold e2 at v1 ⊢
        rw [v1, R.ok_bind, v2, R.ok_bind]
        unfold dAdd
        exact when_of _ (by omega)
      unfold eSl
      rw [p3, R.ok_bind]
      show (slD (.str (ss[i] ++ w)) none (some 8)) = _
      unfold slD
      exact when_of _ l3
    obtain ⟨w', c', d', g, ht⟩ := T2_ok head k ss a (.val (.int x)) d _ (n + 8) (by omega) g2 h
    exact ⟨w', c', d', g, sSeq_ok (sIf_t q v3) ht⟩
theorem T0_ok (head k : Int) (ss : List Str) (i : Nat) (b c d : Sl) (n : Nat) (hk : 0 ≤ k) (hn : 4 ≤ n) (hn2 : n ≤ 1000) (h : ss.length ≤ 6) (hs : ∀ s ∈ ss, Gd n s) : ∃ w' b' c' d', Gd (n + 8) w' ∧ nT0 (nEnv head k ss (.val (.int (0 + i))) b c d) = .ok (.nx (nEnv head k (ss ++ [w']) (.val (.int (0 + i))) b' c' d')) := by
  have hz : sizeLine = 16777216 := sizeLine_eq
  have hst := stir_ok head (k + (0 + (i : Int))) (by omega)
  have hlo := stir_lo head (k + (0 + (i : Int)))
  generalize stir head (k + (0 + (i : Int))) = x at hst hlo
  have g1 := let_gd (i := x % 26) (by omega) (by omega)
  have g2 := let_gd (i := x / 26 % 26) (by omega) (by omega)
  have g3 := mulx (r := x / 700 % 7) (by omega) (by omega)
  have gj := join3 g1 g2 g3
  have a1 : sSet 7 (eCall d_law_stir (aCons (eVar 0) (aCons (e2 dAdd (eVar 1) (eVar 6)) aNil))) (nEnv head k ss (.val (.int (0 + i))) b c d) = .ok (.nx (nEnv head k ss (.val (.int (0 + i))) (.val (.int x)) c d)) :=
    sSet_ok (δ := nEnv head k ss (.val (.int (0 + i))) b c d) (eCall_ok (aCons_ok rfl (aCons_ok (e2_ok rfl rfl rfl) rfl)) hst) (by show 7 < 10; omega)
  have hj : mJoin (.str (Str.ofString "")) [.lst ([letAt (x % 26), letAt (x / 26 % 26), Txt.mul (Str.ofString "x") (x / 700 % 7)].map .str)] = .ok (.str (Str.join (Str.ofString "") [letAt (x % 26), letAt (x / 26 % 26), Txt.mul (Str.ofString "x") (x / 700 % 7)])) := by
    refine join_ok ?_
    have l1 := g1.len
    have l2 := g2.len
    have l3 := g3.len
    have l4 : (Str.ofString "").length = 0 := by decide +kernel
    simp only [List.map_cons, List.map_nil, List.sum_cons, List.sum_nil, List.length_cons, List.length_nil, l4]
    omega
  have lx : (Str.ofString "x").length = 1 := by decide +kernel
  have a2 : sSet 8 (eMt "str" mJoin (eC (.str (Str.ofString ""))) (aCons (eNew (nLst (aCons (e2 ixD (eVar 3) (e2 dMod (eVar 7) (eC (.int 26)))) (aCons (e2 ixD (eVar 3) (e2 dMod (e2 dFdiv (eVar 7) (eC (.int 26))) (eC (.int 26)))) (aCons (e2 dMul (eC (.str (Str.ofString "x"))) (e2 dMod (e2 dFdiv (eVar 7) (eC (.int 700))) (eC (.int 7)))) aNil))))) aNil)) (nEnv head k ss (.val (.int (0 + i))) (.val (.int x)) c d) =
      .ok (.nx (nEnv head k ss (.val (.int (0 + i))) (.val (.int x)) (.val (.str (Str.join (Str.ofString "") [letAt (x % 26), letAt (x / 26 % 26), Txt.mul (Str.ofString "x") (x / 700 % 7)]))) d)) := by
    refine sSet_ok (δ := nEnv head k ss (.val (.int (0 + i))) (.val (.int x)) c d) (eMtS_ok rfl (aCons_ok (eNew_ok (nLst_ok (aCons_ok ?_ (aCons_ok ?_ (aCons_ok ?_ rfl))) ?_)) rfl) hj) (by show 8 < 10; omega)
    · exact e2_ok (a := .str LET) rfl (e2_ok rfl rfl (mod_ok (by omega))) (let_ix (by omega) (by omega))
    · exact e2_ok (a := .str LET) rfl (e2_ok (e2_ok rfl rfl (fdiv_ok (by omega) (by omega))) rfl (mod_ok (by omega))) (let_ix (by omega) (by omega))
    · exact e2_ok rfl (e2_ok (e2_ok rfl rfl (fdiv_ok (by omega) (by omega))) rfl (mod_ok (by omega))) (mulS_ok (by omega) (by omega) (by rw [lx]; omega))
    · show 3 ≤ sizeLine
      omega
  have lj := gj.len
  have a3 : sSet 8 (eSl (eVar 8) (oSome (e2 dMod (e2 dFdiv (eVar 7) (eC (.int 5000))) (eC (.int 2)))) oNone) (nEnv head k ss (.val (.int (0 + i))) (.val (.int x)) (.val (.str (Str.join (Str.ofString "") [letAt (x % 26), letAt (x / 26 % 26), Txt.mul (Str.ofString "x") (x / 700 % 7)]))) d) =
      .ok (.nx (nEnv head k ss (.val (.int (0 + i))) (.val (.int x)) (.val (.str (Txt.slice (Str.join (Str.ofString "") [letAt (x % 26), letAt (x / 26 % 26), Txt.mul (Str.ofString "x") (x / 700 % 7)]) (some (x / 5000 % 2)) none))) d)) :=
    sSet_ok (δ := nEnv head k ss (.val (.int (0 + i))) (.val (.int x)) _ d) (eSl_ok rfl (oSome_ok (e2_ok (e2_ok rfl rfl (fdiv_ok (by omega) (by omega))) rfl (mod_ok (by omega)))) rfl (slS_ok (by omega))) (by show 8 < 10; omega)
  obtain ⟨w', c', d', g, ht⟩ := T1_ok head k ss (.val (.int (0 + i))) d _ x n hn hn2 (gj.slice (some (x / 5000 % 2)) none) hlo h hs
  exact ⟨w', _, c', d', g, sSeq_ok a1 (sSeq_ok a2 (sSeq_ok a3 ht))⟩
theorem names_ok (head k : Int) (hk : 0 ≤ k) : ∃ ss : List Str, d_law_names [.int head, .int k, .int 6] = .ok (.lst (ss.map .str)) ∧ ss.length = 6 ∧ ∀ s ∈ ss, Gd 60 s := by
  have hz : sizeLine = 16777216 := sizeLine_eq
  obtain ⟨δ', h1, ss, a, b, c, d, hδ, hlen, hg⟩ := loopD_inv (t := gNameD 6) (body := B_law_names_0) (ds := rngD 0 6) (fun i δ => ∃ ss a b c d, δ = nEnv head k ss a b c d ∧ ss.length = i ∧ ∀ s ∈ ss, Gd (4 + 8 * i) s)
    (δ := nEnv head k [] .un .un .un .un) ⟨[], _, _, _, _, rfl, rfl, fun s hs => by cases hs⟩ (by
      rintro i dd δ hd ⟨ss, a, b, c, d, rfl, hl, hg⟩
      obtain ⟨rfl, hi⟩ := rng_get hd
      obtain ⟨w', b', c', d', g, ht⟩ := T0_ok head k ss i b c d (4 + 8 * i) hk (by omega) (by omega) (by omega) hg
      refine ⟨_, by rw [nT0_eq]; exact ht, ss ++ [w'], _, b', c', d', rfl, by rw [List.length_append, hl]; rfl, fun s hs => ?_⟩
      rcases List.mem_append.mp hs with z | z
      · exact (hg s z).mono (by omega)
      · rw [List.mem_singleton] at z
        subst z
        exact g.mono (by omega))
  rw [rng_len] at hlen hg
  refine ⟨ss, ?_, hlen, fun s hs => (hg s hs).mono (by omega)⟩
  have st : nLst aNil [Sl.val (.int head), .val (.int k), .val (.int 6), .val (.str LET), .val (.lst (BARS.map .str)), .un, .un, .un, .un, .un] = .ok [] := nLst_ok rfl (by show 0 ≤ sizeLine; omega)
  refine fnD_ok (sSeq_ok rfl (sSeq_ok (sSet_ok (d := .lst (BARS.map .str)) (eNew_ok (nLst_ok rfl (by show 9 ≤ sizeLine; omega))) (by show 4 < 10; omega)) (sSeq_ok (sBld_ok st (by show 5 < 10; omega)) (sSeq_ok (sFor_ok (rng1_ok (n := 6) rfl (by omega)) (h1.trans (by rw [hδ]))) ?_))))
  show sRet (eVar 5) (frz 5 (nEnv head k ss a b c d)) = _
  exact sRet_ok rfl
end K6

end
section
set_option maxRecDepth 100000
set_option maxHeartbeats 1000000
namespace K6
open PySem PySem.Spec PyProof.Rows L2
def inR (p : Str × Int) : D := .tup [.str p.1, .int p.2]
def ouR (o : Str × List Int) : D := .tup [.str o.1, .tup (o.2.map .int)]
def sumw (ins : List (Str × Int)) : Int := (ins.map (·.2)).sum
structure WIns (ins : List (Str × Int)) : Prop where
  lo : 1 ≤ ins.length
  hi : ins.length ≤ 6
  ok : ∀ p ∈ ins, Gd 60 p.1 ∧ 1 ≤ p.2 ∧ p.2 ≤ 3
structure WGates (f : Int) (gs : List Gt) : Prop where
  hi : gs.length ≤ 60
  ok : ∀ (i : Nat) (g : Gt), gs[i]? = some g → g.kind ∈ kinds ∧ g.wires.length ≤ 3 ∧ ∀ x ∈ g.wires, 0 ≤ x ∧ x < f + i
structure WOuts (t : Int) (os : List (Str × List Int)) : Prop where
  hi : os.length ≤ 6
  ok : ∀ o ∈ os, Gd 60 o.1 ∧ o.2.length ≤ 3 ∧ ∀ x ∈ o.2, 0 ≤ x ∧ x < t
theorem sumw_pos : ∀ {ins : List (Str × Int)}, (∀ p ∈ ins, 1 ≤ p.2) → (ins.length : Int) ≤ sumw ins
  | [], _ => by decide
  | p :: r, h => by
    have := sumw_pos (ins := r) fun q hq => h q (List.mem_cons_of_mem _ hq)
    have h1 := h p List.mem_cons_self
    unfold sumw at this ⊢
    rw [List.map_cons, List.sum_cons, List.length_cons]
    omega
theorem mod_nat {x m : Int} (h0 : 0 < m) : ∃ j : Nat, (j : Int) < m ∧ x % m = j := ⟨(x % m).toNat, by have := Int.emod_lt_of_pos x h0; have := Int.emod_nonneg x (show m ≠ 0 by omega); omega, by have := Int.emod_nonneg x (show m ≠ 0 by omega); omega⟩
abbrev tEnv (s0 s1 s2 s3 s4 s5 s6 s7 s8 s9 s10 : Sl) : DEnv := [s0, s1, s2, s3, s4, s5, s6, s7, s8, s9, s10]
/-! ins -/
theorem ins_loop (s0 : Sl) (head : Int) (ss : List Str) (hl : ss.length = 6) (hg : ∀ s ∈ ss, Gd 60 s) (n : Nat) (h1 : 1 ≤ n) (hn : n ≤ 6) : ∃ ins a, WIns ins ∧
    loopD (gNameD 4) B_law_net_0 (rngD 0 n) (tEnv s0 (.val (.int head)) (.val (.lst (ss.map .str))) (.bld []) .un .un .un .un .un .un .un) = .ok (.nx (tEnv s0 (.val (.int head)) (.val (.lst (ss.map .str))) (.bld (ins.map inR)) a .un .un .un .un .un .un)) := by
  have hz : sizeLine = 16777216 := sizeLine_eq
  obtain ⟨δ', h1', ins, a, rfl, hlen, hok⟩ := loopD_inv (t := gNameD 4) (body := B_law_net_0) (ds := rngD 0 n) (fun i δ => ∃ ins a, δ = tEnv s0 (.val (.int head)) (.val (.lst (ss.map .str))) (.bld (ins.map inR)) a .un .un .un .un .un .un ∧ ins.length = i ∧ ∀ p ∈ ins, Gd 60 p.1 ∧ 1 ≤ p.2 ∧ p.2 ≤ 3)
    (δ := tEnv s0 (.val (.int head)) (.val (.lst (ss.map .str))) (.bld []) .un .un .un .un .un .un .un) ⟨[], _, rfl, rfl, fun p hp => by cases hp⟩ (by
      rintro i dd δ hd ⟨ins, a, rfl, hl', hok⟩
      obtain ⟨rfl, hi⟩ := rng_get hd
      have hi6 : i < ss.length := by omega
      have hst := stir_ok head (321 + (0 + (i : Int))) (by omega)
      generalize stir head (321 + (0 + (i : Int))) = x at hst
      have hx : ixD (.lst (ss.map .str)) (.int (0 + i)) = .ok (.str ss[i]) := by rw [Int.zero_add]; exact ixL_of (atI_nat (by rw [List.getElem?_map, List.getElem?_eq_getElem hi6]; rfl))
      refine ⟨_, sApp_ok (d := inR (ss[i], 1 + x % 3)) (ds := ins.map inR) ?_ rfl (by rw [List.length_map]; omega), ins ++ [(ss[i], 1 + x % 3)], .val (.int (0 + i)), ?_, by rw [List.length_append, hl']; rfl, fun p hp => ?_⟩
      · exact eTup_ok (aCons_ok (e2_ok rfl rfl hx) (aCons_ok (e2_ok (b := .int (x % 3)) rfl (e2_ok (eCall_ok (aCons_ok rfl (aCons_ok (e2_ok rfl rfl rfl) rfl)) hst) rfl (mod_ok (by omega))) rfl) rfl)) (by show 2 ≤ sizeLine; omega)
      · rw [List.map_append]; rfl
      · rcases List.mem_append.mp hp with z | z
        · exact hok p z
        · rw [List.mem_singleton] at z
          subst z
          exact ⟨hg _ (List.getElem_mem hi6), by show 1 ≤ 1 + x % 3; omega, by show 1 + x % 3 ≤ 3; omega⟩)
  rw [rng_len] at hlen
  exact ⟨ins, a, ⟨by omega, by omega, hok⟩, h1'⟩
theorem sum_ok (ins : List (Str × Int)) (h : ins.length ≤ 6) (δ : DEnv) (h3 : δ[3]? = some (.val (.lst (ins.map inR)))) :
    eCall cSum (aCons (eNew (nComp (itSeq (eVar 3)) (gTupD 2 (gConsD (gNameD 0) (gConsD (gNameD 1) gNilD))) cYes (eVar 1) [(Str.ofString "name"), (Str.ofString "width")] [])) aNil) δ = .ok (.int (sumw ins)) := by
  have hz : sizeLine = 16777216 := sizeLine_eq
  have hv : eVar 3 δ = .ok (.lst (ins.map inR)) := by unfold eVar; rw [h3]
  have hc : compL (gTupD 2 (gConsD (gNameD 0) (gConsD (gNameD 1) gNilD))) cYes (eVar 1) [.un, .un] (ins.map inR) = .ok ((ins.map (·.2)).map .int) := by
    have e0 : (ins.map (·.2)).map D.int = (ins.map inR).map (fun d => match d with | .tup [_, y] => y | _ => .non) := by
      rw [List.map_map, List.map_map]; rfl
    rw [e0]
    refine compL_map _ fun d hd => ?_
    obtain ⟨p, _, rfl⟩ := List.mem_map.mp hd
    exact ⟨[.val (.str p.1), .val (.int p.2)], rfl, rfl, rfl⟩
  refine eCall_ok (aCons_ok (eNew_ok (nComp_ok (itL_ok hv) (by rw [List.length_map]; omega) hc)) rfl) ?_
  unfold cSum
  simp only [L2.ints_map]
  rfl
/-! gates -/
theorem gates_loop (s0 s1 s2 s3 s4 : Sl) (first : Int) (hf : 0 < first) (cs : List Int) (hc : cs.length ≤ 60) : ∃ gs a, WGates first gs ∧ gs.length = cs.length ∧
    loopD (gNameD 7) B_law_net_1 (cs.map .int) (tEnv s0 s1 s2 s3 s4 (.val (.int first)) (.bld []) .un .un .un .un) = .ok (.nx (tEnv s0 s1 s2 s3 s4 (.val (.int first)) (.bld (gs.map Gt.d)) a .un .un .un)) := by
  have hz : sizeLine = 16777216 := sizeLine_eq
  obtain ⟨δ', h1', gs, a, rfl, hlen, hok⟩ := loopD_inv (t := gNameD 7) (body := B_law_net_1) (ds := cs.map .int) (fun i δ => ∃ gs a, δ = tEnv s0 s1 s2 s3 s4 (.val (.int first)) (.bld (gs.map Gt.d)) a .un .un .un ∧ gs.length = i ∧ ∀ (j : Nat) (g : Gt), gs[j]? = some g → g.kind ∈ kinds ∧ g.wires.length ≤ 3 ∧ ∀ x ∈ g.wires, 0 ≤ x ∧ x < first + j)
    (δ := tEnv s0 s1 s2 s3 s4 (.val (.int first)) (.bld []) .un .un .un .un) ⟨[], _, rfl, rfl, fun j g hj => by simp at hj⟩ (by
      rintro i dd δ hd ⟨gs, a, rfl, hl', hok⟩
      rw [List.getElem?_map] at hd
      cases e : cs[i]? with
      | none => rw [e] at hd; cases hd
      | some c =>
        rw [e] at hd
        cases hd
        have hi : i < cs.length := (List.getElem?_eq_some_iff.mp e).1
        obtain ⟨g, hg, k1, k2, k3⟩ := gate_ok c (first + (gs.length : Int)) (by omega)
        have t6 : eVar 6 (thaw (tEnv s0 s1 s2 s3 s4 (.val (.int first)) (.bld (gs.map Gt.d)) (.val (.int c)) .un .un .un)) = .ok (.lst (gs.map Gt.d)) := by cases s0 <;> cases s1 <;> cases s2 <;> cases s3 <;> cases s4 <;> rfl
        refine ⟨_, sApp_ok (d := g.d) (ds := gs.map Gt.d) ?_ rfl (by rw [List.length_map]; omega), gs ++ [g], .val (.int c), ?_, by rw [List.length_append, hl']; rfl, fun j g' hj => ?_⟩
        · exact eCall_ok (aCons_ok rfl (aCons_ok (e2_ok (b := .int (gs.length : Int)) rfl (eThaw_ok (eCall_ok (aCons_ok t6 rfl) (by rw [lenL, List.length_map])) rfl) rfl) rfl)) hg
        · rw [List.map_append]; rfl
        · by_cases q : j < gs.length
          · rw [List.getElem?_append_left q] at hj; exact hok j g' hj
          · rw [List.getElem?_append_right (by omega)] at hj
            have : j - gs.length = 0 := by
              have := (List.getElem?_eq_some_iff.mp hj).1
              simp at this; omega
            rw [this] at hj
            cases hj
            have : j = gs.length := by omega
            subst this
            exact ⟨k1, k2, k3⟩)
  rw [List.length_map] at hlen
  exact ⟨gs, a, ⟨by omega, hok⟩, hlen, h1'⟩
/-! outs -/
theorem outs_loop (s0 s2 s3 s4 s7 : Sl) (head first : Int) (gl : List D) (tot : Int) (ht : tot = first + gl.length) (hf : 0 < tot) (ss : List Str) (hl : ss.length = 6) (hg : ∀ s ∈ ss, Gd 60 s) (n : Nat) (hn : n ≤ 6) : ∃ os a b, WOuts tot os ∧
    loopD (gNameD 4) B_law_net_2 (rngD 0 n) (tEnv s0 (.val (.int head)) s2 s3 s4 (.val (.int first)) (.val (.lst gl)) s7 (.bld []) (.val (.lst (ss.map .str))) .un) = .ok (.nx (tEnv s0 (.val (.int head)) s2 s3 a (.val (.int first)) (.val (.lst gl)) s7 (.bld (os.map ouR)) (.val (.lst (ss.map .str))) b)) := by
  have hz : sizeLine = 16777216 := sizeLine_eq
  obtain ⟨δ', h1', os, a, b, rfl, hlen, hok⟩ := loopD_inv (t := gNameD 4) (body := B_law_net_2) (ds := rngD 0 n) (fun i δ => ∃ os a b, δ = tEnv s0 (.val (.int head)) s2 s3 a (.val (.int first)) (.val (.lst gl)) s7 (.bld (os.map ouR)) (.val (.lst (ss.map .str))) b ∧ os.length = i ∧ ∀ o ∈ os, Gd 60 o.1 ∧ o.2.length ≤ 3 ∧ ∀ x ∈ o.2, 0 ≤ x ∧ x < tot)
    (δ := tEnv s0 (.val (.int head)) s2 s3 s4 (.val (.int first)) (.val (.lst gl)) s7 (.bld []) (.val (.lst (ss.map .str))) .un) ⟨[], _, _, rfl, rfl, fun p hp => by cases hp⟩ (by
      rintro i dd δ hd ⟨os, a, b, rfl, hl', hok⟩
      obtain ⟨rfl, hi⟩ := rng_get hd
      have hi6 : 5 - i < ss.length := by omega
      have hst := stir_ok head (342 + (0 + (i : Int))) (by omega)
      generalize stir head (342 + (0 + (i : Int))) = x at hst
      obtain ⟨m, hm, em⟩ := mod_nat (x := x) (m := 3) (by omega)
      have hx : ixD (.lst (ss.map .str)) (.int (5 - (0 + (i : Int)))) = .ok (.str ss[5 - i]) := by
        rw [show (5 : Int) - (0 + (i : Int)) = ((5 - i : Nat) : Int) by omega]
        exact ixL_of (atI_nat (by rw [List.getElem?_map, List.getElem?_eq_getElem hi6]; rfl))
      have hw := wires_ok head (350 + 3 * (0 + (i : Int))) tot (1 + m) (by omega) hf (by omega)
      refine ⟨_, sSeq_ok (sSet_ok (eCall_ok (aCons_ok rfl (aCons_ok (e2_ok rfl rfl rfl) rfl)) hst) (by show 10 < 11; omega)) (sApp_ok (d := ouR (ss[5 - i], wiresOf head (350 + 3 * (0 + (i : Int))) tot (1 + m))) (ds := os.map ouR) ?_ rfl (by rw [List.length_map]; omega)),
        os ++ [(ss[5 - i], wiresOf head (350 + 3 * (0 + (i : Int))) tot (1 + m))], .val (.int (0 + i)), .val (.int x), ?_, by rw [List.length_append, hl']; rfl, fun p hp => ?_⟩
      · refine eTup_ok (aCons_ok (e2_ok (b := .int (5 - (0 + (i : Int)))) rfl (e2_ok rfl rfl rfl) hx) (aCons_ok (eCall_ok (ds := [.int head, .int (350 + 3 * (0 + (i : Int))), .int ((1 + m : Nat) : Int), .int tot]) (aCons_ok rfl (aCons_ok (e2_ok (b := .int (3 * (0 + (i : Int)))) rfl ?_ rfl) (aCons_ok (e2_ok (b := .int (x % 3)) rfl (e2_ok rfl rfl (mod_ok (by omega))) ?_) (aCons_ok (e2_ok (b := .int (gl.length : Int)) rfl (eCall_ok (aCons_ok rfl rfl) (lenL _)) ?_) rfl)))) hw) rfl)) (by show 2 ≤ sizeLine; omega)
        · exact e2_ok rfl rfl (by unfold dMul; exact when_of _ (Or.inl ⟨by omega, by omega⟩))
        · show R.ok (D.int (1 + x % 3)) = _
          rw [em]
          congr 2
        · show R.ok (D.int (first + (gl.length : Int))) = _
          rw [ht]
      · rw [List.map_append]; rfl
      · rcases List.mem_append.mp hp with z | z
        · exact hok p z
        · rw [List.mem_singleton] at z
          subst z
          exact ⟨hg _ (List.getElem_mem hi6), by rw [wires_len]; omega, wires_in _ _ _ _ hf⟩)
  rw [rng_len] at hlen
  exact ⟨os, a, b, ⟨by omega, hok⟩, h1'⟩
end K6

end
section
set_option maxRecDepth 100000
set_option maxHeartbeats 1000000
namespace K6
open PySem PySem.Spec PyProof.Rows L2
def netR (ins : List (Str × Int)) (gs : List Gt) (os : List (Str × List Int)) : D := .tup [.lst (ins.map inR), .lst (gs.map Gt.d), .lst (os.map ouR)]
theorem cut_len (ns : List Int) : (L2.cutD ns (some 1) (some 61)).length ≤ 60 := by
  unfold L2.cutD
  rw [List.length_take, List.length_drop]
  have e1 : HT.sIx ns.length 0 (some 1) = min 1 ns.length := HT.sIx_nat ns.length 0 1
  have e2 : HT.sIx ns.length ns.length (some 61) = min 61 ns.length := HT.sIx_nat ns.length ns.length 61
  rw [e1, e2]
  omega
theorem cut_map (ns : List Int) : L2.cutD (ns.map D.int) (some 1) (some 61) = (L2.cutD ns (some 1) (some 61)).map D.int := by
  unfold L2.cutD
  rw [List.length_map, ← List.map_drop, ← List.map_take]
theorem net_ok (ns : List Int) : ∃ ins gs os, d_law_net [.lst (ns.map .int)] = .ok (netR ins gs os) ∧ WIns ins ∧ WGates (sumw ins) gs ∧ WOuts (sumw ins + gs.length) os := by
  have hz : sizeLine = 16777216 := sizeLine_eq
  have hh := cell_at_ok ns
  generalize ns.headD 0 = head at hh
  obtain ⟨ss, hn1, hl1, hg1⟩ := names_ok head 300 (by omega)
  obtain ⟨tt, hn2, hl2, hg2⟩ := names_ok head 330 (by omega)
  have hs1 := stir_ok head 320 (by omega)
  obtain ⟨n1, hb1, em1⟩ := mod_nat (x := stir head 320) (m := 6) (by omega)
  obtain ⟨ins, a1, wi, lp1⟩ := ins_loop (.val (.lst (ns.map .int))) head ss hl1 hg1 (1 + n1) (by omega) (by omega)
  have hsp := sumw_pos (ins := ins) fun p hp => (wi.ok p hp).2.1
  have hfp : 0 < sumw ins := by have := wi.lo; omega
  obtain ⟨gs, a2, wg, hgl, lp2⟩ := gates_loop (.val (.lst (ns.map .int))) (.val (.int head)) (.val (.lst (ss.map .str))) (.val (.lst (ins.map inR))) a1 (sumw ins) hfp (L2.cutD ns (some 1) (some 61)) (cut_len ns)
  have hs2 := stir_ok head 340 (by omega)
  have hs3 := stir_ok head 341 (by omega)
  obtain ⟨n3, hb3, em3⟩ := mod_nat (x := stir head 341) (m := 6) (by omega)
  have tail : ∀ uu : List Str, uu.length = 6 → (∀ s ∈ uu, Gd 60 s) → ∃ os a b, WOuts (sumw ins + gs.length) os ∧
      loopD (gNameD 4) B_law_net_2 (rngD 0 (1 + n3)) (tEnv (.val (.lst (ns.map .int))) (.val (.int head)) (.val (.lst (ss.map .str))) (.val (.lst (ins.map inR))) a1 (.val (.int (sumw ins))) (.val (.lst (gs.map Gt.d))) a2 (.bld []) (.val (.lst (uu.map .str))) .un) =
        .ok (.nx (tEnv (.val (.lst (ns.map .int))) (.val (.int head)) (.val (.lst (ss.map .str))) (.val (.lst (ins.map inR))) a (.val (.int (sumw ins))) (.val (.lst (gs.map Gt.d))) a2 (.bld (os.map ouR)) (.val (.lst (uu.map .str))) b)) := fun uu h1 h2 =>
    outs_loop _ _ _ a1 a2 head (sumw ins) (gs.map Gt.d) (sumw ins + gs.length) (by rw [List.length_map]) (by omega) uu h1 h2 (1 + n3) (by omega)
  have rest : ∃ os, WOuts (sumw ins + gs.length) os ∧ (sSeq (sIf (b2 dEq (e2 dMod (eCall d_law_stir (aCons (eVar 1) (aCons (eC (.int 340)) aNil))) (eC (.int 2))) (eC (.int 0))) (sSet 9 (eVar 2)) sNil) (sSeq (sFor (itRng1 (e2 dAdd (eC (.int 1)) (e2 dMod (eCall d_law_stir (aCons (eVar 1) (aCons (eC (.int 341)) aNil))) (eC (.int 6))))) (gNameD 4) B_law_net_2) (sFrz 8 (sRet (eTup (aCons (eVar 3) (aCons (eVar 6) (aCons (eVar 8) aNil))))))))
      (tEnv (.val (.lst (ns.map .int))) (.val (.int head)) (.val (.lst (ss.map .str))) (.val (.lst (ins.map inR))) a1 (.val (.int (sumw ins))) (.val (.lst (gs.map Gt.d))) a2 (.bld []) (.val (.lst (tt.map .str))) .un) = .ok (.rt (netR ins gs os)) := by
    have itr : ∀ uu : List Str, itRng1 (e2 dAdd (eC (.int 1)) (e2 dMod (eCall d_law_stir (aCons (eVar 1) (aCons (eC (.int 341)) aNil))) (eC (.int 6)))) (tEnv (.val (.lst (ns.map .int))) (.val (.int head)) (.val (.lst (ss.map .str))) (.val (.lst (ins.map inR))) a1 (.val (.int (sumw ins))) (.val (.lst (gs.map Gt.d))) a2 (.bld []) (.val (.lst (uu.map .str))) .un) = .ok (rngD 0 (1 + n3)) := fun uu =>
      rng1_ok (n := 1 + n3) (e2_ok (b := .int (stir head 341 % 6)) rfl (e2_ok (eCall_ok (aCons_ok rfl (aCons_ok rfl rfl)) hs3) rfl (mod_ok (by omega))) (by show R.ok (D.int (1 + stir head 341 % 6)) = _; rw [em3]; congr 2)) (by omega)
    have hb : b2 dEq (e2 dMod (eCall d_law_stir (aCons (eVar 1) (aCons (eC (.int 340)) aNil))) (eC (.int 2))) (eC (.int 0)) (tEnv (.val (.lst (ns.map .int))) (.val (.int head)) (.val (.lst (ss.map .str))) (.val (.lst (ins.map inR))) a1 (.val (.int (sumw ins))) (.val (.lst (gs.map Gt.d))) a2 (.bld []) (.val (.lst (tt.map .str))) .un) = .ok (decide (stir head 340 % 2 = 0)) :=
      b2_ok (e2_ok (eCall_ok (aCons_ok rfl (aCons_ok rfl rfl)) hs2) rfl (mod_ok (by omega))) rfl rfl
    by_cases h : stir head 340 % 2 = 0
    · rw [decide_eq_true h] at hb
      obtain ⟨os, a, b, wo, lp⟩ := tail ss hl1 hg1
      exact ⟨os, wo, sSeq_ok (sIf_t hb (sSet_ok rfl (by show 9 < 11; omega))) (sSeq_ok (sFor_ok (itr ss) lp) (sRet_ok (eTup_ok (aCons_ok rfl (aCons_ok rfl (aCons_ok rfl rfl))) (by show 3 ≤ sizeLine; omega))))⟩
    · rw [decide_eq_false h] at hb
      obtain ⟨os, a, b, wo, lp⟩ := tail tt hl2 hg2
      exact ⟨os, wo, sSeq_ok (sIf_f hb rfl) (sSeq_ok (sFor_ok (itr tt) lp) (sRet_ok (eTup_ok (aCons_ok rfl (aCons_ok rfl (aCons_ok rfl rfl))) (by show 3 ≤ sizeLine; omega))))⟩
  obtain ⟨os, wo, hr⟩ := rest
  refine ⟨ins, gs, os, fnD_ok ?_, wi, wg, wo⟩
  have nl : ∀ δ : DEnv, nLst aNil δ = .ok [] := fun δ => nLst_ok rfl (by show 0 ≤ sizeLine; omega)
  refine sSeq_ok (sSet_ok (eCall_ok (aCons_ok rfl (aCons_ok rfl rfl)) hh) (by show 1 < 11; omega)) (sSeq_ok (sSet_ok (eCall_ok (aCons_ok rfl (aCons_ok rfl (aCons_ok rfl rfl))) hn1) (by show 2 < 11; omega)) (sSeq_ok (sBld_ok (nl _) (by show 3 < 11; omega)) ?_))
  refine sSeq_ok (sFor_ok (rng1_ok (n := 1 + n1) (e2_ok (b := .int (stir head 320 % 6)) rfl (e2_ok (eCall_ok (aCons_ok rfl (aCons_ok rfl rfl)) hs1) rfl (mod_ok (by omega))) (by show R.ok (D.int (1 + stir head 320 % 6)) = _; rw [em1]; congr 2)) (by omega)) lp1) ?_
  refine sSeq_ok (sSet_ok (sum_ok ins wi.hi _ rfl) (by show 5 < 11; omega)) (sSeq_ok (sBld_ok (nl _) (by show 6 < 11; omega)) ?_)
  refine sSeq_ok (sFor_ok (itL_ok (eSl_ok (d := .lst (ns.map .int)) (lo := some 1) (hi := some 61) rfl rfl rfl (by show R.ok (D.lst (L2.cutD (ns.map D.int) (some 1) (some 61))) = _; rw [cut_map]))) lp2) ?_
  exact sSeq_ok (sBld_ok (nl _) (by show 8 < 11; omega)) (sSeq_ok (sSet_ok (eCall_ok (aCons_ok rfl (aCons_ok rfl (aCons_ok rfl rfl))) hn2) (by show 9 < 11; omega)) hr)
/-! the ins called otherwise -/
abbrev stEnv (x0 x1 x2 x3 x4 x5 x6 x7 x8 : Sl) : DEnv := [x0, x1, x2, x3, x4, x5, x6, x7, x8]
theorem strange_ok (cell : Int) (ins : List (Str × Int)) (w : WIns ins) : ∃ ins', d_law_strange_ins [.int cell, .lst (ins.map inR)] = .ok (.lst (ins'.map inR)) ∧ WIns ins' ∧ sumw ins' = sumw ins := by
  have hz : sizeLine = 16777216 := sizeLine_eq
  have hs := stir_ok cell 500 (by omega)
  generalize stir cell 500 = x at hs
  obtain ⟨j, hj, ej⟩ := mod_nat (x := x / 4) (m := 6) (by omega)
  obtain ⟨q, hq, eq⟩ := mod_nat (x := x) (m := 4) (by omega)
  have base : ∃ b : Str, Gd 2 b ∧ ixD (.lst [.str (Str.ofString "a"), .str (Str.ofString "b"), .str (Str.ofString "x"), .str (Str.ofString "ba"), .str (Str.ofString "c"), .str (Str.ofString "z")]) (.int j) = .ok (.str b) := by
    have hj' : j < 6 := by omega
    match j, hj' with
    | 0, _ => exact ⟨_, ⟨by decide +kernel, by decide +kernel⟩, ixL_of (atI_nat (j := 0) rfl)⟩
    | 1, _ => exact ⟨_, ⟨by decide +kernel, by decide +kernel⟩, ixL_of (atI_nat (j := 1) rfl)⟩
    | 2, _ => exact ⟨_, ⟨by decide +kernel, by decide +kernel⟩, ixL_of (atI_nat (j := 2) rfl)⟩
    | 3, _ => exact ⟨_, ⟨by decide +kernel, by decide +kernel⟩, ixL_of (atI_nat (j := 3) rfl)⟩
    | 4, _ => exact ⟨_, ⟨by decide +kernel, by decide +kernel⟩, ixL_of (atI_nat (j := 4) rfl)⟩
    | 5, _ => exact ⟨_, ⟨by decide +kernel, by decide +kernel⟩, ixL_of (atI_nat (j := 5) rfl)⟩
  obtain ⟨b, gb, hb⟩ := base
  have abc : ∀ i : Nat, i < 6 → ∃ s : Str, Gd 1 s ∧ ixD (.str (Str.ofString "abcxyz")) (.int i) = .ok (.str s) := fun i hi => by
    have h6 : (Str.ofString "abcxyz").cps.toList = [97, 98, 99, 120, 121, 122] := by decide +kernel
    have l6 : (Str.ofString "abcxyz").length = 6 := by decide +kernel
    have : ∃ c, atI (Str.ofString "abcxyz").cps.toList (i : Int) = some c ∧ c < 128 := by
      rw [h6]
      match i, hi with
      | 0, _ => exact ⟨97, rfl, by omega⟩
      | 1, _ => exact ⟨98, rfl, by omega⟩
      | 2, _ => exact ⟨99, rfl, by omega⟩
      | 3, _ => exact ⟨120, rfl, by omega⟩
      | 4, _ => exact ⟨121, rfl, by omega⟩
      | 5, _ => exact ⟨122, rfl, by omega⟩
    obtain ⟨c, h1, h2⟩ := this
    exact ⟨⟨#[c]⟩, ⟨by show 1 ≤ 1; omega, fun d hd => by have hd : d ∈ [c] := hd; rw [List.mem_singleton] at hd; omega⟩, ixS_of (by rw [l6]; omega) h1⟩
  have six : ∀ i : Nat, i < 6 → ∃ s : Str, Gd 3 s ∧ ixD (.lst [.str (Str.ofString "xa"), .str (Str.ofString "xxa"), .str (Str.ofString "xb"), .str (Str.ofString "a"), .str (Str.ofString "xx"), .str (Str.ofString "x")]) (.int i) = .ok (.str s) := fun i hi => by
    match i, hi with
    | 0, _ => exact ⟨_, ⟨by decide +kernel, by decide +kernel⟩, ixL_of (atI_nat (j := 0) rfl)⟩
    | 1, _ => exact ⟨_, ⟨by decide +kernel, by decide +kernel⟩, ixL_of (atI_nat (j := 1) rfl)⟩
    | 2, _ => exact ⟨_, ⟨by decide +kernel, by decide +kernel⟩, ixL_of (atI_nat (j := 2) rfl)⟩
    | 3, _ => exact ⟨_, ⟨by decide +kernel, by decide +kernel⟩, ixL_of (atI_nat (j := 3) rfl)⟩
    | 4, _ => exact ⟨_, ⟨by decide +kernel, by decide +kernel⟩, ixL_of (atI_nat (j := 4) rfl)⟩
    | 5, _ => exact ⟨_, ⟨by decide +kernel, by decide +kernel⟩, ixL_of (atI_nat (j := 5) rfl)⟩
  obtain ⟨δ', h1', ins', a5, a6, a7, a8, rfl, hlen, hok, hsum⟩ := loopD_inv (t := gTupD 2 (gConsD (gNameD 5) (gConsD (gTupD 2 (gConsD (gNameD 6) (gConsD (gNameD 7) gNilD))) gNilD))) (body := B_law_strange_ins_0) (ds := enumD (ins.map inR))
    (fun i δ => ∃ ins' a5 a6 a7 a8, δ = stEnv (.val (.int cell)) (.val (.lst (ins.map inR))) (.val (.int x)) (.val (.str b)) (.bld (ins'.map inR)) a5 a6 a7 a8 ∧ ins'.length = i ∧ (∀ p ∈ ins', Gd 60 p.1 ∧ 1 ≤ p.2 ∧ p.2 ≤ 3) ∧ sumw ins' = sumw (ins.take i))
    (δ := stEnv (.val (.int cell)) (.val (.lst (ins.map inR))) (.val (.int x)) (.val (.str b)) (.bld []) .un .un .un .un) ⟨[], _, _, _, _, rfl, rfl, (fun p hp => by cases hp), rfl⟩ (by
      rintro i dd δ hd ⟨ins', a5, a6, a7, a8, rfl, hl', hok, hsum⟩
      unfold enumD at hd
      rw [List.getElem?_map, List.getElem?_zipIdx, List.getElem?_map] at hd
      cases e : ins[i]? with
      | none => rw [e] at hd; cases hd
      | some p =>
        rw [e] at hd
        have hd : D.tup [.int ((0 + i : Nat) : Int), inR p] = dd := Option.some.inj hd
        rw [Nat.zero_add] at hd
        subst hd
        have hi : i < ins.length := (List.getElem?_eq_some_iff.mp e).1
        have hi6 : i < 6 := by have := w.hi; omega
        have wp := w.ok p (List.mem_of_getElem? e)
        obtain ⟨s2, g2, ee2⟩ := abc i hi6
        obtain ⟨s3, g3, e3⟩ := six i hi6
        have gm : Gd 6 (Txt.mul (Str.ofString "x") (i : Int)) := mulx (by omega) (by omega)
        have lx : (Str.ofString "x").length = 1 := by decide +kernel
        have lm := gm.len
        have lb := gb.len
        have pick : ∃ o : Str, Gd 60 o ∧ ixD (.lst [.str p.1, .str (Txt.mul (Str.ofString "x") (i : Int) ++ b), .str s2, .str s3]) (.int (x % 4)) = .ok (.str o) := by
          rw [eq]
          have hq' : q < 4 := by omega
          match q, hq' with
          | 0, _ => exact ⟨_, wp.1, ixL_of (atI_nat (j := 0) rfl)⟩
          | 1, _ => exact ⟨_, (gm.app gb).mono (by omega), ixL_of (atI_nat (j := 1) rfl)⟩
          | 2, _ => exact ⟨_, g2.mono (by omega), ixL_of (atI_nat (j := 2) rfl)⟩
          | 3, _ => exact ⟨_, g3.mono (by omega), ixL_of (atI_nat (j := 3) rfl)⟩
        obtain ⟨o, go, ho⟩ := pick
        have v : e2 ixD (eNew (nLst (aCons (eVar 6) (aCons (e2 dAdd (e2 dMul (eC (.str (Str.ofString "x"))) (eVar 5)) (eVar 3)) (aCons (e2 ixD (eC (.str (Str.ofString "abcxyz"))) (eVar 5)) (aCons (e2 ixD (eNew (nLst (aCons (eC (.str (Str.ofString "xa"))) (aCons (eC (.str (Str.ofString "xxa"))) (aCons (eC (.str (Str.ofString "xb"))) (aCons (eC (.str (Str.ofString "a"))) (aCons (eC (.str (Str.ofString "xx"))) (aCons (eC (.str (Str.ofString "x"))) aNil)))))))) (eVar 5)) aNil)))))) (e2 dMod (eVar 2) (eC (.int 4))) (stEnv (.val (.int cell)) (.val (.lst (ins.map inR))) (.val (.int x)) (.val (.str b)) (.bld (ins'.map inR)) (.val (.int i)) (.val (.str p.1)) (.val (.int p.2)) a8) = .ok (.str o) := by
          refine L2.e2_ok (eNew_ok (nLst_ok (aCons_ok rfl (aCons_ok (L2.e2_ok (L2.e2_ok rfl rfl (mulS_ok (by omega) (by omega) (by rw [lx]; omega))) rfl (addS_ok (by omega))) (aCons_ok (L2.e2_ok rfl rfl ee2) (aCons_ok (L2.e2_ok (eNew_ok (nLst_ok rfl (by show 6 ≤ sizeLine; omega))) rfl e3) rfl)))) (by show 4 ≤ sizeLine; omega))) (L2.e2_ok rfl rfl (mod_ok (by omega))) ho
        have ht : gTupD 2 (gConsD (gNameD 5) (gConsD (gTupD 2 (gConsD (gNameD 6) (gConsD (gNameD 7) gNilD))) gNilD)) (D.tup [.int (i : Int), inR p]) (stEnv (.val (.int cell)) (.val (.lst (ins.map inR))) (.val (.int x)) (.val (.str b)) (.bld (ins'.map inR)) a5 a6 a7 a8) =
          .ok (stEnv (.val (.int cell)) (.val (.lst (ins.map inR))) (.val (.int x)) (.val (.str b)) (.bld (ins'.map inR)) (.val (.int i)) (.val (.str p.1)) (.val (.int p.2)) a8) := rfl
        have hbody : B_law_strange_ins_0 (stEnv (.val (.int cell)) (.val (.lst (ins.map inR))) (.val (.int x)) (.val (.str b)) (.bld (ins'.map inR)) (.val (.int i)) (.val (.str p.1)) (.val (.int p.2)) a8) =
            .ok (.nx (stEnv (.val (.int cell)) (.val (.lst (ins.map inR))) (.val (.int x)) (.val (.str b)) (.bld (ins'.map inR ++ [inR (o, p.2)])) (.val (.int i)) (.val (.str p.1)) (.val (.int p.2)) (.val (.str o)))) := by
          unfold B_law_strange_ins_0
          exact sSeq_ok (sSet_ok v (by show 8 < 9; omega)) (sApp_ok (d := inR (o, p.2)) (ds := ins'.map inR) (eTup_ok (aCons_ok rfl (aCons_ok rfl rfl)) (by show 2 ≤ sizeLine; omega)) rfl (by rw [List.length_map]; omega))
        refine ⟨_, by rw [ht, R.ok_bind]; exact hbody,
          ins' ++ [(o, p.2)], .val (.int i), .val (.str p.1), .val (.int p.2), .val (.str o), ?_, by rw [List.length_append, hl']; rfl, fun r hr => ?_, ?_⟩
        · rw [List.map_append]; rfl
        · rcases List.mem_append.mp hr with z | z
          · exact hok r z
          · rw [List.mem_singleton] at z
            subst z
            exact ⟨go, wp.2⟩
        · unfold sumw at hsum ⊢
          rw [List.map_append, List.sum_append, hsum, List.take_add_one, e, List.map_append, List.sum_append]
          rfl)
  have hle : (enumD (ins.map inR)).length = ins.length := by unfold enumD; simp
  rw [hle] at hlen hsum
  rw [List.take_of_length_le (Nat.le_refl _)] at hsum
  refine ⟨ins', fnD_ok ?_, ⟨by have := w.lo; omega, by have := w.hi; omega, hok⟩, hsum⟩
  refine sSeq_ok (sSet_ok (eCall_ok (aCons_ok rfl (aCons_ok rfl rfl)) hs) (by show 2 < 9; omega)) (sSeq_ok (sSet_ok (L2.e2_ok (eNew_ok (nLst_ok rfl (by show 6 ≤ sizeLine; omega))) (L2.e2_ok (L2.e2_ok rfl rfl (fdiv_ok (by omega) (by omega))) rfl (mod_ok (by omega))) (by rw [ej]; exact hb)) (by show 3 < 9; omega)) (sSeq_ok (sBld_ok (nLst_ok rfl (by show 0 ≤ sizeLine; omega)) (by show 4 < 9; omega)) (sSeq_ok (sFor_ok (itE_ok rfl) h1') (sRet_ok rfl))))
end K6

end
section
set_option maxRecDepth 100000
set_option maxHeartbeats 1000000
namespace K6
open PySem PySem.Spec PyProof.Rows L2
theorem while_ok {c : DEnv → R Bool} {body : FS} : ∀ (m : Nat) (E : Nat → DEnv) (fuel : Nat), m < fuel → (∀ i, i < m → c (E i) = .ok true) → c (E m) = .ok false → (∀ i, i < m → body (E i) = .ok (.nx (E (i + 1)))) → sWhile fuel c body (E 0) = .ok (.nx (E m))
  | m, E, 0, hf, _, _, _ => by omega
  | 0, E, fuel + 1, hf, h1, h2, h3 => by
    unfold sWhile whileD
    rw [h2]
    rfl
  | m + 1, E, fuel + 1, hf, h1, h2, h3 => by
    unfold sWhile whileD
    rw [h1 0 (by omega), R.ok_bind, if_pos rfl, h3 0 (by omega), R.ok_bind]
    exact while_ok m (fun i => E (i + 1)) fuel (by omega) (fun i hi => h1 (i + 1) (by omega)) h2 (fun i hi => h3 (i + 1) (by omega))
theorem bOr_f {f g : DEnv → R Bool} {δ : DEnv} {r : R Bool} (h : f δ = .ok false) (h2 : g δ = r) : bOr f g δ = r := by unfold bOr; rw [h, R.ok_bind]; exact h2
abbrev XS : Str := Str.ofString "x"
def xs (b : Str) : Nat → Str
  | 0 => b
  | n + 1 => XS ++ xs b n
def baseOf (p : Nat) : Str := if p < 26 then letAt p else letAt ((p / 26 : Nat) : Int) ++ letAt ((p % 26 : Nat) : Int)
theorem xs_len (b : Str) : ∀ n, (xs b n).length = n + b.length
  | 0 => by show b.length = _; omega
  | n + 1 => by
    show (XS ++ xs b n).length = _
    rw [Str.length_append, xs_len b n, show XS.length = 1 from by decide +kernel]
    omega
theorem xs_gd {k : Nat} {b : Str} (h : Gd k b) : ∀ n, Gd (n + k) (xs b n)
  | 0 => h.mono (by omega)
  | n + 1 => (((⟨by decide +kernel, by decide +kernel⟩ : Gd 1 XS)).app (xs_gd h n)).mono (by omega)
theorem base_gd (p : Nat) (h : p < 60) : Gd 2 (baseOf p) := by
  unfold baseOf
  split
  · exact (let_gd (by omega) (by omega)).mono (by omega)
  · exact (let_gd (by omega) (by omega)).app (let_gd (by omega) (by omega))
theorem xs_first (b : Str) (ss : List Str) : ∀ k : Nat, (∀ i, i < k → xs b i ∈ ss) ∨ ∃ m, m < k ∧ xs b m ∉ ss ∧ ∀ i, i < m → xs b i ∈ ss
  | 0 => .inl fun i hi => by omega
  | k + 1 => by
    rcases xs_first b ss k with h | ⟨m, h1, h2, h3⟩
    · by_cases q : xs b k ∈ ss
      · exact .inl fun i hi => by
          rcases Nat.lt_succ_iff_lt_or_eq.mp hi with z | z
          · exact h i z
          · subst z; exact q
      · exact .inr ⟨k, by omega, q, h⟩
    · exact .inr ⟨m, by omega, h2, h3⟩
theorem xs_free (b : Str) (ss : List Str) (h : ss.length ≤ 6) : ∃ m, m < 7 ∧ xs b m ∉ ss ∧ ∀ i, i < m → xs b i ∈ ss := by
  rcases xs_first b ss 7 with h7 | h7
  · exfalso
    have nd : ((List.range 7).map (xs b)).Nodup := by
      rw [List.nodup_iff_pairwise_ne, List.pairwise_map]
      refine List.Pairwise.imp (fun {x y} hxy e => hxy ?_) (List.nodup_range (n := 7))
      have := congrArg Str.length e
      rw [xs_len, xs_len] at this
      omega
    have := pigeon ((List.range 7).map (xs b)) ss nd (fun x hx => by
      obtain ⟨i, hi, rfl⟩ := List.mem_map.mp hx
      exact h7 i (List.mem_range.mp hi))
    rw [List.length_map, List.length_range] at this
    omega
  · exact h7
theorem bars_no : ∀ p : Fin 60, ∀ i : Fin 7, BARS.contains (xs (baseOf p.1) i.1) = false := by decide +kernel
theorem in_l (x : Str) (ss : List Str) : dIn (.str x) (.lst (ss.map .str)) = .ok (.bl (ss.contains x)) := by
  unfold dIn inD
  simp only [L2.strs_map]
  rfl
theorem in_b (x : Str) : dIn (.str x) g_BARRED = .ok (.bl (BARS.contains x)) := by
  have : g_BARRED = .tup (BARS.map .str) := rfl
  rw [this]
  unfold dIn inD
  simp only [L2.strs_map]
  rfl
theorem gmod {p : Nat} {f : FD} {δ : DEnv} (h : f δ = .ok (.int p)) : e2 ixD (eC g_LETTERS) (e2 dMod f (eCall cLen (aCons (eC g_LETTERS) aNil))) δ = .ok (.str (letAt ((p % 26 : Nat) : Int))) := by
  have hz : sizeLine = 16777216 := sizeLine_eq
  refine e2_ok (b := .int ((p % 26 : Nat) : Int)) rfl (e2_ok (b := .int 26) h (eCall_ok (aCons_ok rfl rfl) (by rw [show g_LETTERS = .str LET from rfl, len_str _ (by rw [LET_len]; omega), LET_len]; rfl)) (by rw [mod_ok (by omega)]; rfl)) (let_ix (by omega) (by omega))
theorem gdiv {p : Nat} {f : FD} {δ : DEnv} (h : f δ = .ok (.int p)) : e2 dFdiv f (eCall cLen (aCons (eC g_LETTERS) aNil)) δ = .ok (.int ((p / 26 : Nat) : Int)) := by
  have hz : sizeLine = 16777216 := sizeLine_eq
  exact e2_ok (b := .int 26) h (eCall_ok (aCons_ok rfl rfl) (by rw [show g_LETTERS = .str LET from rfl, len_str _ (by rw [LET_len]; omega), LET_len]; rfl)) (by rw [fdiv_ok (by omega) (by omega)]; rfl)
theorem letters_ok (p : Nat) (hp : p < 60) : d_letters_of [.int p] = .ok (.str (baseOf p)) := by
  have hz : sizeLine = 16777216 := sizeLine_eq
  refine fnD_ok (sSeq_ok (sSet_ok (gmod rfl) (by show 1 < 3; omega)) (sSeq_ok (sSet_ok (gdiv rfl) (by show 2 < 3; omega)) ?_))
  by_cases h : p < 26
  · have h0 : p / 26 = 0 := by omega
    have h1 : p % 26 = p := by omega
    refine sSeq_ok (δ1 := [.val (.int p), .val (.str (letAt p)), .val (.int 0)]) ?_ (sRet_ok (by show R.ok (D.str (letAt p)) = _; unfold baseOf; rw [if_pos h]))
    rw [h0, h1]
    exact while_ok 0 (fun _ => [.val (.int p), .val (.str (letAt p)), .val (.int 0)]) 1000 (by omega) (fun i hi => by omega) (b2_ok rfl rfl rfl) (fun i hi => by omega)
  · have h3 : 0 < p / 26 := by omega
    have h4 : p / 26 < 26 := by omega
    have h5 : p / 26 % 26 = p / 26 := by omega
    have h6 : p / 26 / 26 = 0 := by omega
    refine sSeq_ok (δ1 := [.val (.int p), .val (.str (baseOf p)), .val (.int 0)]) ?_ (sRet_ok rfl)
    refine while_ok 1 (fun n => match n with | 0 => [.val (.int p), .val (.str (letAt ((p % 26 : Nat) : Int))), .val (.int ((p / 26 : Nat) : Int))] | _ => [.val (.int p), .val (.str (baseOf p)), .val (.int 0)]) 1000 (by omega) (fun i hi => ?_) (b2_ok rfl rfl rfl) (fun i hi => ?_)
    · have : i = 0 := by omega
      subst this
      exact b2_ok rfl rfl (by show R.ok (D.bl (decide (((p / 26 : Nat) : Int) > 0))) = _; rw [decide_eq_true (by omega)])
    · have : i = 0 := by omega
      subst this
      refine sSeq_ok (sSet_ok (e2_ok (gmod rfl) rfl (addS_ok (by have := (let_gd (i := ((p / 26 % 26 : Nat) : Int)) (by omega) (by omega)).len; have := (let_gd (i := ((p % 26 : Nat) : Int)) (by omega) (by omega)).len; omega))) (by show 1 < 3; omega)) ?_
      have := sSet_ok (i := 2) (δ := [.val (.int p), .val (.str (letAt ((p / 26 % 26 : Nat) : Int) ++ letAt ((p % 26 : Nat) : Int))), .val (.int ((p / 26 : Nat) : Int))]) (gdiv (p := p / 26) (f := eVar 2) rfl) (by show 2 < 3; omega)
      rw [h6] at this
      rw [h5] at this ⊢
      refine Eq.trans this ?_
      show R.ok (Out.nx [_, .val (.str _), _]) = R.ok (Out.nx [_, .val (.str (baseOf p)), _])
      unfold baseOf
      rw [if_neg h]
      rfl
theorem gate_name_ok (p : Nat) (hp : p < 60) (ss : List Str) (hs : ss.length ≤ 6) : ∃ w, Gd 60 w ∧ d_gate_name [.int p, .lst (ss.map .str)] = .ok (.str w) ∧ d_law_gate_name [.int p, .lst (ss.map .str)] = .ok (.str w) := by
  have hz : sizeLine = 16777216 := sizeLine_eq
  obtain ⟨m, hm, h1, h2⟩ := xs_free (baseOf p) ss hs
  have gb := base_gd p hp
  have x1 : XS.length = 1 := by decide +kernel
  have adx : ∀ i, i < 7 → dAdd (.str XS) (.str (xs (baseOf p) i)) = .ok (.str (xs (baseOf p) (i + 1))) := fun i hi => addS_ok (by have := (xs_gd gb i).len; omega)
  refine ⟨xs (baseOf p) m, (xs_gd gb m).mono (by omega), fnD_ok ?_, fnD_ok ?_⟩
  · refine sSeq_ok (sSet_ok (eCall_ok (aCons_ok rfl rfl) (letters_ok p hp)) (by show 2 < 3; omega)) (sSeq_ok (δ1 := [.val (.int p), .val (.lst (ss.map .str)), .val (.str (xs (baseOf p) m))]) ?_ (sRet_ok rfl))
    have cond : ∀ i, i < 7 → (bOr (b2 dIn (eVar 2) (eC g_BARRED)) (b2 dIn (eVar 2) (eVar 1))) [.val (.int p), .val (.lst (ss.map .str)), .val (.str (xs (baseOf p) i))] = .ok (ss.contains (xs (baseOf p) i)) := fun i hi =>
      bOr_f (b2_ok rfl rfl (by rw [in_b, bars_no ⟨p, hp⟩ ⟨i, hi⟩])) (b2_ok rfl rfl (in_l _ _))
    exact while_ok m (fun i => [.val (.int p), .val (.lst (ss.map .str)), .val (.str (xs (baseOf p) i))]) 1000 (by omega) (fun i hi => by rw [cond i (by omega)]; simp [h2 i hi]) (by show (bOr _ _) _ = _; rw [cond m hm]; simp [h1]) (fun i hi => sSet_ok (e2_ok rfl rfl (adx i (by omega))) (by show 2 < 3; omega))
  · refine sSeq_ok (sSet_ok rfl (by show 2 < 4; omega)) (sSeq_ok (sSet_ok (e2_ok (b := .int ((p % 26 : Nat) : Int)) rfl (e2_ok rfl rfl (by rw [mod_ok (by omega)]; rfl)) (let_ix (by omega) (by omega))) (by show 3 < 4; omega)) ?_)
    refine sSeq_ok (δ1 := [.val (.int p), .val (.lst (ss.map .str)), .val (.str LET), .val (.str (xs (baseOf p) 0))]) ?_ (sSeq_ok (δ1 := [.val (.int p), .val (.lst (ss.map .str)), .val (.str LET), .val (.str (xs (baseOf p) m))]) ?_ (sRet_ok rfl))
    · by_cases h : p < 26
      · refine sIf_f (b2_ok rfl rfl (by show R.ok (D.bl (decide ((p : Int) > 25))) = _; rw [decide_eq_false (by omega)])) ?_
        show R.ok (Out.nx [_, _, _, .val (.str (letAt _))]) = R.ok (Out.nx [_, _, _, .val (.str (baseOf p))])
        unfold baseOf
        rw [if_pos h, Nat.mod_eq_of_lt h]
      · refine sIf_t (b2_ok rfl rfl (by show R.ok (D.bl (decide ((p : Int) > 25))) = _; rw [decide_eq_true (by omega)])) ?_
        refine Eq.trans (sSet_ok (e2_ok (e2_ok (b := .int ((p / 26 : Nat) : Int)) rfl (e2_ok rfl rfl (by rw [fdiv_ok (by omega) (by omega)]; rfl)) (let_ix (by omega) (by omega))) rfl (addS_ok (by have := (let_gd (i := ((p / 26 : Nat) : Int)) (by omega) (by omega)).len; have := (let_gd (i := ((p % 26 : Nat) : Int)) (by omega) (by omega)).len; omega))) (by show 3 < 4; omega)) ?_
        show R.ok (Out.nx [_, _, _, .val (.str _)]) = R.ok (Out.nx [_, _, _, .val (.str (baseOf p))])
        unfold baseOf
        rw [if_neg h]
    · have cond : ∀ i, (b2 dIn (eVar 3) (eVar 1)) [.val (.int p), .val (.lst (ss.map .str)), .val (.str LET), .val (.str (xs (baseOf p) i))] = .ok (ss.contains (xs (baseOf p) i)) := fun i => b2_ok rfl rfl (in_l _ _)
      exact while_ok m (fun i => [.val (.int p), .val (.lst (ss.map .str)), .val (.str LET), .val (.str (xs (baseOf p) i))]) 1000 (by omega) (fun i hi => by rw [cond i]; simp [h2 i hi]) (by show (b2 _ _ _) _ = _; rw [cond m]; simp [h1]) (fun i hi => sSet_ok (e2_ok rfl rfl (adx i (by omega))) (by show 3 < 4; omega))
end K6

end
section
set_option maxRecDepth 100000
set_option maxHeartbeats 1000000
namespace K6
open PySem PySem.Spec PyProof.Rows L2
def inw (n : Str) (w : Int) : List Str := if w = 1 then [n] else if w = 2 then [n ++ Str.ofString ":0", n ++ Str.ofString ":1"] else [n ++ Str.ofString ":0", n ++ Str.ofString ":1", n ++ Str.ofString ":2"]
theorem inw_len {n : Str} {w : Int} (h1 : 1 ≤ w) (h3 : w ≤ 3) : ((inw n w).length : Int) = w := by
  unfold inw
  split
  · simp; omega
  · split
    · simp; omega
    · simp; omega
theorem inw_gd {n : Str} {w : Int} (h : Gd 60 n) : ∀ s ∈ inw n w, Gd 62 s := by
  have g0 : Gd 2 (Str.ofString ":0") := ⟨by decide +kernel, by decide +kernel⟩
  have g1 : Gd 2 (Str.ofString ":1") := ⟨by decide +kernel, by decide +kernel⟩
  have g2 : Gd 2 (Str.ofString ":2") := ⟨by decide +kernel, by decide +kernel⟩
  intro s hs
  unfold inw at hs
  split at hs
  · simp only [List.mem_cons, List.not_mem_nil, or_false] at hs; subst hs; exact h.mono (by omega)
  · split at hs
    · simp only [List.mem_cons, List.not_mem_nil, or_false] at hs
      rcases hs with rfl | rfl
      · exact h.app g0
      · exact h.app g1
    · simp only [List.mem_cons, List.not_mem_nil, or_false] at hs
      rcases hs with rfl | rfl | rfl
      · exact h.app g0
      · exact h.app g1
      · exact h.app g2
theorem fig (n : Str) (h : Gd 60 n) (j : Nat) (hj : j < 3) : eJoined (jCons (eFmt (eVar 1)) (jCons (eC (.str (Str.ofString ":"))) (jCons (eFmt (eVar 0)) jNil))) [.val (.int (j : Int)), .val (.str n)] = .ok (.str (n ++ Str.ofString (":" ++ toString j))) := by
  have hz : sizeLine = 16777216 := sizeLine_eq
  have hl := h.len
  have c1 : Gd 1 (Str.ofString ":") := ⟨by decide +kernel, by decide +kernel⟩
  have cj : Gd 1 ((toString (j : Int) : String) : Str) ∧ Str.ofString ":" ++ ((toString (j : Int) : String) : Str) = Str.ofString (":" ++ toString j) ∧ (j : Int).natAbs.log2 < 1920 := by
    match j, hj with
    | 0, _ => exact ⟨⟨by decide +kernel, by decide +kernel⟩, by decide +kernel, by decide +kernel⟩
    | 1, _ => exact ⟨⟨by decide +kernel, by decide +kernel⟩, by decide +kernel, by decide +kernel⟩
    | 2, _ => exact ⟨⟨by decide +kernel, by decide +kernel⟩, by decide +kernel, by decide +kernel⟩
  obtain ⟨g, e, l⟩ := cj
  refine Eq.trans (eJoined_ok (jCons_ok (eFmtS_ok rfl (by omega)) (jCons_ok rfl (jCons_ok (eFmtI_ok rfl l) rfl))) ?_) ?_
  · show (Str.empty ++ n ++ Str.ofString ":" ++ _).length ≤ _
    rw [empty_app, Str.length_append, Str.length_append]
    have := c1.len
    have := g.len
    omega
  · show R.ok (D.str (Str.empty ++ n ++ Str.ofString ":" ++ _)) = _
    rw [empty_app, str_assoc, e]
theorem in_wires_ok (n : Str) (w : Int) (h : Gd 60 n) (h1 : 1 ≤ w) (h3 : w ≤ 3) : d_in_wires [.str n, .int w] = .ok (.lst ((inw n w).map .str)) := by
  have hz : sizeLine = 16777216 := sizeLine_eq
  have two : ∀ k : Nat, k < 4 → k ≠ 1 → d_in_wires [.str n, .int (k : Int)] = .ok (.lst ((List.range k).map fun j => .str (n ++ Str.ofString (":" ++ toString j)))) := fun k hk hk1 => by
    refine fnD_ok (sSeq_ok (δ1 := [.val (.str n), .val (.int (k : Int))]) (sIf_f (b2_ok rfl rfl (by show R.ok (D.bl (decide ((k : Int) = 1))) = _; rw [decide_eq_false (by omega)])) rfl) (sRet_ok (eNew_ok (nComp_ok (rng1_ok rfl (by omega)) (by rw [rng_len]; omega) ?_))))
    have : ∀ k : Nat, k < 4 → compL (gNameD 0) cYes (eJoined (jCons (eFmt (eVar 1)) (jCons (eC (.str (Str.ofString ":"))) (jCons (eFmt (eVar 0)) jNil)))) [.un, .val (.str n)] (rngD 0 k) = .ok ((List.range k).map fun j => D.str (n ++ Str.ofString (":" ++ toString j))) := fun k hk => by
      have hr : rngD 0 k = (List.range k).map fun j : Nat => D.int (j : Int) := by
        match k, hk with
        | 0, _ => rfl
        | 1, _ => rfl
        | 2, _ => rfl
        | 3, _ => rfl
      have e0 : (List.range k).map (fun j => D.str (n ++ Str.ofString (":" ++ toString j))) = ((List.range k).map fun j : Nat => D.int (j : Int)).map (fun d => match d with | .int i => D.str (n ++ Str.ofString (":" ++ toString i.toNat)) | _ => .non) := by rw [List.map_map]; rfl
      rw [hr, e0]
      refine compL_map _ fun d hd => ?_
      obtain ⟨j, hj, rfl⟩ := List.mem_map.mp hd
      rw [List.mem_range] at hj
      exact ⟨[.val (.int (j : Int)), .val (.str n)], rfl, rfl, fig n h j (by omega)⟩
    exact this k hk
  have : w = 1 ∨ w = 2 ∨ w = 3 := by omega
  rcases this with rfl | rfl | rfl
  · exact fnD_ok (by
      unfold F_in_wires sSeq
      rw [sIf_t (r := .ok (.rt (.lst [.str n]))) (b2_ok rfl rfl rfl) (sRet_ok (eNew_ok (nLst_ok (aCons_ok rfl rfl) (by show 1 ≤ sizeLine; omega))))]
      rfl)
  · exact two 2 (by omega) (by omega)
  · exact two 3 (by omega) (by omega)
/-! the law's words -/
def words (ins : List (Str × Int)) : List Str := ins.flatMap fun p => inw p.1 p.2
theorem words_len : ∀ {ins : List (Str × Int)}, (∀ p ∈ ins, Gd 60 p.1 ∧ 1 ≤ p.2 ∧ p.2 ≤ 3) → ((words ins).length : Int) = sumw ins
  | [], _ => rfl
  | p :: r, h => by
    have ih := words_len (ins := r) fun q hq => h q (List.mem_cons_of_mem _ hq)
    have h1 := h p List.mem_cons_self
    have h2 := inw_len (n := p.1) h1.2.1 h1.2.2
    show ((inw p.1 p.2 ++ words r).length : Int) = _
    unfold sumw at ih ⊢
    rw [List.length_append, List.map_cons, List.sum_cons]
    omega
theorem words_gd {ins : List (Str × Int)} (h : ∀ p ∈ ins, Gd 60 p.1 ∧ 1 ≤ p.2 ∧ p.2 ≤ 3) : ∀ s ∈ words ins, Gd 62 s := fun s hs => by
  obtain ⟨p, hp, h2⟩ := List.mem_flatMap.mp hs
  exact inw_gd (h p hp).1 s h2
theorem words_take (ins : List (Str × Int)) {i : Nat} {p : Str × Int} (h : ins[i]? = some p) : words (ins.take (i + 1)) = words (ins.take i) ++ inw p.1 p.2 := by
  unfold words
  rw [List.take_add_one, h, List.flatMap_append]
  simp
theorem words_take_len {ins : List (Str × Int)} (w : WIns ins) (i : Nat) : (words (ins.take i)).length ≤ 18 := by
  have h := words_len (ins := ins.take i) fun p hp => w.ok p (List.mem_of_mem_take hp)
  have : ∀ l : List (Str × Int), (∀ p ∈ l, p.2 ≤ 3) → sumw l ≤ 3 * l.length := by
    intro l
    induction l with
    | nil => intro _; decide
    | cons p r ih =>
      intro hh
      have := ih fun q hq => hh q (List.mem_cons_of_mem _ hq)
      have h0 := hh p List.mem_cons_self
      unfold sumw at this ⊢
      rw [List.map_cons, List.sum_cons, List.length_cons]
      omega
  have h2 := this (ins.take i) fun p hp => (w.ok p (List.mem_of_mem_take hp)).2.2
  rw [List.length_take] at h2
  have := w.hi
  omega
theorem cutL3 (a b c : D) (w : Int) (h1 : 1 < w) (h3 : w ≤ 3) : slD (.lst [a, b, c]) none (some w) = .ok (.lst (if w = 2 then [a, b] else [a, b, c])) := by
  have : w = 2 ∨ w = 3 := by omega
  rcases this with rfl | rfl <;> rfl
theorem law_words_ok (ins : List (Str × Int)) (w : WIns ins) (gn : List Str) (hg : gn.length ≤ 60) : d_law_words [.lst (ins.map inR), .lst (gn.map .str)] = .ok (.lst ((words ins ++ gn).map .str)) := by
  have hz : sizeLine = 16777216 := sizeLine_eq
  have h0 : Gd 2 (Str.ofString ":0") := ⟨by decide +kernel, by decide +kernel⟩
  have h1 : Gd 2 (Str.ofString ":1") := ⟨by decide +kernel, by decide +kernel⟩
  have h2 : Gd 2 (Str.ofString ":2") := ⟨by decide +kernel, by decide +kernel⟩
  obtain ⟨δ', lp, a, b, rfl⟩ := loopD_inv (t := gTupD 2 (gConsD (gNameD 3) (gConsD (gNameD 4) gNilD))) (body := B_law_words_0) (ds := ins.map inR)
    (fun i δ => ∃ a b, δ = [.val (.lst (ins.map inR)), .val (.lst (gn.map .str)), .val (.lst ((words (ins.take i)).map .str)), a, b])
    (δ := [.val (.lst (ins.map inR)), .val (.lst (gn.map .str)), .val (.lst []), .un, .un]) ⟨_, _, rfl⟩ (by
      rintro i dd δ hd ⟨a, b, rfl⟩
      rw [List.getElem?_map] at hd
      cases e : ins[i]? with
      | none => rw [e] at hd; cases hd
      | some p =>
        rw [e] at hd
        cases hd
        have hp := w.ok p (List.mem_of_getElem? e)
        have hl := hp.1.len
        have l0 := h0.len
        have l1 := h1.len
        have l2 := h2.len
        have wl := words_take_len w i
        have il := inw_len (n := p.1) hp.2.1 hp.2.2
        rw [words_take ins e]
        refine ⟨_, ?_, .val (.str p.1), .val (.int p.2), rfl⟩
        show (B_law_words_0 [.val (.lst (ins.map inR)), .val (.lst (gn.map .str)), .val (.lst ((words (ins.take i)).map .str)), .val (.str p.1), .val (.int p.2)]) = .ok (.nx [.val (.lst (ins.map inR)), .val (.lst (gn.map .str)), .val (.lst ((words (ins.take i) ++ inw p.1 p.2).map .str)), .val (.str p.1), .val (.int p.2)])
        rw [List.map_append]
        refine sSet_ok (e2_ok (b := .lst ((inw p.1 p.2).map .str)) rfl ?_ (addL_ok (by rw [List.length_map, List.length_map]; omega))) (by show 2 < 5; omega)
        have big : eSl (eNew (nLst (aCons (e2 dAdd (eVar 3) (eC (.str (Str.ofString ":0")))) (aCons (e2 dAdd (eVar 3) (eC (.str (Str.ofString ":1")))) (aCons (e2 dAdd (eVar 3) (eC (.str (Str.ofString ":2")))) aNil))))) oNone (oSome (eVar 4)) [.val (.lst (ins.map inR)), .val (.lst (gn.map .str)), .val (.lst ((words (ins.take i)).map .str)), .val (.str p.1), .val (.int p.2)] = slD (.lst [.str (p.1 ++ Str.ofString ":0"), .str (p.1 ++ Str.ofString ":1"), .str (p.1 ++ Str.ofString ":2")]) none (some p.2) :=
          eSl_ok (eNew_ok (nLst_ok (aCons_ok (e2_ok rfl rfl (addS_ok (by omega))) (aCons_ok (e2_ok rfl rfl (addS_ok (by omega))) (aCons_ok (e2_ok rfl rfl (addS_ok (by omega))) rfl))) (by show 3 ≤ sizeLine; omega))) rfl (oSome_ok rfl) rfl
        have c1 : eNew (nLst (aCons (eVar 3) aNil)) [.val (.lst (ins.map inR)), .val (.lst (gn.map .str)), .val (.lst ((words (ins.take i)).map .str)), .val (.str p.1), .val (.int p.2)] = .ok (.lst [.str p.1]) := eNew_ok (nLst_ok (aCons_ok rfl rfl) (by show 1 ≤ sizeLine; omega))
        by_cases q : p.2 = 1
        · have s1 : slD (.lst [.str (p.1 ++ Str.ofString ":0"), .str (p.1 ++ Str.ofString ":1"), .str (p.1 ++ Str.ofString ":2")]) none (some p.2) = .ok (.lst [.str (p.1 ++ Str.ofString ":0")]) := by rw [q]; rfl
          rw [s1] at big
          refine e2_ok (b := .int 0) (eNew_ok (nLst_ok (aCons_ok c1 (aCons_ok big rfl)) (by show 2 ≤ sizeLine; omega))) (eCall_ok (aCons_ok (e2_ok rfl rfl (show dGt (.int p.2) (.int 1) = .ok (.bl false) by show R.ok (D.bl (decide (p.2 > 1))) = _; rw [decide_eq_false (by omega)])) rfl) rfl) ?_
          unfold inw
          rw [if_pos q]
          rfl
        · rw [cutL3 _ _ _ p.2 (by omega) (by omega)] at big
          refine e2_ok (b := .int 1) (eNew_ok (nLst_ok (aCons_ok c1 (aCons_ok big rfl)) (by show 2 ≤ sizeLine; omega))) (eCall_ok (aCons_ok (e2_ok rfl rfl (show dGt (.int p.2) (.int 1) = .ok (.bl true) by show R.ok (D.bl (decide (p.2 > 1))) = _; rw [decide_eq_true (by omega)])) rfl) rfl) ?_
          unfold inw
          rw [if_neg q]
          by_cases q2 : p.2 = 2
          · rw [if_pos q2, if_pos q2]; rfl
          · rw [if_neg q2, if_neg q2]; rfl)
  rw [List.length_map, List.take_length] at lp
  refine fnD_ok (sSeq_ok (sSet_ok (eNew_ok (nLst_ok rfl (by show 0 ≤ sizeLine; omega))) (by show 2 < 5; omega)) (sSeq_ok (sFor_ok (itL_ok rfl) lp) (sRet_ok (e2_ok rfl rfl ?_))))
  have := words_take_len w ins.length
  rw [List.take_length] at this
  rw [addL_ok (by rw [List.length_map, List.length_map]; omega), List.map_append]
end K6

end
section
set_option maxRecDepth 100000
set_option maxHeartbeats 1000000
namespace K6
open PySem PySem.Spec PyProof.Rows L2
abbrev SP : Str := Str.ofString " "
theorem sp_gd : Gd 1 SP := ⟨by decide +kernel, by decide +kernel⟩
theorem join_gd {sep : Str} {k n : Nat} (hs : Gd k sep) : ∀ {ss : List Str}, (∀ s ∈ ss, Gd n s) → Gd (ss.length * (n + k)) (Str.join sep ss)
  | [], _ => ⟨by show 0 ≤ _; omega, fun c hc => by cases hc⟩
  | [a], h => (h a List.mem_cons_self).mono (by rw [List.length_singleton]; omega)
  | a :: b :: r, h => by
    have ih := join_gd hs (ss := b :: r) fun s hh => h s (List.mem_cons_of_mem _ hh)
    have : Str.join sep (a :: b :: r) = a ++ sep ++ Str.join sep (b :: r) := rfl
    rw [this]
    refine (((h a List.mem_cons_self).app hs).app ih).mono ?_
    rw [List.length_cons (a := a), Nat.add_mul]
    omega
theorem sum_le {n : Nat} : ∀ {ss : List Str}, (∀ s ∈ ss, Gd n s) → (ss.map (·.length)).sum ≤ ss.length * n
  | [], _ => by simp
  | a :: r, h => by
    have ih := sum_le (ss := r) fun s hh => h s (List.mem_cons_of_mem _ hh)
    have := (h a List.mem_cons_self).len
    rw [List.map_cons, List.sum_cons, List.length_cons, Nat.add_mul]
    omega
theorem join_all {sep : Str} {k n : Nat} (hs : Gd k sep) {ss : List Str} (h : ∀ s ∈ ss, Gd n s) (hl : ss.length * (n + k) ≤ 16777216) : mJoin (.str sep) [.lst (ss.map .str)] = .ok (.str (Str.join sep ss)) := by
  refine join_ok ?_
  have h1 := sum_le h
  have h2 := Nat.mul_le_mul_left ss.length hs.len
  rw [Nat.mul_add] at hl
  omega
def wget (wr : List Str) (x : Int) : Str := wr.getD x.toNat Str.empty
def inrow (p : Str × Int) : Str := Str.join SP [Str.ofString "in", p.1, Str.ofString (toString p.2)]
def rowG (wr : List Str) (nm : Str) (g : Gt) : Str := Str.join SP ([if g.sure then Str.ofString "sure" else Str.ofString "gate", nm, g.kind] ++ g.wires.map (wget wr))
def rowO (wr : List Str) (o : Str × List Int) : Str := Str.join SP ([Str.ofString "out", o.1] ++ o.2.map (wget wr))
theorem wix {wr : List Str} {x : Int} (h0 : 0 ≤ x) (h : x < wr.length) : ixD (.lst (wr.map .str)) (.int x) = .ok (.str (wget wr x)) := by
  have hx : x.toNat < wr.length := by omega
  refine ixL_of ?_
  rw [atI_of h0 (by rw [List.length_map]; omega), List.getElem_map]
  unfold wget
  rw [List.getD_eq_getElem?_getD, List.getElem?_eq_getElem hx]
  rfl
theorem wget_gd {wr : List Str} (h : ∀ s ∈ wr, Gd 62 s) {x : Int} (h0 : 0 ≤ x) (hx : x < wr.length) : Gd 62 (wget wr x) := by
  have hx : x.toNat < wr.length := by omega
  unfold wget
  rw [List.getD_eq_getElem?_getD, List.getElem?_eq_getElem hx]
  exact h _ (List.getElem_mem hx)
theorem wcomp {wr : List Str} {ws : List Int} (h : ∀ x ∈ ws, 0 ≤ x ∧ x < wr.length) : compL (gNameD 0) cYes (e2 ixD (eVar 1) (eVar 0)) [.un, .val (.lst (wr.map .str))] (ws.map .int) = .ok ((ws.map (wget wr)).map .str) := by
  have e0 : (ws.map (wget wr)).map D.str = (ws.map D.int).map (fun d => match d with | .int i => D.str (wget wr i) | _ => .non) := by rw [List.map_map, List.map_map]; rfl
  rw [e0]
  refine compL_map _ fun d hd => ?_
  obtain ⟨x, hx, rfl⟩ := List.mem_map.mp hd
  exact ⟨[.val (.int x), .val (.lst (wr.map .str))], rfl, rfl, e2_ok rfl rfl (wix (h x hx).1 (h x hx).2)⟩
theorem kind_gd : ∀ k ∈ kinds, Gd 4 k := by
  have : ∀ k ∈ kinds, k.length ≤ 4 ∧ ∀ c ∈ k.cps.toList, c < 128 := by decide +kernel
  exact fun k hk => ⟨(this k hk).1, (this k hk).2⟩
theorem wmap_gd {wr : List Str} (hw : ∀ s ∈ wr, Gd 62 s) {ws : List Int} (h : ∀ x ∈ ws, 0 ≤ x ∧ x < wr.length) : ∀ s ∈ ws.map (wget wr), Gd 62 s := fun s hs => by
  obtain ⟨x, hx, rfl⟩ := List.mem_map.mp hs
  exact wget_gd hw (h x hx).1 (h x hx).2
theorem sure_gd (b : Bool) : Gd 62 (if b then Str.ofString "sure" else Str.ofString "gate") := by
  cases b
  · exact ⟨by decide +kernel, by decide +kernel⟩
  · exact ⟨by decide +kernel, by decide +kernel⟩
theorem g_parts {wr : List Str} {nm : Str} {g : Gt} (hw : ∀ s ∈ wr, Gd 62 s) (hn : Gd 60 nm) (hk : g.kind ∈ kinds) (h : ∀ x ∈ g.wires, 0 ≤ x ∧ x < wr.length) : ∀ s ∈ [if g.sure then Str.ofString "sure" else Str.ofString "gate", nm, g.kind] ++ g.wires.map (wget wr), Gd 62 s := fun s hs => by
  rcases List.mem_append.mp hs with z | z
  · simp only [List.mem_cons, List.not_mem_nil, or_false] at z
    rcases z with rfl | rfl | rfl
    · exact sure_gd g.sure
    · exact hn.mono (by omega)
    · exact (kind_gd _ hk).mono (by omega)
  · exact wmap_gd hw h s z
theorem rowG_gd {wr : List Str} {nm : Str} {g : Gt} (hw : ∀ s ∈ wr, Gd 62 s) (hn : Gd 60 nm) (hk : g.kind ∈ kinds) (h3 : g.wires.length ≤ 3) (h : ∀ x ∈ g.wires, 0 ≤ x ∧ x < wr.length) : Gd 400 (rowG wr nm g) :=
  (join_gd sp_gd (g_parts hw hn hk h)).mono (by rw [List.length_append, List.length_map]; show (3 + g.wires.length) * 63 ≤ 400; omega)
theorem rowG_join {wr : List Str} {nm : Str} {g : Gt} (hw : ∀ s ∈ wr, Gd 62 s) (hn : Gd 60 nm) (hk : g.kind ∈ kinds) (h3 : g.wires.length ≤ 3) (h : ∀ x ∈ g.wires, 0 ≤ x ∧ x < wr.length) :
    mJoin (.str SP) [.lst ([.str (if g.sure then Str.ofString "sure" else Str.ofString "gate"), .str nm, .str g.kind] ++ (g.wires.map (wget wr)).map .str)] = .ok (.str (rowG wr nm g)) := by
  have := join_all sp_gd (g_parts (nm := nm) hw hn hk h) (by rw [List.length_append, List.length_map]; show (3 + g.wires.length) * 63 ≤ 16777216; omega)
  rw [List.map_append] at this
  exact this
theorem o_parts {wr : List Str} {o : Str × List Int} (hw : ∀ s ∈ wr, Gd 62 s) (hn : Gd 60 o.1) (h : ∀ x ∈ o.2, 0 ≤ x ∧ x < wr.length) : ∀ s ∈ [Str.ofString "out", o.1] ++ o.2.map (wget wr), Gd 62 s := fun s hs => by
  rcases List.mem_append.mp hs with z | z
  · simp only [List.mem_cons, List.not_mem_nil, or_false] at z
    rcases z with rfl | rfl
    · exact ⟨by decide +kernel, by decide +kernel⟩
    · exact hn.mono (by omega)
  · exact wmap_gd hw h s z
theorem rowO_gd {wr : List Str} {o : Str × List Int} (hw : ∀ s ∈ wr, Gd 62 s) (hn : Gd 60 o.1) (h3 : o.2.length ≤ 3) (h : ∀ x ∈ o.2, 0 ≤ x ∧ x < wr.length) : Gd 400 (rowO wr o) :=
  (join_gd sp_gd (o_parts hw hn h)).mono (by rw [List.length_append, List.length_map]; show (2 + o.2.length) * 63 ≤ 400; omega)
theorem rowO_join {wr : List Str} {o : Str × List Int} (hw : ∀ s ∈ wr, Gd 62 s) (hn : Gd 60 o.1) (h3 : o.2.length ≤ 3) (h : ∀ x ∈ o.2, 0 ≤ x ∧ x < wr.length) :
    mJoin (.str SP) [.lst ([.str (Str.ofString "out"), .str o.1] ++ (o.2.map (wget wr)).map .str)] = .ok (.str (rowO wr o)) := by
  have := join_all sp_gd (o_parts hw hn h) (by rw [List.length_append, List.length_map]; show (2 + o.2.length) * 63 ≤ 16777216; omega)
  rw [List.map_append] at this
  exact this
theorem wid {w : Int} (h1 : 1 ≤ w) (h3 : w ≤ 3) : Gd 1 (Str.ofString (toString w)) ∧ w.natAbs.log2 < 1920 := by
  have : w = 1 ∨ w = 2 ∨ w = 3 := by omega
  rcases this with rfl | rfl | rfl
  · exact ⟨⟨by decide +kernel, by decide +kernel⟩, by decide +kernel⟩
  · exact ⟨⟨by decide +kernel, by decide +kernel⟩, by decide +kernel⟩
  · exact ⟨⟨by decide +kernel, by decide +kernel⟩, by decide +kernel⟩
theorem i_parts {p : Str × Int} (h : Gd 60 p.1 ∧ 1 ≤ p.2 ∧ p.2 ≤ 3) : ∀ s ∈ [Str.ofString "in", p.1, Str.ofString (toString p.2)], Gd 62 s := fun s hs => by
  simp only [List.mem_cons, List.not_mem_nil, or_false] at hs
  rcases hs with rfl | rfl | rfl
  · exact ⟨by decide +kernel, by decide +kernel⟩
  · exact h.1.mono (by omega)
  · exact (wid h.2.1 h.2.2).1.mono (by omega)
theorem inrow_gd {p : Str × Int} (h : Gd 60 p.1 ∧ 1 ≤ p.2 ∧ p.2 ≤ 3) : Gd 400 (inrow p) := (join_gd sp_gd (i_parts h)).mono (by show 3 * 63 ≤ 400; omega)
/-! the rows of the program -/
theorem gate_row_ok {wr : List Str} {nm : Str} {g : Gt} (hw : ∀ s ∈ wr, Gd 62 s) (hn : Gd 60 nm) (hk : g.kind ∈ kinds) (h3 : g.wires.length ≤ 3) (h : ∀ x ∈ g.wires, 0 ≤ x ∧ x < wr.length) : d_gate_row [.str nm, g.d, .lst (wr.map .str)] = .ok (.str (rowG wr nm g)) := by
  have hz : sizeLine = 16777216 := sizeLine_eq
  have hi : eIf (bTru (e2 ixD (eVar 1) (eC (.int 2)))) (eC (.str (Str.ofString "sure"))) (eC (.str (Str.ofString "gate"))) (dStart N_gate_row [.str nm, g.d, .lst (wr.map .str)]) = .ok (.str (if g.sure then Str.ofString "sure" else Str.ofString "gate")) := by
    obtain ⟨k, ws, b⟩ := g
    cases b <;> rfl
  refine fnD_ok (sSeq_ok (sSet_ok hi (by show 3 < 4; omega)) (sRet_ok (eMtS_ok rfl (aCons_ok (e2_ok (a := .lst [.str (if g.sure then Str.ofString "sure" else Str.ofString "gate"), .str nm, .str g.kind]) (eNew_ok (nLst_ok (aCons_ok rfl (aCons_ok rfl (aCons_ok rfl rfl))) (by show 3 ≤ sizeLine; omega))) (eNew_ok (nComp_ok (itT_ok (ds := g.wires.map .int) rfl) (by rw [List.length_map]; omega) (wcomp h))) (addL_ok (by rw [List.length_map, List.length_map]; show 3 + g.wires.length ≤ sizeLine; omega))) rfl) (rowG_join hw hn hk h3 h))))
theorem out_row_ok {wr : List Str} {o : Str × List Int} (hw : ∀ s ∈ wr, Gd 62 s) (hn : Gd 60 o.1) (h3 : o.2.length ≤ 3) (h : ∀ x ∈ o.2, 0 ≤ x ∧ x < wr.length) : d_out_row [ouR o, .lst (wr.map .str)] = .ok (.str (rowO wr o)) := by
  have hz : sizeLine = 16777216 := sizeLine_eq
  exact fnD_ok (sRet_ok (eMtS_ok rfl (aCons_ok (e2_ok (a := .lst [.str (Str.ofString "out"), .str o.1]) (eNew_ok (nLst_ok (aCons_ok rfl (aCons_ok rfl rfl)) (by show 2 ≤ sizeLine; omega))) (eNew_ok (nComp_ok (itT_ok (ds := o.2.map .int) rfl) (by rw [List.length_map]; omega) (wcomp h))) (addL_ok (by rw [List.length_map, List.length_map]; show 2 + o.2.length ≤ sizeLine; omega))) rfl) (rowO_join hw hn h3 h)))
/-! the law's rows -/
abbrev rEnv (x0 x1 x2 x3 x4 x5 x6 x7 x8 x9 x10 x11 x12 : Sl) : DEnv := [x0, x1, x2, x3, x4, x5, x6, x7, x8, x9, x10, x11, x12]
def rowsG (wr gn : List Str) (gs : List Gt) : List Str := List.zipWith (rowG wr) gn gs
theorem enum_get {α : Type} {f : α → D} {xs : List α} {i : Nat} {dd : D} (hd : (enumD (xs.map f))[i]? = some dd) : ∃ x, xs[i]? = some x ∧ dd = .tup [.int (i : Int), f x] := by
  unfold enumD at hd
  rw [List.getElem?_map, List.getElem?_zipIdx, List.getElem?_map] at hd
  cases e : xs[i]? with
  | none => rw [e] at hd; cases hd
  | some p =>
    rw [e] at hd
    have hd : D.tup [.int ((0 + i : Nat) : Int), f p] = dd := Option.some.inj hd
    rw [Nat.zero_add] at hd
    exact ⟨p, rfl, hd.symm⟩
theorem rowsG_get {wr gn : List Str} {gs : List Gt} (hl : gn.length = gs.length) {i : Nat} {g : Gt} (h : gs[i]? = some g) : ∃ nm, gn[i]? = some nm ∧ (rowsG wr gn gs)[i]? = some (rowG wr nm g) := by
  have hi := (List.getElem?_eq_some_iff.mp h).1
  refine ⟨gn[i], List.getElem?_eq_getElem (by omega), ?_⟩
  unfold rowsG
  rw [List.getElem?_zipWith, List.getElem?_eq_getElem (show i < gn.length by omega), h]
structure Good (ins : List (Str × Int)) (gs : List Gt) (os : List (Str × List Int)) (gn : List Str) : Prop where
  wi : WIns ins
  wg : WGates (sumw ins) gs
  wo : WOuts (sumw ins + gs.length) os
  gl : gn.length = gs.length
  gd : ∀ s ∈ gn, Gd 60 s
variable {ins : List (Str × Int)} {gs : List Gt} {os : List (Str × List Int)} {gn : List Str}
theorem Good.wr (G : Good ins gs os gn) : ∀ s ∈ words ins ++ gn, Gd 62 s := fun s hs => by
  rcases List.mem_append.mp hs with z | z
  · exact words_gd G.wi.ok s z
  · exact (G.gd s z).mono (by omega)
theorem Good.len (G : Good ins gs os gn) : ((words ins ++ gn).length : Int) = sumw ins + gs.length := by
  rw [List.length_append, G.gl]
  have := words_len G.wi.ok
  omega
theorem Good.gw (G : Good ins gs os gn) {i : Nat} {g : Gt} (h : gs[i]? = some g) : g.kind ∈ kinds ∧ g.wires.length ≤ 3 ∧ ∀ x ∈ g.wires, 0 ≤ x ∧ x < (words ins ++ gn).length := by
  obtain ⟨h1, h2, h3⟩ := G.wg.ok i g h
  have hi := (List.getElem?_eq_some_iff.mp h).1
  refine ⟨h1, h2, fun x hx => ⟨(h3 x hx).1, ?_⟩⟩
  have := (h3 x hx).2
  have := G.len
  omega
theorem Good.ow (G : Good ins gs os gn) {o : Str × List Int} (h : o ∈ os) : Gd 60 o.1 ∧ o.2.length ≤ 3 ∧ ∀ x ∈ o.2, 0 ≤ x ∧ x < (words ins ++ gn).length := by
  obtain ⟨h1, h2, h3⟩ := G.wo.ok o h
  refine ⟨h1, h2, fun x hx => ⟨(h3 x hx).1, ?_⟩⟩
  have := (h3 x hx).2
  have := G.len
  omega
def allRows (ins : List (Str × Int)) (gs : List Gt) (os : List (Str × List Int)) (gn : List Str) : List Str := ins.map inrow ++ rowsG (words ins ++ gn) gn gs ++ os.map (rowO (words ins ++ gn))
theorem rowsG_len (G : Good ins gs os gn) {wr : List Str} : (rowsG wr gn gs).length = gs.length := by
  unfold rowsG
  rw [List.length_zipWith, G.gl]
  omega
theorem allRows_len (G : Good ins gs os gn) : (allRows ins gs os gn).length ≤ 72 := by
  unfold allRows
  rw [List.length_append, List.length_append, List.length_map, List.length_map, rowsG_len G]
  have := G.wi.hi
  have := G.wg.hi
  have := G.wo.hi
  omega
theorem allRows_gd (G : Good ins gs os gn) : ∀ s ∈ allRows ins gs os gn, Gd 400 s := fun s hs => by
  unfold allRows at hs
  rcases List.mem_append.mp hs with z | z
  · rcases List.mem_append.mp z with z | z
    · obtain ⟨p, hp, rfl⟩ := List.mem_map.mp z
      exact inrow_gd (G.wi.ok p hp)
    · obtain ⟨i, hi⟩ := List.getElem?_of_mem z
      have hl := (List.getElem?_eq_some_iff.mp hi).1
      rw [rowsG_len G] at hl
      obtain ⟨nm, h1, h2⟩ := rowsG_get (wr := words ins ++ gn) G.gl (List.getElem?_eq_getElem hl)
      rw [h2] at hi
      cases hi
      have := G.gw (List.getElem?_eq_getElem hl)
      exact rowG_gd G.wr (G.gd _ (List.mem_of_getElem? h1)) this.1 this.2.1 this.2.2
  · obtain ⟨o, ho, rfl⟩ := List.mem_map.mp z
    have := G.ow ho
    exact rowO_gd G.wr this.1 this.2.1 this.2.2
theorem law_rows_ok (G : Good ins gs os gn) : d_law_rows [netR ins gs os, .lst (gn.map .str)] = .ok (.lst ((allRows ins gs os gn).map .str)) := by
  have hz : sizeLine = 16777216 := sizeLine_eq
  have hi6 := G.wi.hi
  have hg60 := G.wg.hi
  have ho6 := G.wo.hi
  generalize hwr : words ins ++ gn = wr
  have hW : ∀ s ∈ wr, Gd 62 s := hwr ▸ G.wr
  have r1 : compL (gTupD 2 (gConsD (gNameD 0) (gConsD (gNameD 1) gNilD))) cYes (eMt "str" mJoin (eC (.str (Str.ofString " "))) (aCons (eNew (nLst (aCons (eC (.str (Str.ofString "in"))) (aCons (eVar 0) (aCons (eCall cStr (aCons (eVar 1) aNil)) aNil))))) aNil)) [.un, .un] (ins.map inR) = .ok ((ins.map inrow).map .str) := by
    have e0 : (ins.map inrow).map D.str = (ins.map inR).map (fun d => match d with | .tup [.str a, .int b] => .str (inrow (a, b)) | _ => .non) := by rw [List.map_map, List.map_map]; rfl
    rw [e0]
    refine compL_map _ fun d hd => ?_
    obtain ⟨p, hp, rfl⟩ := List.mem_map.mp hd
    have hw := G.wi.ok p hp
    exact ⟨[.val (.str p.1), .val (.int p.2)], rfl, rfl, eMtS_ok rfl (aCons_ok (eNew_ok (nLst_ok (aCons_ok rfl (aCons_ok rfl (aCons_ok (eCall_ok (aCons_ok rfl rfl) (strI_ok (wid hw.2.1 hw.2.2).2)) rfl))) (by show 3 ≤ sizeLine; omega))) rfl) (join_all sp_gd (i_parts hw) (by show 3 * 63 ≤ 16777216; omega))⟩
  obtain ⟨δ1, lp1, a7, a8, a9, a10, a11, rfl⟩ := loopD_inv (t := gTupD 2 (gConsD (gNameD 7) (gConsD (gTupD 3 (gConsD (gNameD 8) (gConsD (gNameD 9) (gConsD (gNameD 10) gNilD)))) gNilD))) (body := B_law_rows_0) (ds := enumD (gs.map Gt.d))
    (fun i δ => ∃ a7 a8 a9 a10 a11, δ = rEnv (.val (netR ins gs os)) (.val (.lst (gn.map .str))) (.val (.lst (ins.map inR))) (.val (.lst (gs.map Gt.d))) (.val (.lst (os.map ouR))) (.val (.lst (wr.map .str))) (.bld ((ins.map inrow ++ (rowsG wr gn gs).take i).map .str)) a7 a8 a9 a10 a11 .un)
    (δ := rEnv (.val (netR ins gs os)) (.val (.lst (gn.map .str))) (.val (.lst (ins.map inR))) (.val (.lst (gs.map Gt.d))) (.val (.lst (os.map ouR))) (.val (.lst (wr.map .str))) (.bld ((ins.map inrow).map .str)) .un .un .un .un .un .un) ⟨_, _, _, _, _, by rw [List.take_zero, List.append_nil]⟩ (by
      rintro i dd δ hd ⟨a7, a8, a9, a10, a11, rfl⟩
      obtain ⟨g, e, rfl⟩ := enum_get hd
      have hi := (List.getElem?_eq_some_iff.mp e).1
      obtain ⟨nm, n1, n2⟩ := rowsG_get (wr := wr) G.gl e
      have hg := G.gw e
      rw [hwr] at hg
      have hnm := G.gd nm (List.mem_of_getElem? n1)
      refine ⟨_, ?_, .val (.int i), .val (.str g.kind), .val (.tup (g.wires.map .int)), .val (.bl g.sure), .val (.lst [.str (if g.sure then Str.ofString "sure" else Str.ofString "gate"), .str nm, .str g.kind]), rfl⟩
      rw [List.take_add_one, n2, ← List.append_assoc, List.map_append (l₁ := ins.map inrow ++ (rowsG wr gn gs).take i)]
      have ix : ixD (.lst (gn.map .str)) (.int i) = .ok (.str nm) := ixL_of (atI_nat (by rw [List.getElem?_map, n1]; rfl))
      have sr : e2 ixD (eNew (nLst (aCons (eC (.str (Str.ofString "gate"))) (aCons (eC (.str (Str.ofString "sure"))) aNil)))) (eCall cInt (aCons (eVar 10) aNil)) (rEnv (.val (netR ins gs os)) (.val (.lst (gn.map .str))) (.val (.lst (ins.map inR))) (.val (.lst (gs.map Gt.d))) (.val (.lst (os.map ouR))) (.val (.lst (wr.map .str))) (.bld ((ins.map inrow ++ (rowsG wr gn gs).take i).map .str)) (.val (.int i)) (.val (.str g.kind)) (.val (.tup (g.wires.map .int))) (.val (.bl g.sure)) a11 .un) = .ok (.str (if g.sure then Str.ofString "sure" else Str.ofString "gate")) := by
        have nl : eNew (nLst (aCons (eC (.str (Str.ofString "gate"))) (aCons (eC (.str (Str.ofString "sure"))) aNil))) (rEnv (.val (netR ins gs os)) (.val (.lst (gn.map .str))) (.val (.lst (ins.map inR))) (.val (.lst (gs.map Gt.d))) (.val (.lst (os.map ouR))) (.val (.lst (wr.map .str))) (.bld ((ins.map inrow ++ (rowsG wr gn gs).take i).map .str)) (.val (.int i)) (.val (.str g.kind)) (.val (.tup (g.wires.map .int))) (.val (.bl g.sure)) a11 .un) = .ok (.lst [.str (Str.ofString "gate"), .str (Str.ofString "sure")]) := eNew_ok (nLst_ok (aCons_ok rfl (aCons_ok rfl rfl)) (by show 2 ≤ sizeLine; omega))
        cases g.sure
        · exact e2_ok (b := .int 0) nl rfl rfl
        · exact e2_ok (b := .int 1) nl rfl rfl
      refine sSeq_ok (δ := rEnv (.val (netR ins gs os)) (.val (.lst (gn.map .str))) (.val (.lst (ins.map inR))) (.val (.lst (gs.map Gt.d))) (.val (.lst (os.map ouR))) (.val (.lst (wr.map .str))) (.bld ((ins.map inrow ++ (rowsG wr gn gs).take i).map .str)) (.val (.int i)) (.val (.str g.kind)) (.val (.tup (g.wires.map .int))) (.val (.bl g.sure)) a11 .un) (sSet_ok (eNew_ok (nLst_ok (aCons_ok sr (aCons_ok (e2_ok rfl rfl ix) (aCons_ok rfl rfl))) (by show 3 ≤ sizeLine; omega))) (by show 11 < 13; omega)) ?_
      exact sApp_ok (d := .str (rowG wr nm g)) (ds := (ins.map inrow ++ (rowsG wr gn gs).take i).map .str) (eMtS_ok rfl (aCons_ok (e2_ok rfl (eNew_ok (nComp_ok (itT_ok (ds := g.wires.map .int) rfl) (by rw [List.length_map]; omega) (wcomp hg.2.2))) (addL_ok (by rw [List.length_map, List.length_map]; show 3 + g.wires.length ≤ sizeLine; omega))) rfl) (rowG_join hW hnm hg.1 hg.2.1 hg.2.2)) rfl (by rw [List.length_map, List.length_append, List.length_map, List.length_take, rowsG_len G]; omega))
  have tl : (enumD (gs.map Gt.d)).length = (rowsG wr gn gs).length := by unfold enumD; rw [List.length_map, List.length_zipIdx, List.length_map, rowsG_len G]
  rw [tl, List.take_length] at lp1
  obtain ⟨δ2, lp2, b9, b12, rfl⟩ := loopD_inv (t := gTupD 2 (gConsD (gNameD 12) (gConsD (gNameD 9) gNilD))) (body := B_law_rows_1) (ds := os.map ouR)
    (fun i δ => ∃ b9 b12, δ = rEnv (.val (netR ins gs os)) (.val (.lst (gn.map .str))) (.val (.lst (ins.map inR))) (.val (.lst (gs.map Gt.d))) (.val (.lst (os.map ouR))) (.val (.lst (wr.map .str))) (.bld ((ins.map inrow ++ rowsG wr gn gs ++ (os.take i).map (rowO wr)).map .str)) a7 a8 b9 a10 a11 b12)
    (δ := rEnv (.val (netR ins gs os)) (.val (.lst (gn.map .str))) (.val (.lst (ins.map inR))) (.val (.lst (gs.map Gt.d))) (.val (.lst (os.map ouR))) (.val (.lst (wr.map .str))) (.bld ((ins.map inrow ++ rowsG wr gn gs).map .str)) a7 a8 a9 a10 a11 .un) ⟨_, _, by rw [List.take_zero, List.map_nil, List.append_nil]⟩ (by
      rintro i dd δ hd ⟨b9, b12, rfl⟩
      rw [List.getElem?_map] at hd
      cases e : os[i]? with
      | none => rw [e] at hd; cases hd
      | some o =>
        rw [e] at hd
        cases hd
        have hi := (List.getElem?_eq_some_iff.mp e).1
        have ho := G.ow (List.mem_of_getElem? e)
        rw [hwr] at ho
        refine ⟨_, ?_, .val (.tup (o.2.map .int)), .val (.str o.1), rfl⟩
        rw [List.take_add_one, e, List.map_append (l₁ := os.take i), ← List.append_assoc, List.map_append (l₁ := ins.map inrow ++ rowsG wr gn gs ++ (os.take i).map (rowO wr))]
        exact sApp_ok (δ := rEnv (.val (netR ins gs os)) (.val (.lst (gn.map .str))) (.val (.lst (ins.map inR))) (.val (.lst (gs.map Gt.d))) (.val (.lst (os.map ouR))) (.val (.lst (wr.map .str))) (.bld ((ins.map inrow ++ rowsG wr gn gs ++ (os.take i).map (rowO wr)).map .str)) a7 a8 (.val (.tup (o.2.map .int))) a10 a11 (.val (.str o.1))) (d := .str (rowO wr o)) (ds := (ins.map inrow ++ rowsG wr gn gs ++ (os.take i).map (rowO wr)).map .str) (eMtS_ok rfl (aCons_ok (e2_ok (a := .lst [.str (Str.ofString "out"), .str o.1]) (eNew_ok (nLst_ok (aCons_ok rfl (aCons_ok rfl rfl)) (by show 2 ≤ sizeLine; omega))) (eNew_ok (nComp_ok (itT_ok (ds := o.2.map .int) rfl) (by rw [List.length_map]; omega) (wcomp ho.2.2))) (addL_ok (by rw [List.length_map, List.length_map]; show 2 + o.2.length ≤ sizeLine; omega))) rfl) (rowO_join hW ho.1 ho.2.1 ho.2.2)) rfl (by rw [List.length_map, List.length_append, List.length_append, List.length_map, List.length_map, List.length_take, rowsG_len G]; omega))
  rw [List.length_map, List.take_length] at lp2
  have hall : allRows ins gs os gn = ins.map inrow ++ rowsG wr gn gs ++ os.map (rowO wr) := by unfold allRows; rw [hwr]
  rw [hall]
  refine fnD_ok (sSeq_ok (δ1 := rEnv (.val (netR ins gs os)) (.val (.lst (gn.map .str))) (.val (.lst (ins.map inR))) (.val (.lst (gs.map Gt.d))) (.val (.lst (os.map ouR))) .un .un .un .un .un .un .un .un) rfl (sSeq_ok (sSet_ok (eCall_ok (aCons_ok rfl (aCons_ok rfl rfl)) (by rw [law_words_ok ins G.wi gn (by rw [G.gl]; omega), hwr])) (by show 5 < 13; omega)) (sSeq_ok (sBld_ok (nComp_ok (itL_ok rfl) (by rw [List.length_map]; omega) r1) (by show 6 < 13; omega)) (sSeq_ok (sFor_ok (itE_ok rfl) lp1) (sSeq_ok (sFor_ok (itL_ok rfl) lp2) ?_)))))
  cases a7 <;> cases a8 <;> cases b9 <;> cases a10 <;> cases a11 <;> cases b12 <;> rfl
end K6

end
section
set_option maxRecDepth 100000
set_option maxHeartbeats 1000000
namespace K6
open PySem PySem.Spec PyProof.Rows L2
variable {ins : List (Str × Int)} {gs : List Gt} {os : List (Str × List Int)} {gn : List Str}
theorem inrow_join {p : Str × Int} (h : Gd 60 p.1 ∧ 1 ≤ p.2 ∧ p.2 ≤ 3) {δ : DEnv} (h4 : eVar 4 δ = .ok (.str p.1)) (h5 : eVar 5 δ = .ok (.int p.2)) : eJoined (jCons (eC (.str (Str.ofString "in "))) (jCons (eFmt (eVar 4)) (jCons (eC (.str (Str.ofString " "))) (jCons (eFmt (eVar 5)) jNil)))) δ = .ok (.str (inrow p)) := by
  have hz : sizeLine = 16777216 := sizeLine_eq
  have hl := h.1.len
  obtain ⟨g, l⟩ := wid h.2.1 h.2.2
  have e : Str.empty ++ Str.ofString "in " ++ p.1 ++ Str.ofString " " ++ Str.ofString (toString p.2) = inrow p := by
    have : inrow p = Str.ofString "in" ++ SP ++ (p.1 ++ SP ++ Str.ofString (toString p.2)) := rfl
    rw [this, empty_app, ← str_assoc, ← str_assoc, show Str.ofString "in" ++ SP = Str.ofString "in " from by decide +kernel]
  refine Eq.trans (eJoined_ok (jCons_ok rfl (jCons_ok (eFmtS_ok h4 (by omega)) (jCons_ok rfl (jCons_ok (eFmtI_ok h5 l) rfl)))) ?_) ?_
  · show (Str.empty ++ Str.ofString "in " ++ p.1 ++ Str.ofString " " ++ Str.ofString (toString p.2)).length ≤ _
    rw [e]
    have := (inrow_gd h).len
    omega
  · show R.ok (D.str (Str.empty ++ Str.ofString "in " ++ p.1 ++ Str.ofString " " ++ Str.ofString (toString p.2))) = _
    rw [e]
theorem wget_take {wr : List Str} {k : Nat} {x : Int} (h0 : 0 ≤ x) (h : x < k) : wget (wr.take k) x = wget wr x := by
  unfold wget
  rw [List.getD_eq_getElem?_getD, List.getD_eq_getElem?_getD, List.getElem?_take_of_lt (by omega)]
theorem rowG_take {wr : List Str} {k : Nat} {nm : Str} {g : Gt} (h : ∀ x ∈ g.wires, 0 ≤ x ∧ x < k) : rowG (wr.take k) nm g = rowG wr nm g := by
  unfold rowG
  rw [List.map_congr_left fun x hx => wget_take (wr := wr) (h x hx).1 (h x hx).2]
theorem names_comp (ins : List (Str × Int)) : compL (gTupD 2 (gConsD (gNameD 0) (gConsD (gNameD 1) gNilD))) cYes (eVar 0) [.un, .un] (ins.map inR) = .ok ((ins.map (·.1)).map .str) := by
  have e0 : (ins.map (·.1)).map D.str = (ins.map inR).map (fun d => match d with | .tup [x, _] => x | _ => .non) := by
    rw [List.map_map, List.map_map]; rfl
  rw [e0]
  refine compL_map _ fun d hd => ?_
  obtain ⟨p, _, rfl⟩ := List.mem_map.mp hd
  exact ⟨[.val (.str p.1), .val (.int p.2)], rfl, rfl, rfl⟩
abbrev sEnv (x0 x1 x2 x3 x4 x5 x6 x7 x8 : Sl) : DEnv := [x0, x1, x2, x3, x4, x5, x6, x7, x8]
abbrev NL : Str := Str.ofString "\n"
theorem nl_gd : Gd 1 NL := ⟨by decide +kernel, by decide +kernel⟩
theorem all_join (G : Good ins gs os gn) : mJoin (.str NL) [.lst ((allRows ins gs os gn).map .str)] = .ok (.str (Str.join NL (allRows ins gs os gn))) :=
  join_all nl_gd (allRows_gd G) (by
    have := allRows_len G
    have := Nat.mul_le_mul_right 401 this
    omega)
theorem shown_ok (G : Good ins gs os gn) (hn : ∀ (i : Nat) (nm : Str), gn[i]? = some nm → d_gate_name [.int i, .lst ((ins.map (·.1)).map .str)] = .ok (.str nm)) : d_shown [netR ins gs os] = .ok (.str (Str.join NL (allRows ins gs os gn))) := by
  have hz : sizeLine = 16777216 := sizeLine_eq
  have hi6 := G.wi.hi
  have hg60 := G.wg.hi
  have ho6 := G.wo.hi
  have wl18 := words_take_len G.wi ins.length
  rw [List.take_length] at wl18
  have hwl := words_len G.wi.ok
  have h0 : ∀ δ : DEnv, δ[0]? = some (.val (netR ins gs os)) → eVar 0 δ = .ok (netR ins gs os) := fun δ h => by unfold eVar; rw [h]
  obtain ⟨δ1, lp1, a4, a5, rfl⟩ := loopD_inv (t := gTupD 2 (gConsD (gNameD 4) (gConsD (gNameD 5) gNilD))) (body := B_shown_0) (ds := ins.map inR)
    (fun i δ => ∃ a4 a5, δ = sEnv (.val (netR ins gs os)) (.val (.lst ((ins.map (·.1)).map .str))) (.bld (((ins.take i).map inrow).map .str)) (.bld ((words (ins.take i)).map .str)) a4 a5 .un .un .un)
    (δ := sEnv (.val (netR ins gs os)) (.val (.lst ((ins.map (·.1)).map .str))) (.bld []) (.bld []) .un .un .un .un .un) ⟨_, _, rfl⟩ (by
      rintro i dd δ hd ⟨a4, a5, rfl⟩
      rw [List.getElem?_map] at hd
      cases e : ins[i]? with
      | none => rw [e] at hd; cases hd
      | some p =>
        rw [e] at hd
        cases hd
        have hp := G.wi.ok p (List.mem_of_getElem? e)
        have wl := words_take_len G.wi i
        have il := inw_len (n := p.1) hp.2.1 hp.2.2
        refine ⟨_, ?_, .val (.str p.1), .val (.int p.2), rfl⟩
        rw [words_take ins e, List.take_add_one, e, List.map_append (l₁ := ins.take i), List.map_append (l₁ := (ins.take i).map inrow), List.map_append (l₁ := words (ins.take i))]
        refine sSeq_ok (δ := sEnv (.val (netR ins gs os)) (.val (.lst ((ins.map (·.1)).map .str))) (.bld (((ins.take i).map inrow).map .str)) (.bld ((words (ins.take i)).map .str)) (.val (.str p.1)) (.val (.int p.2)) .un .un .un) (sApp_ok (i := 2) (d := .str (inrow p)) (ds := ((ins.take i).map inrow).map .str) (inrow_join hp rfl rfl) rfl (by rw [List.length_map, List.length_map, List.length_take]; omega)) ?_
        exact extV_ok (eCall_ok (aCons_ok rfl (aCons_ok rfl rfl)) (in_wires_ok p.1 p.2 hp.1 hp.2.1 hp.2.2)) rfl (by rw [List.length_map, List.length_map]; omega))
  rw [List.length_map, List.take_length] at lp1
  have tk : ∀ i, i ≤ gs.length → (words ins ++ gn).take ((words ins).length + i) = words ins ++ gn.take i := fun i hi => by rw [List.take_length_add_append]
  obtain ⟨δ2, lp2, b4, b6, b7, rfl⟩ := loopD_inv (t := gTupD 2 (gConsD (gNameD 6) (gConsD (gNameD 7) gNilD))) (body := B_shown_1) (ds := enumD (gs.map Gt.d))
    (fun i δ => ∃ b4 b6 b7, δ = sEnv (.val (netR ins gs os)) (.val (.lst ((ins.map (·.1)).map .str))) (.bld ((ins.map inrow ++ (rowsG (words ins ++ gn) gn gs).take i).map .str)) (.bld ((words ins ++ gn.take i).map .str)) b4 a5 b6 b7 .un)
    (δ := sEnv (.val (netR ins gs os)) (.val (.lst ((ins.map (·.1)).map .str))) (.bld ((ins.map inrow).map .str)) (.bld ((words ins).map .str)) a4 a5 .un .un .un) ⟨_, _, _, by rw [List.take_zero, List.take_zero, List.append_nil, List.append_nil]⟩ (by
      rintro i dd δ hd ⟨b4, b6, b7, rfl⟩
      obtain ⟨g, e, rfl⟩ := enum_get hd
      have hi := (List.getElem?_eq_some_iff.mp e).1
      obtain ⟨nm, n1, n2⟩ := rowsG_get (wr := words ins ++ gn) G.gl e
      have hg := G.wg.ok i g e
      have hnm := G.gd nm (List.mem_of_getElem? n1)
      have hx : ∀ x ∈ g.wires, 0 ≤ x ∧ x < (((words ins).length + i : Nat) : Int) := fun x hx => ⟨(hg.2.2 x hx).1, by have := (hg.2.2 x hx).2; omega⟩
      have row : d_gate_row [.str nm, g.d, .lst ((words ins ++ gn.take i).map .str)] = .ok (.str (rowG (words ins ++ gn) nm g)) := by
        rw [← rowG_take hx, tk i (by omega)]
        refine gate_row_ok (fun s hs => ?_) hnm hg.1 hg.2.1 (fun x hxx => ?_)
        · rw [← tk i (by omega)] at hs
          exact G.wr s (List.mem_of_mem_take hs)
        · rw [List.length_append, List.length_take, G.gl]
          have := hx x hxx
          omega
      refine ⟨_, ?_, .val (.str nm), .val (.int i), .val g.d, rfl⟩
      rw [List.take_add_one, n2, List.take_add_one (l := gn), n1, ← List.append_assoc, ← List.append_assoc, List.map_append (l₁ := ins.map inrow ++ (rowsG (words ins ++ gn) gn gs).take i), List.map_append (l₁ := words ins ++ gn.take i)]
      have tw : ∀ c : Sl, eVar 3 (thaw (sEnv (.val (netR ins gs os)) (.val (.lst ((ins.map (·.1)).map .str))) (.bld ((ins.map inrow ++ (rowsG (words ins ++ gn) gn gs).take i).map .str)) (.bld ((words ins ++ gn.take i).map .str)) (.val (.str nm)) c (.val (.int i)) (.val g.d) .un)) = .ok (.lst ((words ins ++ gn.take i).map .str)) := fun c => by cases c <;> rfl
      refine sSeq_ok (δ := sEnv (.val (netR ins gs os)) (.val (.lst ((ins.map (·.1)).map .str))) (.bld ((ins.map inrow ++ (rowsG (words ins ++ gn) gn gs).take i).map .str)) (.bld ((words ins ++ gn.take i).map .str)) b4 a5 (.val (.int i)) (.val g.d) .un) (sSet_ok (eCall_ok (aCons_ok rfl (aCons_ok rfl rfl)) (hn i nm n1)) (by show 4 < 9; omega)) ?_
      refine sSeq_ok (sApp_ok (d := .str (rowG (words ins ++ gn) nm g)) (eThaw_ok (eCall_ok (aCons_ok rfl (aCons_ok rfl (aCons_ok (tw a5) rfl))) row) rfl) rfl (by rw [List.length_map, List.length_append, List.length_map, List.length_take, rowsG_len G]; omega)) ?_
      exact sApp_ok (d := .str nm) rfl rfl (by rw [List.length_map, List.length_append, List.length_take]; omega))
  have tl : (enumD (gs.map Gt.d)).length = gs.length := by unfold enumD; rw [List.length_map, List.length_zipIdx, List.length_map]
  rw [tl] at lp2
  rw [show (rowsG (words ins ++ gn) gn gs).take gs.length = rowsG (words ins ++ gn) gn gs from List.take_of_length_le (by rw [rowsG_len G]; omega), show gn.take gs.length = gn from List.take_of_length_le (by rw [G.gl]; omega)] at lp2
  obtain ⟨δ3, lp3, c8, rfl⟩ := loopD_inv (t := gNameD 8) (body := B_shown_2) (ds := os.map ouR)
    (fun i δ => ∃ c8, δ = sEnv (.val (netR ins gs os)) (.val (.lst ((ins.map (·.1)).map .str))) (.bld ((ins.map inrow ++ rowsG (words ins ++ gn) gn gs ++ (os.take i).map (rowO (words ins ++ gn))).map .str)) (.val (.lst ((words ins ++ gn).map .str))) b4 a5 b6 b7 c8)
    (δ := sEnv (.val (netR ins gs os)) (.val (.lst ((ins.map (·.1)).map .str))) (.bld ((ins.map inrow ++ rowsG (words ins ++ gn) gn gs).map .str)) (.val (.lst ((words ins ++ gn).map .str))) b4 a5 b6 b7 .un) ⟨_, by rw [List.take_zero, List.map_nil, List.append_nil]⟩ (by
      rintro i dd δ hd ⟨c8, rfl⟩
      rw [List.getElem?_map] at hd
      cases e : os[i]? with
      | none => rw [e] at hd; cases hd
      | some o =>
        rw [e] at hd
        cases hd
        have hi := (List.getElem?_eq_some_iff.mp e).1
        have ho := G.ow (List.mem_of_getElem? e)
        refine ⟨_, ?_, .val (ouR o), rfl⟩
        rw [List.take_add_one, e, List.map_append (l₁ := os.take i), ← List.append_assoc, List.map_append (l₁ := ins.map inrow ++ rowsG (words ins ++ gn) gn gs ++ (os.take i).map (rowO (words ins ++ gn)))]
        exact sApp_ok (δ := sEnv (.val (netR ins gs os)) (.val (.lst ((ins.map (·.1)).map .str))) (.bld ((ins.map inrow ++ rowsG (words ins ++ gn) gn gs ++ (os.take i).map (rowO (words ins ++ gn))).map .str)) (.val (.lst ((words ins ++ gn).map .str))) b4 a5 b6 b7 (.val (ouR o))) (d := .str (rowO (words ins ++ gn) o)) (eCall_ok (aCons_ok rfl (aCons_ok rfl rfl)) (out_row_ok G.wr ho.1 ho.2.1 ho.2.2)) rfl (by rw [List.length_map, List.length_append, List.length_append, List.length_map, List.length_map, List.length_take, rowsG_len G]; omega))
  rw [List.length_map, List.take_length] at lp3
  have nl : ∀ δ : DEnv, nLst aNil δ = .ok [] := fun δ => nLst_ok rfl (by show 0 ≤ sizeLine; omega)
  refine fnD_ok (sSeq_ok (sSet_ok (eNew_ok (nComp_ok (itL_ok (ds := ins.map inR) rfl) (by rw [List.length_map]; omega) (names_comp ins))) (by show 1 < 9; omega)) (sSeq_ok (sBld_ok (nl _) (by show 2 < 9; omega)) (sSeq_ok (sBld_ok (nl _) (by show 3 < 9; omega)) ?_)))
  refine sSeq_ok (sFor_ok (itL_ok (ds := ins.map inR) rfl) lp1) (sSeq_ok (sFor_ok (itE_ok (ds := gs.map Gt.d) rfl) lp2) ?_)
  have last : ∀ b4 a5 b6 b7 c8 : Sl, sFrz 2 (sRet (eMt "str" mJoin (eC (.str (Str.ofString "\n"))) (aCons (eVar 2) aNil))) (sEnv (.val (netR ins gs os)) (.val (.lst ((ins.map (·.1)).map .str))) (.bld ((ins.map inrow ++ rowsG (words ins ++ gn) gn gs ++ os.map (rowO (words ins ++ gn))).map .str)) (.val (.lst ((words ins ++ gn).map .str))) b4 a5 b6 b7 c8) = .ok (.rt (.str (Str.join NL (allRows ins gs os gn)))) := fun b4 a5 b6 b7 c8 =>
    sRet_ok (eMtS_ok rfl (aCons_ok rfl rfl) (all_join G))
  exact sSeq_ok (sFor_ok (itL_ok (ds := os.map ouR) rfl) lp3) (last b4 a5 b6 b7 c8)
end K6

end
section
set_option maxRecDepth 100000
set_option maxHeartbeats 1000000
namespace K6
open PySem PySem.Spec PyProof.Rows L2
/-- a datum that can be held against itself -/
structure Fit (n : Nat) (d : D) : Prop where
  pl : plainD d = true
  ly : (toPy d).canLay0 = true
  dp : (toPy d).depth ≤ n
theorem Fit.int (i : Int) : Fit 0 (.int i) := ⟨by unfold plainD; rfl, by unfold toPy PyData.canLay0; rfl, by unfold toPy PyData.depth; omega⟩
theorem Fit.bl (b : Bool) : Fit 0 (.bl b) := ⟨by unfold plainD; rfl, by unfold toPy PyData.canLay0; rfl, by unfold toPy PyData.depth; omega⟩
theorem Fit.str {n : Nat} {s : Str} (h : Gd n s) : Fit 0 (.str s) := ⟨by unfold plainD; rfl, by unfold toPy PyData.canLay0; exact h.ok, by unfold toPy PyData.depth; omega⟩
theorem Fit.all {n : Nat} : ∀ {ds : List D}, (∀ d ∈ ds, ∃ m, m ≤ n ∧ Fit m d) → plainDs ds = true ∧ PyData.canLayAll0 (toPys ds) = true ∧ PyData.depthAll (toPys ds) ≤ n
  | [], _ => ⟨by unfold plainDs; rfl, by unfold toPys PyData.canLayAll0; rfl, by unfold toPys PyData.depthAll; omega⟩
  | d :: ds, h => by
    obtain ⟨h1, h2, h3⟩ := Fit.all (ds := ds) fun x hx => h x (List.mem_cons_of_mem _ hx)
    obtain ⟨m, hm, f⟩ := h d List.mem_cons_self
    refine ⟨by unfold plainDs; rw [f.pl, h1]; rfl, by unfold toPys PyData.canLayAll0; rw [f.ly, h2]; rfl, ?_⟩
    unfold toPys PyData.depthAll
    have := f.dp
    omega
theorem Fit.lst {n : Nat} {ds : List D} (h : ∀ d ∈ ds, ∃ m, m ≤ n ∧ Fit m d) : Fit (n + 1) (.lst ds) := by
  obtain ⟨h1, h2, h3⟩ := Fit.all h
  exact ⟨by unfold plainD; exact h1, by unfold toPy PyData.canLay0; exact h2, by unfold toPy PyData.depth; omega⟩
theorem Fit.tup {n : Nat} {ds : List D} (h : ∀ d ∈ ds, ∃ m, m ≤ n ∧ Fit m d) : Fit (n + 1) (.tup ds) := by
  obtain ⟨h1, h2, h3⟩ := Fit.all h
  exact ⟨by unfold plainD; exact h1, by unfold toPy PyData.canLay0; exact h2, by unfold toPy PyData.depth; omega⟩
theorem Fit.eq {n : Nat} {ds : List D} (h : Fit n (.tup ds)) (hn : n ≤ 64) : dEq (.tup ds) (.tup ds) = .ok (.bl true) := by
  have hne : eqD (.tup ds) (.tup ds) = R.when (plainD (.tup ds) && plainD (.tup ds) && SeqAt.shaped (toPy (.tup ds)) && SeqAt.shaped (toPy (.tup ds))) (.ok (PyData.eqv (toPy (.tup ds)) (toPy (.tup ds)))) := rfl
  have hs : SeqAt.shaped (toPy (.tup ds)) = true := by
    unfold SeqAt.shaped
    rw [h.ly, decide_eq_true (Nat.le_trans h.dp hn)]
    rfl
  unfold dEq
  rw [hne, h.pl, hs, SeqAt.eqv_refl _ h.ly]
  rfl
variable {ins : List (Str × Int)} {gs : List Gt} {os : List (Str × List Int)} {gn : List Str}
theorem ints_fit (xs : List Int) : Fit 1 (.tup (xs.map .int)) := Fit.tup fun d hd => by
  obtain ⟨x, _, rfl⟩ := List.mem_map.mp hd
  exact ⟨0, by omega, Fit.int x⟩
theorem net_fit (G : Good ins gs os gn) : Fit 4 (netR ins gs os) := by
  refine Fit.tup fun d hd => ?_
  simp only [List.mem_cons, List.not_mem_nil, or_false] at hd
  rcases hd with rfl | rfl | rfl
  · refine ⟨3, by omega, Fit.lst fun d hd => ?_⟩
    obtain ⟨p, hp, rfl⟩ := List.mem_map.mp hd
    refine ⟨1, by omega, Fit.tup fun d hd => ?_⟩
    simp only [List.mem_cons, List.not_mem_nil, or_false] at hd
    rcases hd with rfl | rfl
    · exact ⟨0, by omega, Fit.str (G.wi.ok p hp).1⟩
    · exact ⟨0, by omega, Fit.int _⟩
  · refine ⟨3, by omega, Fit.lst fun d hd => ?_⟩
    obtain ⟨g, hg, rfl⟩ := List.mem_map.mp hd
    obtain ⟨i, hi⟩ := List.getElem?_of_mem hg
    refine ⟨2, by omega, Fit.tup fun d hd => ?_⟩
    simp only [List.mem_cons, List.not_mem_nil, or_false] at hd
    rcases hd with rfl | rfl | rfl
    · exact ⟨0, by omega, Fit.str (kind_gd _ (G.wg.ok i g hi).1)⟩
    · exact ⟨1, by omega, ints_fit _⟩
    · exact ⟨0, by omega, Fit.bl _⟩
  · refine ⟨3, by omega, Fit.lst fun d hd => ?_⟩
    obtain ⟨o, ho, rfl⟩ := List.mem_map.mp hd
    refine ⟨2, by omega, Fit.tup fun d hd => ?_⟩
    simp only [List.mem_cons, List.not_mem_nil, or_false] at hd
    rcases hd with rfl | rfl
    · exact ⟨0, by omega, Fit.str (G.wo.ok o ho).1⟩
    · exact ⟨1, by omega, ints_fit _⟩
theorem sAsg_ok {f : FD} {t : FT} {δ δ1 : DEnv} {d : D} (h : f δ = .ok d) (h2 : t d δ = .ok δ1) : sAsg f t δ = .ok (.nx δ1) := by unfold sAsg; rw [h, R.ok_bind, h2]; rfl
theorem eAnd_t {f g : FD} {δ : DEnv} {r : R D} (h : f δ = .ok (.bl true)) (h2 : g δ = r) : eAnd f g δ = r := by unfold eAnd; rw [asB_of h, R.ok_bind, if_pos rfl]; exact h2
theorem gate_names (gs : List Gt) (h60 : gs.length ≤ 60) (ss : List Str) (hs : ss.length ≤ 6) : ∃ gn : List Str, gn.length = gs.length ∧ (∀ s ∈ gn, Gd 60 s) ∧ (∀ (i : Nat) (nm : Str), gn[i]? = some nm → d_gate_name [.int i, .lst (ss.map .str)] = .ok (.str nm)) ∧ (∀ (i : Nat) (nm : Str), gn[i]? = some nm → d_law_gate_name [.int i, .lst (ss.map .str)] = .ok (.str nm)) := by
  have hf : ∃ f : Nat → Str, ∀ p, p < 60 → Gd 60 (f p) ∧ d_gate_name [.int p, .lst (ss.map .str)] = .ok (.str (f p)) ∧ d_law_gate_name [.int p, .lst (ss.map .str)] = .ok (.str (f p)) :=
    ⟨fun p => if h : p < 60 then Classical.choose (gate_name_ok p h ss hs) else Str.empty, fun p h => by dsimp only; rw [dif_pos h]; exact Classical.choose_spec (gate_name_ok p h ss hs)⟩
  obtain ⟨f, hf⟩ := hf
  have get : ∀ (i : Nat) (nm : Str), ((List.range gs.length).map f)[i]? = some nm → i < 60 ∧ nm = f i := fun i nm h => by
    rw [List.getElem?_map] at h
    cases e : (List.range gs.length)[i]? with
    | none => rw [e] at h; cases h
    | some j =>
      rw [e] at h
      cases h
      have hl := (List.getElem?_eq_some_iff.mp e)
      obtain ⟨h1, h2⟩ := hl
      rw [List.getElem_range] at h2
      rw [List.length_range] at h1
      subst h2
      exact ⟨by omega, rfl⟩
  refine ⟨(List.range gs.length).map f, by rw [List.length_map, List.length_range], fun s h => ?_, fun i nm h => ?_, fun i nm h => ?_⟩
  · obtain ⟨j, hj, rfl⟩ := List.mem_map.mp h
    rw [List.mem_range] at hj
    exact (hf j (by omega)).1
  · obtain ⟨h1, rfl⟩ := get i nm h
    exact (hf i h1).2.1
  · obtain ⟨h1, rfl⟩ := get i nm h
    exact (hf i h1).2.2
theorem lnames_comp {bs : D} (n : Nat) (gn : List Str) (hl : gn.length = n) (h : ∀ (i : Nat) (nm : Str), gn[i]? = some nm → d_law_gate_name [.int i, bs] = .ok (.str nm)) : compL (gNameD 0) cYes (eCall d_law_gate_name (aCons (eVar 0) (aCons (eVar 1) aNil))) [.un, .val bs] (rngD 0 n) = .ok (gn.map .str) := by
  have e0 : gn.map D.str = (rngD 0 n).map (fun d => match d with | .int i => D.str (gn.getD i.toNat Str.empty) | _ => .non) := by
    apply List.ext_getElem?
    intro i
    rw [List.getElem?_map, List.getElem?_map]
    unfold rngD
    rw [List.getElem?_map]
    by_cases hi : i < n
    · rw [List.getElem?_eq_getElem (show i < gn.length by omega), List.getElem?_eq_getElem (by rw [List.length_range]; omega), List.getElem_range]
      show some (D.str _) = some (D.str (gn.getD (0 + (i : Int)).toNat Str.empty))
      rw [Int.zero_add, Int.toNat_natCast, List.getD_eq_getElem?_getD, List.getElem?_eq_getElem (show i < gn.length by omega)]
      rfl
    · rw [List.getElem?_eq_none (by omega), List.getElem?_eq_none (by rw [List.length_range]; omega)]
      rfl
  rw [e0]
  refine compL_map _ fun d hd => ?_
  obtain ⟨i, hi⟩ := List.getElem?_of_mem hd
  obtain ⟨rfl, hin⟩ := rng_get hi
  refine ⟨[.val (.int (0 + i)), .val bs], rfl, rfl, eCall_ok (aCons_ok rfl (aCons_ok rfl rfl)) ?_⟩
  show d_law_gate_name [.int (0 + (i : Int)), bs] = .ok (.str (gn.getD (0 + (i : Int)).toNat Str.empty))
  rw [Int.zero_add, Int.toNat_natCast, List.getD_eq_getElem?_getD, List.getElem?_eq_getElem (show i < gn.length by omega)]
  exact h i _ (List.getElem?_eq_getElem (show i < gn.length by omega))
theorem law_true : ∀ ns : List Int, ns.length ≤ 63 → d_law [.lst (ns.map .int)] = .ok (.bl true) := by
  intro ns _
  have hz : sizeLine = 16777216 := sizeLine_eq
  obtain ⟨ins0, gs, os, hnet, wi0, wg0, wo0⟩ := net_ok ns
  obtain ⟨ins, hst, wi, hsum⟩ := strange_ok (ns.headD 0) ins0 wi0
  rw [← hsum] at wg0 wo0
  have hi6 := wi.hi
  have hg60 := wg0.hi
  obtain ⟨gn, gl, gd, hp, hlw⟩ := gate_names gs hg60 (ins.map (·.1)) (by rw [List.length_map]; omega)
  have G : Good ins gs os gn := ⟨wi, wg0, wo0, gl, gd⟩
  have sh := shown_ok G hp
  have lr := law_rows_ok G
  refine fnD_ok (sSeq_ok (sAsg_ok (δ1 := [.val (.lst (ns.map .int)), .val (.lst (ins0.map inR)), .val (.lst (gs.map Gt.d)), .val (.lst (os.map ouR)), .un, .un, .un, .un, .un]) (eCall_ok (aCons_ok rfl rfl) hnet) rfl) ?_)
  refine sSeq_ok (sSet_ok (eCall_ok (aCons_ok (eCall_ok (aCons_ok rfl (aCons_ok rfl rfl)) (cell_at_ok ns)) (aCons_ok rfl rfl)) hst) (by show 1 < 9; omega)) ?_
  refine sSeq_ok (sSet_ok (eNew_ok (nComp_ok (itL_ok (ds := ins.map inR) rfl) (by rw [List.length_map]; omega) (names_comp ins))) (by show 4 < 9; omega)) ?_
  refine sSeq_ok (sSet_ok (eNew_ok (nComp_ok (rng1_ok (n := gs.length) (eCall_ok (aCons_ok rfl rfl) (by rw [lenL, List.length_map])) (by omega)) (by rw [rng_len]; omega) (lnames_comp gs.length gn gl hlw))) (by show 5 < 9; omega)) ?_
  refine sSeq_ok (sSet_ok (eMtS_ok rfl (aCons_ok (eCall_ok (aCons_ok (eTup_ok (ds := [.lst (ins.map inR), .lst (gs.map Gt.d), .lst (os.map ouR)]) (aCons_ok rfl (aCons_ok rfl (aCons_ok rfl rfl))) (by show 3 ≤ sizeLine; omega)) (aCons_ok rfl rfl)) lr) rfl) (all_join G)) (by show 6 < 9; omega)) ?_
  refine sSeq_ok (sSet_ok (eTup_ok (ds := [.lst (ins.map inR), .lst (gs.map Gt.d), .lst (os.map ouR)]) (aCons_ok rfl (aCons_ok rfl (aCons_ok rfl rfl))) (by show 3 ≤ sizeLine; omega)) (by show 7 < 9; omega)) ?_
  refine sSeq_ok (sSet_ok (eCall_ok (aCons_ok rfl rfl) sh) (by show 8 < 9; omega)) ?_
  refine sRet_ok (eAnd_t ?_ (eAnd_t ?_ ?_))
  · rfl
  · refine e2_ok rfl rfl ?_
    show R.ok (D.bl (decide (_ = _))) = _
    rw [decide_eq_true rfl]
  · exact e2_ok (b := netR ins gs os) rfl (eTup_ok (ds := [.lst (ins.map inR), .lst (gs.map Gt.d), .lst (os.map ouR)]) (aCons_ok rfl (aCons_ok rfl (aCons_ok rfl rfl))) (by show 3 ≤ sizeLine; omega)) ((net_fit G).eq (by omega))
end K6

end
open PySem PySem.W PyProof.Rows
set_option maxRecDepth 100000 in
set_option maxHeartbeats 0 in
theorem PySem.Challenge.cw_bearfaults_k06_nets_shown_holds : PySem.Challenge.rw_bearfaults_k06_nets_shown.Holds := by
  w_on; o_law; k_head; (case hw => w_witness2)
  k_fill
  refine L2.walkL (l := PySem.Challenge.rw_bearfaults_k06_nets_shown) (n := 63) (k := 5) (x := Str.ofString "script") (g := K6.d_law) rfl (by decide) rfl ⟨rfl, by decide, by decide⟩ (fun w h Y => PySem.W.kIn_of Y) ?F K6.law_true
  case F =>
    intro w mg fa h KX G hmg
    have D_in_wires : L2.Def (L2.KOf KX) mg (Str.ofString "in_wires") K6.s_in_wires := by
      dsimp only [L2.KOf]
      refine' L2.def_mk KX G ?a ?l ?c ?k
      (case a => k_is); (case l => k_is); (case c => k_is); (case k => k_is)
    have D_letters_of : L2.Def (L2.KOf KX) mg (Str.ofString "letters_of") K6.s_letters_of := by
      dsimp only [L2.KOf]
      refine' L2.def_mk KX G ?a ?l ?c ?k
      (case a => k_is); (case l => k_is); (case c => k_is); (case k => k_is)
    have D_gate_name : L2.Def (L2.KOf KX) mg (Str.ofString "gate_name") K6.s_gate_name := by
      dsimp only [L2.KOf]
      refine' L2.def_mk KX G ?a ?l ?c ?k
      (case a => k_is); (case l => k_is); (case c => k_is); (case k => k_is)
    have D_gate_row : L2.Def (L2.KOf KX) mg (Str.ofString "gate_row") K6.s_gate_row := by
      dsimp only [L2.KOf]
      refine' L2.def_mk KX G ?a ?l ?c ?k
      (case a => k_is); (case l => k_is); (case c => k_is); (case k => k_is)
    have D_out_row : L2.Def (L2.KOf KX) mg (Str.ofString "out_row") K6.s_out_row := by
      dsimp only [L2.KOf]
      refine' L2.def_mk KX G ?a ?l ?c ?k
      (case a => k_is); (case l => k_is); (case c => k_is); (case k => k_is)
    have D_shown : L2.Def (L2.KOf KX) mg (Str.ofString "shown") K6.s_shown := by
      dsimp only [L2.KOf]
      refine' L2.def_mk KX G ?a ?l ?c ?k
      (case a => k_is); (case l => k_is); (case c => k_is); (case k => k_is)
    have D_law_cell_at : L2.Def (L2.KOf KX) mg (Str.ofString "_law_cell_at") K6.s_law_cell_at := by
      dsimp only [L2.KOf]
      refine' L2.def_mk KX G ?a ?l ?c ?k
      (case a => k_is); (case l => k_is); (case c => k_is); (case k => k_is)
    have D_law_stir : L2.Def (L2.KOf KX) mg (Str.ofString "_law_stir") K6.s_law_stir := by
      dsimp only [L2.KOf]
      refine' L2.def_mk KX G ?a ?l ?c ?k
      (case a => k_is); (case l => k_is); (case c => k_is); (case k => k_is)
    have D_law_names : L2.Def (L2.KOf KX) mg (Str.ofString "_law_names") K6.s_law_names := by
      dsimp only [L2.KOf]
      refine' L2.def_mk KX G ?a ?l ?c ?k
      (case a => k_is); (case l => k_is); (case c => k_is); (case k => k_is)
    have D_law_wires : L2.Def (L2.KOf KX) mg (Str.ofString "_law_wires") K6.s_law_wires := by
      dsimp only [L2.KOf]
      refine' L2.def_mk KX G ?a ?l ?c ?k
      (case a => k_is); (case l => k_is); (case c => k_is); (case k => k_is)
    have D_law_gate : L2.Def (L2.KOf KX) mg (Str.ofString "_law_gate") K6.s_law_gate := by
      dsimp only [L2.KOf]
      refine' L2.def_mk KX G ?a ?l ?c ?k
      (case a => k_is); (case l => k_is); (case c => k_is); (case k => k_is)
    have D_law_net : L2.Def (L2.KOf KX) mg (Str.ofString "_law_net") K6.s_law_net := by
      dsimp only [L2.KOf]
      refine' L2.def_mk KX G ?a ?l ?c ?k
      (case a => k_is); (case l => k_is); (case c => k_is); (case k => k_is)
    have D_law_words : L2.Def (L2.KOf KX) mg (Str.ofString "_law_words") K6.s_law_words := by
      dsimp only [L2.KOf]
      refine' L2.def_mk KX G ?a ?l ?c ?k
      (case a => k_is); (case l => k_is); (case c => k_is); (case k => k_is)
    have D_law_rows : L2.Def (L2.KOf KX) mg (Str.ofString "_law_rows") K6.s_law_rows := by
      dsimp only [L2.KOf]
      refine' L2.def_mk KX G ?a ?l ?c ?k
      (case a => k_is); (case l => k_is); (case c => k_is); (case k => k_is)
    have D_law_gate_name : L2.Def (L2.KOf KX) mg (Str.ofString "_law_gate_name") K6.s_law_gate_name := by
      dsimp only [L2.KOf]
      refine' L2.def_mk KX G ?a ?l ?c ?k
      (case a => k_is); (case l => k_is); (case c => k_is); (case k => k_is)
    have D_law_strange_ins : L2.Def (L2.KOf KX) mg (Str.ofString "_law_strange_ins") K6.s_law_strange_ins := by
      dsimp only [L2.KOf]
      refine' L2.def_mk KX G ?a ?l ?c ?k
      (case a => k_is); (case l => k_is); (case c => k_is); (case k => k_is)
    have D_law : L2.Def (L2.KOf KX) mg (Str.ofString "law") K6.s_law := by
      dsimp only [L2.KOf]
      refine' L2.def_mk KX G ?a ?l ?c ?k
      (case a => k_is); (case l => k_is); (case c => k_is); (case k => k_is)
    have G_LETTERS : L2.Glob (L2.KOf KX) mg (Str.ofString "LETTERS") K6.g_LETTERS := by
      dsimp only [L2.KOf]
      refine' L2.glob_str KX G ?a
      (case a => k_is)
    have G_BARRED : L2.Glob (L2.KOf KX) mg (Str.ofString "BARRED") K6.g_BARRED := by
      dsimp only [L2.KOf]
      refine' L2.glob_tup KX G [(Str.ofString "in"), (Str.ofString "gate"), (Str.ofString "sure"), (Str.ofString "out"), (Str.ofString "not"), (Str.ofString "and"), (Str.ofString "or"), (Str.ofString "xor"), (Str.ofString "vote")] ?a ?l ?c ?d ?z ?r
      (case a => k_is); (case l => k_is); (case c => rfl); (case d => rfl); (case z => decide); (case r => exact .cons ⟨_, rfl⟩ (.cons ⟨_, rfl⟩ (.cons ⟨_, rfl⟩ (.cons ⟨_, rfl⟩ (.cons ⟨_, rfl⟩ (.cons ⟨_, rfl⟩ (.cons ⟨_, rfl⟩ (.cons ⟨_, rfl⟩ (.cons ⟨_, rfl⟩ (.nil))))))))))
    have T : K6.Tp (L2.KOf KX) mg := by
      dsimp only [L2.KOf]
      refine' ⟨PySem.W.mg_none_of KX G ?z_range, PySem.W.mg_none_of KX G ?z_len, PySem.W.mg_none_of KX G ?z_enumerate, PySem.W.mg_none_of KX G ?z_min, PySem.W.mg_none_of KX G ?z_int, PySem.W.mg_none_of KX G ?z_tuple, PySem.W.mg_none_of KX G ?z_sum, PySem.W.mg_none_of KX G ?z_str, PySem.W.mg_none_of KX G ?z_list, PySem.W.mg_none_of KX G ?z_isinstance, G_LETTERS, G_BARRED⟩
      (case z_range => k_is); (case z_len => k_is); (case z_enumerate => k_is); (case z_min => k_is); (case z_int => k_is); (case z_tuple => k_is); (case z_sum => k_is); (case z_str => k_is); (case z_list => k_is); (case z_isinstance => k_is)
    obtain ⟨fl, fd, Fl, hl⟩ := D_law
    have e0 := hmg.symm.trans hl
    cases e0
    refine' ⟨fd, ?b, fun base kb nb => K6.law_ok T D_in_wires D_letters_of D_gate_name D_gate_row D_out_row D_shown D_law_cell_at D_law_stir D_law_names D_law_wires D_law_gate D_law_net D_law_words D_law_rows D_law_gate_name D_law_strange_ins Fl⟩
    obtain ⟨_, _, _, _, _, _, _, _, _, e, _, _⟩ := Fl.ex
    subst e
    exact fun s u => .of_eq rfl
