import PyProof.Rows.All
import Wide.All
import OpenK.AllK
import Wide.FinOn
import PyProof.EqAt
import PyProof.EqKinds
import PyProof.TupleCall
import KE.BitLaws
import Open.SpecLaws
import KE.OsHead
import KE.OsGo
import PyWideLaws
import PySem.Challenge.RW_sunbeds_s01_answers
set_option Elab.async false
set_option linter.all false
set_option maxRecDepth 100000
/-! THE HAND LAYER, for ints, bools, texts, own classes, lists, tuples, dicts, comprehensions, walks over dicts, enumerate, zip, reversed, texts, calls, loops. Paste it whole ahead of your own text; what your proof does not reach may be deleted. -/
namespace L2
open PySem PySem.Spec PyProof.Rows

/-- a key: an int or a str -/
abbrev Key := Sum Int Str
def keyIs : Key → Value → Bool
  | .inl k, v => Value.isInt k v
  | .inr x, v => Value.isStrOf x v
def keyH (w : World) : Key → Int
  | .inl k => hashInt k
  | .inr x => hashStr w x
theorem keyIs_shape : ∀ {k : Key} {v : Value}, keyIs k v = true → (∃ i t, k = Sum.inl i ∧ v = Value.int i t) ∨ (∃ x t, k = Sum.inr x ∧ v = Value.str x t)
  | .inl i, v, h => by
    obtain ⟨t, e⟩ := Value.isInt_shape (k := i) (v := v) h
    exact .inl ⟨i, t, rfl, e⟩
  | .inr x, v, h => by
    obtain ⟨t, e⟩ := Value.isStrOf_shape (x := x) (v := v) h
    exact .inr ⟨x, t, rfl, e⟩
theorem keyIs_int (i : Int) (t : Tok) : keyIs (.inl i) (.int i t) = true := by simp [keyIs, Value.isInt]
theorem keyIs_str (x : Str) (t : Tok) : keyIs (.inr x) (.str x t) = true := by simp [keyIs, Value.isStrOf]
theorem key_ll (a b : Int) : decide ((Sum.inl a : Key) = Sum.inl b) = (a == b) := by
  by_cases e : a = b
  · subst e; simp
  · have h : ¬ (Sum.inl a : Key) = Sum.inl b := fun q => e (Sum.inl.inj q)
    rw [decide_eq_false h]
    exact (beq_eq_false_iff_ne.mpr e).symm
theorem key_rr (a b : Str) : decide ((Sum.inr a : Key) = Sum.inr b) = decide (a = b) := by
  by_cases e : a = b
  · subst e; simp
  · have h : ¬ (Sum.inr a : Key) = Sum.inr b := fun q => e (Sum.inr.inj q)
    rw [decide_eq_false h, decide_eq_false e]
theorem key_lr (a : Int) (b : Str) : decide ((Sum.inl a : Key) = Sum.inr b) = false := decide_eq_false (fun q => nomatch q)
theorem key_rl (a : Str) (b : Int) : decide ((Sum.inr a : Key) = Sum.inl b) = false := decide_eq_false (fun q => nomatch q)

def mixKind (prog : Program) (w : World) : PySem.KeyKind prog w Key where
  is := keyIs
  hash := keyH w
  inj := fun v a b ha hb => by
    rcases keyIs_shape ha with ⟨i, t, rfl, rfl⟩ | ⟨x, t, rfl, rfl⟩
    · rcases keyIs_shape hb with ⟨j, u, rfl, e⟩ | ⟨y, u, rfl, e⟩
      · injection e with e1 _; rw [e1]
      · exact nomatch e
    · rcases keyIs_shape hb with ⟨j, u, rfl, e⟩ | ⟨y, u, rfl, e⟩
      · exact nomatch e
      · injection e with e1 _; rw [e1]
  byValue := fun k v h => by
    rcases keyIs_shape h with ⟨i, t, rfl, rfl⟩ | ⟨x, t, rfl, rfl⟩ <;> rfl
  pyHash := fun hv h => by
    rcases keyIs_shape hv with ⟨i, t, rfl, rfl⟩ | ⟨x, t, rfl, rfl⟩
    · exact wpAny_pyHash_int h
    · exact wpAny_pyHash_str h
  eqBool := fun hu hv h => by
    rcases keyIs_shape hu with ⟨i, t, rfl, rfl⟩ | ⟨x, t, rfl, rfl⟩
    · rcases keyIs_shape hv with ⟨j, u, rfl, rfl⟩ | ⟨y, u, rfl, rfl⟩
      · rw [key_ll] at h; exact wpAny_eqBool_int h
      · rw [key_lr] at h; exact SeqAt.EqAt.int_str i t y u _ _ _ _ h
    · rcases keyIs_shape hv with ⟨j, u, rfl, rfl⟩ | ⟨y, u, rfl, rfl⟩
      · rw [key_rl] at h; exact SeqAt.EqAt.str_int x t j u _ _ _ _ h
      · rw [key_rr] at h; exact wpAny_eqBool_str h
  «strs» := fun k x t v h => by
    rcases keyIs_shape h with ⟨i, u, rfl, e⟩ | ⟨y, u, rfl, e⟩
    · exact nomatch e
    · injection e with e1 _
      subst e1
      cases v <;> rfl

theorem mixKind_int (prog : Program) (w : World) (i : Int) (t : Tok) : (mixKind prog w).is (.inl i) (.int i t) = true := keyIs_int i t
theorem mixKind_str (prog : Program) (w : World) (x : Str) (t : Tok) : (mixKind prog w).is (.inr x) (.str x t) = true := keyIs_str x t
end L2

namespace L2
open PySem PySem.Spec PyProof.Rows

/-- a value, without the heap -/
inductive V where
  | non | bl (b : Bool) | int (i : Int) | str (x : Str) | byt (b : Array UInt8) | flt (b : UInt64) | ref (a : Addr) | ty (n : String)
  deriving DecidableEq

def RelV : V → Value → Prop
  | .non, u => u = Value.none
  | .bl b, u => u = Value.bool b
  | .int i, u => ∃ t, u = Value.int i t
  | .str x, u => ∃ t, u = Value.str x t
  | .byt b, u => ∃ t, u = Value.bytes b t
  | .flt b, u => ∃ t, u = Value.float b t
  | .ref a, u => u = Value.ref a
  | .ty n, u => u = Value.type n

abbrev Vals : List V → List Value → Prop := Paired RelV
theorem Vals.length {xs : List V} {us : List Value} (r : Vals xs us) : xs.length = us.length := Paired.length r
theorem Vals.get : ∀ {xs : List V} {us : List Value} {i : Nat} {x : V}, Vals xs us → xs[i]? = some x → ∃ u, us[i]? = some u ∧ RelV x u
  | _, _, _, _, .nil, e => by simp at e
  | _, _, 0, _, .cons r _, e => by simp at e; subst e; exact ⟨_, rfl, r⟩
  | _, _, i + 1, x, .cons _ t, e => by
    obtain ⟨u, h1, h2⟩ := Vals.get (i := i) (x := x) t (by simpa using e)
    exact ⟨u, by simpa using h1, h2⟩
theorem Vals.set {x : V} {u : Value} (r : RelV x u) : ∀ {xs : List V} {us : List Value} (i : Nat), Vals xs us → Vals (xs.set i x) (us.set i u)
  | _, _, _, .nil => .nil
  | _, _, 0, .cons _ t => .cons r t
  | _, _, i + 1, .cons q t => .cons q (Vals.set r i t)
theorem Vals.append : ∀ {xs ys : List V} {us ws : List Value}, Vals xs us → Vals ys ws → Vals (xs ++ ys) (us ++ ws)
  | _, _, _, _, .nil, s => s
  | _, _, _, _, .cons r t, s => .cons r (Vals.append t s)
theorem Vals.take : ∀ {xs : List V} {us : List Value} (n : Nat), Vals xs us → Vals (xs.take n) (us.take n)
  | _, _, 0, _ => .nil
  | _, _, _ + 1, .nil => .nil
  | _, _, n + 1, .cons r t => .cons r (Vals.take n t)
theorem Vals.drop : ∀ {xs : List V} {us : List Value} (n : Nat), Vals xs us → Vals (xs.drop n) (us.drop n)
  | _, _, 0, r => r
  | _, _, _ + 1, .nil => .nil
  | _, _, n + 1, .cons _ t => Vals.drop n t

def RelO : Option V → Option Value → Prop
  | some v, some u => RelV v u
  | none, none => True
  | _, _ => False
def KV {κ : Type} : List (κ × V) → List (κ × Value) → Prop := Paired fun (p : κ × V) (q : κ × Value) => p.1 = q.1 ∧ RelV p.2 q.2

/-- a key of a dict (00_mix): an int or a text -/
def kV : Key → V
  | .inl i => .int i
  | .inr x => .str x

/-- what stands at a tracked address -/
inductive HO where
  /-- a list -/
  | lst (xs : List V)
  /-- a tuple (never changes) -/
  | tup (xs : List V)
  /-- a dict whose keys are ints and texts; one whose keys are tuples of ints and texts (the empty one is both) -/
  | dK (kvs : List (Key × V)) | dT (kvs : List (List Key × V))
  /-- a set of ints: its members, its size -/
  | set (S : Int → Bool) (n : Nat)
  /-- an instance of the class at C, its dict at dx, its attributes -/
  | ins (C dx : Addr) (fs : List (Str × V))
  /-- the dict of the instance at x -/
  | own (x : Addr)
  /-- the dict of an exception -/
  | xd (fs : List (Str × V))
  /-- a bound method, f of x -/
  | met (f x : Addr)
  /-- a range object lo, lo + 1, .. below hi -/
  | rng (lo hi : Int)
  /-- a thing that is known to the object (the script; a dict while a loop walks it): read, never written while it is so -/
  | frz (o : Obj) (u : HO)
  /-- a code object's table -/
  | tbl (ps : Array Value)
  /-- any other thing, by what is true of its one object (a def of one's own: SetO a S n := HO.ext fun h => ..) -/
  | ext (φ : Heap → Prop)

abbrev Hp := Addr → Option HO
def upd (H : Hp) (a : Addr) (o : HO) : Hp := fun b => if b = a then some o else H b
theorem upd_same {H : Hp} {a : Addr} {o : HO} : upd H a o a = some o := by unfold upd; rw [if_pos rfl]
theorem upd_ne {H : Hp} {a b : Addr} {o : HO} (h : b ≠ a) : upd H a o b = H b := by unfold upd; rw [if_neg h]
theorem upd_upd {H : Hp} {a : Addr} {o u : HO} : upd (upd H a o) a u = upd H a u := by
  funext b; unfold upd; split <;> rfl
/-- two objects of different content stand apart -/
theorem ne_of {H : Hp} {a b : Addr} {o u : HO} (h : H a = some o) (h' : H b = some u) (d : o ≠ u) : a ≠ b := by
  intro e; subst e; rw [h] at h'; exact d (Option.some.inj h')
theorem ne_of_none {H : Hp} {a b : Addr} {o : HO} (h : H a = some o) (h' : H b = none) : a ≠ b := by
  intro e; subst e; rw [h] at h'; cases h'

section
variable (P : Program) (w : World)
def ObjOk (H : Hp) (h : Heap) (a : Addr) : HO → Prop
  | .lst xs => xs.length ≤ sizeLine ∧ ∃ (its : List Value) (n : Nat), Vals xs its ∧ h.get? a = some { cls := .type "list", data := .seq its.toArray n }
  | .tup xs => xs.length ≤ sizeLine ∧ ∃ its : List Value, Vals xs its ∧ IsTup h a its.toArray
  | .dK kvs => kvs.length ≤ sizeLine ∧ (a == sysModules) = false ∧ ∃ vs, KV kvs vs ∧ h.DictOf (mixKind P w) a vs
  | .dT kvs => kvs.length ≤ sizeLine ∧ (a == sysModules) = false ∧ ∃ xs : List (List Key × Addr × Value),
      Paired (fun (p : List Key × V) (q : List Key × Addr × Value) => p.1 = q.1 ∧ H q.2.1 = some (.tup (p.1.map kV)) ∧ RelV p.2 q.2.2) kvs xs ∧
      ∃ o es ep, h.get? a = some o ∧ o.ExactDict ∧ o.data = .dict es ep ∧ es.toList = xs.map (entryOfKey (tupleKind (mixKind P w))) ∧ (xs.map (·.1)).Nodup
  | .set S n => h.SetOf (intKind P w) a S n
  | .ins C dx fs => H dx = some (.own a) ∧ fs.length ≤ 1000 ∧ dx ≠ a ∧ h.get? a = some (PySem.W.instObj C dx) ∧
      ∃ mA, h.Ns1 dx mA ∧ (∀ f, RelO (fs.lookup f) (mA f)) ∧ PySem.Within mA (fs.map (·.1))
  | .own _ => ∃ o, h.get? a = some o
  | .xd fs => ∃ mA, h.Ns1 a mA ∧ ∀ f, RelO (fs.lookup f) (mA f)
  | .rng lo hi => ∃ t u v, h.get? a = some { cls := .type "range", data := .fields #[.int lo t, .int hi u, .int 1 v] }
  | .frz o u => h.get? a = some o ∧ ObjOk H h a u
  | .tbl ps => h.get? a = some { cls := .none, data := .fields ps }
  | .met f x => h.get? a = some (PySem.W.methodObj (.ref f) (.ref x))
  | .ext φ => φ h ∧ (∃ o, h.get? a = some o) ∧ ∀ h1 h2 : Heap, φ h1 → (∀ o, h1.get? a = some o → h2.get? a = some o) → φ h2
/-- the abstract heap is held -/
def HOk (H : Hp) (h : Heap) : Prop := ∀ a o, H a = some o → ObjOk P w H h a o
end

section
variable {P : Program} {w : World} {H H' : Hp} {h h' : Heap} {a : Addr} {o : HO}
theorem ObjOk.lt (x : ObjOk P w H h a o) : a < h.objs.size := by
  cases o with
  | lst xs => obtain ⟨_, _, _, _, e⟩ := x; exact Heap.lt_size e
  | tup xs => obtain ⟨_, _, _, p⟩ := x; exact p.lt
  | dK kvs => obtain ⟨_, _, _, _, o, _, _, e, _⟩ := x; exact Heap.lt_size e
  | dT kvs => obtain ⟨_, _, _, _, o, _, _, e, _⟩ := x; exact Heap.lt_size e
  | set S n => obtain ⟨o, _, _, _, e, _⟩ := x; exact Heap.lt_size e
  | ins C dx fs => obtain ⟨_, _, _, e, _⟩ := x; exact Heap.lt_size e
  | own y => obtain ⟨_, e⟩ := x; exact Heap.lt_size e
  | xd fs => obtain ⟨_, ⟨_, _, _, e, _⟩, _⟩ := x; exact Heap.lt_size e
  | rng lo hi => obtain ⟨_, _, _, e⟩ := x; exact Heap.lt_size e
  | frz ob u => obtain ⟨e, _⟩ := x; exact Heap.lt_size e
  | tbl ps => exact Heap.lt_size (show h.get? a = some _ from x)
  | met f y => exact Heap.lt_size (show h.get? a = some _ from x)
  | ext φ => obtain ⟨_, ⟨_, e⟩, _⟩ := x; exact Heap.lt_size e
theorem Paired.mapP {α β : Type} {F G : α → β → Prop} : ∀ {l₁ : List α} {l₂ : List β}, Paired F l₁ l₂ → (∀ a b, F a b → G a b) → Paired G l₁ l₂
  | _, _, .nil, _ => .nil
  | _, _, .cons r t, f => .cons (f _ _ r) (Paired.mapP t f)
/-- what an object's description leans on: its own object, its own dict, the tuples -/
theorem ObjOk.stay (x : ObjOk P w H h a o) (k : ∀ b u, (b = a ∨ H b = some (.own a)) → h.get? b = some u → h'.get? b = some u)
    (ho : ∀ b, H b = some (.own a) → H' b = some (.own a)) (ht : ∀ b xs, H b = some (.tup xs) → H' b = some (.tup xs)) : ObjOk P w H' h' a o := by
  induction o with
  | lst xs => obtain ⟨z, its, n, r, e⟩ := x; exact ⟨z, its, n, r, k _ _ (.inl rfl) e⟩
  | tup xs => obtain ⟨z, its, r, ob, e, c⟩ := x; exact ⟨z, its, r, ob, k _ _ (.inl rfl) e, c⟩
  | dK kvs => obtain ⟨z, y, vs, r, ob, es, ep, e, c⟩ := x; exact ⟨z, y, vs, r, ob, es, ep, k _ _ (.inl rfl) e, c⟩
  | dT kvs =>
    obtain ⟨z, y, xs, r, ob, es, ep, e, c⟩ := x
    exact ⟨z, y, xs, Paired.mapP r fun p q z => ⟨z.1, ht _ _ z.2.1, z.2.2⟩, ob, es, ep, k _ _ (.inl rfl) e, c⟩
  | set S n => obtain ⟨ob, es, ep, t, e, c⟩ := x; exact ⟨ob, es, ep, t, k _ _ (.inl rfl) e, c⟩
  | ins C dx fs =>
    obtain ⟨d, z, ne, e, mA, ⟨od, es, ep, e2, c⟩, r⟩ := x
    exact ⟨ho _ d, z, ne, k _ _ (.inl rfl) e, mA, ⟨od, es, ep, k _ _ (.inr d) e2, c⟩, r⟩
  | own y => obtain ⟨ob, e⟩ := x; exact ⟨ob, k _ _ (.inl rfl) e⟩
  | xd fs => obtain ⟨mA, ⟨od, es, ep, e, c⟩, r⟩ := x; exact ⟨mA, ⟨od, es, ep, k _ _ (.inl rfl) e, c⟩, r⟩
  | rng lo hi => obtain ⟨t, u, v, e⟩ := x; exact ⟨t, u, v, k _ _ (.inl rfl) e⟩
  | frz ob u ih => obtain ⟨e, q⟩ := x; exact ⟨k _ _ (.inl rfl) e, ih q⟩
  | tbl ps =>
    have e : h.get? a = some { cls := .none, data := .fields ps } := x
    show h'.get? a = some { cls := .none, data := .fields ps }
    exact k a _ (.inl rfl) e
  | met f y =>
    have e : h.get? a = some (PySem.W.methodObj (.ref f) (.ref y)) := x
    show h'.get? a = some (PySem.W.methodObj (.ref f) (.ref y))
    exact k a _ (.inl rfl) e
  | ext φ => obtain ⟨p, ⟨o, e⟩, st⟩ := x; exact ⟨st _ _ p fun o q => k _ _ (.inl rfl) q, ⟨o, k _ _ (.inl rfl) e⟩, st⟩
theorem HOk.lt (x : HOk P w H h) (e : H a = some o) : a < h.objs.size := (x a o e).lt
theorem HOk.fresh (x : HOk P w H h) (e : h.objs.size ≤ a) : H a = none := by
  cases q : H a with
  | none => rfl
  | some u => exact absurd (Nat.lt_of_lt_of_le (x.lt q) e) (Nat.lt_irrefl _)
/-- every object of the heap is kept -/
theorem HOk.kept (x : HOk P w H h) (k : ∀ b u, h.get? b = some u → h'.get? b = some u) : HOk P w H h' := fun a o e =>
  (x a o e).stay (fun b u _ q => k b u q) (fun _ q => q) fun _ _ q => q
/-- a new object is laid and tracked -/
theorem HOk.laid (x : HOk P w H h) (k : ∀ b u, h.get? b = some u → h'.get? b = some u) (hp : h.objs.size ≤ a) (new : ObjOk P w (upd H a o) h' a o) : HOk P w (upd H a o) h' := fun b u e => by
  have hn := x.fresh hp
  by_cases hb : b = a
  · subst hb; rw [upd_same] at e; cases e; exact new
  · rw [upd_ne hb] at e
    exact (x b u e).stay (fun c v _ q => k c v q) (fun c q => by rw [upd_ne (ne_of_none q hn)]; exact q) fun c xs q => by rw [upd_ne (ne_of_none q hn)]; exact q
end

/-- what may be read as u: it is u, or a known u -/
def Rd (H : Hp) (a : Addr) (u : HO) : Prop := H a = some u ∨ ∃ o, H a = some (.frz o u)
theorem Rd.ok {P : Program} {w : World} {H : Hp} {h : Heap} {a : Addr} {u : HO} (r : Rd H a u) (x : HOk P w H h) : ObjOk P w H h a u := by
  rcases r with r | ⟨o, r⟩
  · exact x a u r
  · obtain ⟨_, q⟩ := x a _ r
    exact q
/-- what may be written -/
def Mut : Option HO → Prop
  | some (.lst _) => True
  | some (.dK _) => True
  | some (.dT _) => True
  | some (.set _ _) => True
  | some (.ins _ _ _) => True
  | some (.ext _) => True
  | _ => False
section
variable {P : Program} {w : World} {H : Hp} {h h' : Heap} {x e : Addr} {o' : HO}
/-- the object at e is changed: x itself, or the dict of the instance x -/
theorem HOk.write (ok : HOk P w H h) (mu : Mut (H x)) (he : e = x ∨ H e = some (.own x)) (k : ∀ b u, b ≠ e → h.get? b = some u → h'.get? b = some u) (heo : ∃ u, h'.get? e = some u)
    (new : ObjOk P w (upd H x o') h' x o') : HOk P w (upd H x o') h' := fun b u q => by
  have nown : ∀ c y, H c = some (.own y) → c ≠ x := fun c y r z => by subst z; rw [r] at mu; exact mu
  have ntup : ∀ c xs, H c = some (.tup xs) → c ≠ x := fun c xs r z => by subst z; rw [r] at mu; exact mu
  by_cases hb : b = x
  · subst hb; rw [upd_same] at q; cases q; exact new
  · rw [upd_ne hb] at q
    by_cases hbe : b = e
    · have q' : H b = some (.own x) := by
        rcases he with z | z
        · exact absurd (hbe.trans z) hb
        · rw [hbe]; exact z
      rw [q] at q'; cases q'
      obtain ⟨v, hv⟩ := heo
      exact ⟨v, by rw [hbe]; exact hv⟩
    · refine (ok b u q).stay (fun c v hc r => k c v ?_ r) (fun c r => by rw [upd_ne (nown c b r)]; exact r) fun c xs r => by rw [upd_ne (ntup c xs r)]; exact r
      rcases hc with rfl | hc
      · exact hbe
      · rintro rfl
        rcases he with z | z
        · exact nown c b hc z
        · rw [hc] at z; cases z; exact hb rfl
end

/-! ### kept unless tracked; of the frames at fs (the callers') the slots may change (an exception that passes writes there); of the records at ex (iterators) nothing is said -/
structure Un (fs ex : List Addr) (H H' : Hp) (h h' : Heap) : Prop where
  keep : ∀ b o, h.get? b = some o → H b = none → b ∉ fs → b ∉ ex → h'.get? b = some o
  slot : ∀ b o, h.get? b = some o → H b = none → b ∈ fs → b ∉ ex → ∃ sl, h'.get? b = some { o with slots := sl }
  free : ∀ b o, h.get? b = some o → H b = none → b ∉ ex → H' b = none
  there : ∀ b o, h.get? b = some o → b ∉ ex → ∃ o', h'.get? b = some o'
  tups : ∀ b xs, H b = some (.tup xs) → H' b = some (.tup xs)
  frzs : ∀ b o u, H b = some (.frz o u) → H' b = some (.frz o u)
  tbls : ∀ b ps, H b = some (.tbl ps) → ∃ more, H' b = some (.tbl (ps ++ more))
section
variable {fs fs' ex ex' : List Addr} {H H1 H2 : Hp} {h h1 h2 h' : Heap} {a x e : Addr} {o : HO}
theorem Un.any (u : Un fs ex H H1 h h1) {b : Addr} {ob : Obj} (q : h.get? b = some ob) (n : H b = none) (hx : b ∉ ex) : ∃ sl, h1.get? b = some { ob with slots := sl } := by
  by_cases hb : b ∈ fs
  · exact u.slot b ob q n hb hx
  · exact ⟨ob.slots, u.keep b ob q n hb hx⟩
theorem Un.kept (k : ∀ b u, h.get? b = some u → h'.get? b = some u) : Un fs ex H H h h' :=
  ⟨fun b ob q _ _ _ => k b ob q, fun b ob q _ _ _ => ⟨ob.slots, k b ob q⟩, fun _ _ _ n _ => n, fun b ob q _ => ⟨ob, k b ob q⟩, fun _ _ q => q, fun _ _ _ q => q, fun _ ps q => ⟨#[], by rw [q]; simp⟩⟩
theorem Un.refl : Un fs ex H H h h := Un.kept fun _ _ q => q
theorem Un.laid (k : ∀ b u, h.get? b = some u → h'.get? b = some u) (hp : h.objs.size ≤ a) (hn : H a = none) : Un fs ex H (upd H a o) h h' where
  keep := fun b u q _ _ _ => k b u q
  slot := fun b u q _ _ _ => ⟨u.slots, k b u q⟩
  free := fun b u q n _ => by rw [upd_ne (Nat.ne_of_lt (Nat.lt_of_lt_of_le (Heap.lt_size q) hp))]; exact n
  there := fun b u q _ => ⟨u, k b u q⟩
  tups := fun b xs q => by rw [upd_ne (ne_of_none q hn)]; exact q
  frzs := fun b u xs q => by rw [upd_ne (ne_of_none q hn)]; exact q
  tbls := fun b ps q => ⟨#[], by rw [upd_ne (ne_of_none q hn), q]; simp⟩
theorem Un.write (mu : Mut (H x)) (he : e = x ∨ H e = some (.own x)) (k : ∀ b u, b ≠ e → h.get? b = some u → h'.get? b = some u) (heo : ∃ u, h'.get? e = some u) : Un fs ex H (upd H x o) h h' := by
  have hx : ∀ b, H b = none → b ≠ x := fun b n z => by subst z; rw [n] at mu; exact mu
  have hb : ∀ b, H b = none → b ≠ e := fun b n z => by
    subst z
    rcases he with r | r
    · exact hx b n r
    · rw [n] at r; cases r
  have hm : ∀ b u, H b = some u → ¬ Mut (some u) → b ≠ x := fun b u q nm z => by subst z; rw [q] at mu; exact nm mu
  refine ⟨fun b u q n _ _ => k b u (hb b n) q, fun b u q n _ _ => ⟨u.slots, k b u (hb b n) q⟩, fun b u q n _ => by rw [upd_ne (hx b n)]; exact n, fun b u q _ => ?_,
    fun b xs q => by rw [upd_ne (hm b _ q fun z => z)]; exact q, fun b u xs q => by rw [upd_ne (hm b _ q fun z => z)]; exact q, fun b ps q => ⟨#[], by rw [upd_ne (hm b _ q fun z => z), q]; simp⟩⟩
  by_cases hbe : b = e
  · subst hbe; exact heo
  · exact ⟨u, k b u hbe q⟩
end

/-! ### the heap without what is tracked -/
def trk (h : Heap) (H : Hp) : List Addr := (List.range h.objs.size).filter fun a => (H a).isSome
def hidT (h : Heap) (H : Hp) : Heap := PySem.W.hideAll h (trk h H)
theorem hidT_size (h : Heap) (H : Hp) : (hidT h H).objs.size = h.objs.size := PySem.W.hideAll_size _ _
theorem hidT_get {h : Heap} {H : Hp} {b : Addr} {o : Obj} (e : h.get? b = some o) (n : H b = none) : (hidT h H).get? b = some o :=
  PySem.W.hideAll_get _ e fun hm => by
    have q : (H b).isSome = true := (List.mem_filter.mp hm).2
    rw [n] at q; simp at q
theorem of_hidT {h : Heap} {H : Hp} {b : Addr} {o : Obj} (e : (hidT h H).get? b = some o) : h.get? b = some o ∧ H b = none := by
  have e' : h.get? b = some o := PySem.W.of_hideAll (trk h H) e
  refine ⟨e', ?_⟩
  cases q : H b with
  | none => rfl
  | some x =>
    have hm : b ∈ trk h H := List.mem_filter.mpr ⟨List.mem_range.mpr (Heap.lt_size e'), by simp [q]⟩
    have z : (hidT h H).get? b = none := PySem.W.hideAll_none (trk h H) hm
    rw [z] at e; cases e

/-! ### OpenK's ledger, filled with every new object but one -/
end L2

namespace L2
open PySem PySem.Spec PyProof.Rows

/-- the module's facts, over the base: the heap at the law's entry without what is tracked there -/
structure Mod (K : PySem.W.Frag) (mg : Str → Option Value) (base : Heap) : Prop where
  kin : K.In base
  glob : base.Ns mainGlobals mg
  blt : ∃ mb, base.Ns builtinsNs mb ∧ ∀ x : Str, x ≠ "__name__" → mb x = bootBuiltins x
  nolimit : base.NoLimit

/-- the context: a def's body (or a comprehension's block) running. base: fixed through the whole law; s₀, H₀: the entry; outer: the frames whose slots others may change (a def's callers); stack: all frames that run;
   ex: iterators that were made ahead of the entry and are walked here (a comprehension's); fn: the names whose cells were made at the entry (a def: all; a comprehension's block: its own); calm: not within an except suite; pn: pins that every state bears; xe: what is wanted of an exception that leaves the code -/
structure Cx where
  prog : Program
  w : World
  K : PySem.W.Frag
  mg : Str → Option Value
  base : Heap
  A : Around
  N : List Str
  s_0 : Shared
  H_0 : Hp
  env : Env
  outer : List Env
  stack : List Env
  ex : List Addr
  fn : Str → Bool
  calm : Bool
  pn : List (Addr × Obj)
  xe : Value → Shared → Prop
/-- the callers' frames -/
def frs (l : List Env) : List Addr := l.filterMap (·.frame)
abbrev Cx.fs (X : Cx) : List Addr := frs X.outer

def Vis (sc : Scope) (x : Str) : Prop := sc.names.lookup x = some .local ∨ sc.names.lookup x = some .cell ∨ sc.names.lookup x = some .free
def Loc (sc : Scope) (x : Str) : Prop := sc.names.lookup x = some .local ∨ sc.names.lookup x = some .cell
def Look (env : Env) (h : Heap) (m : Str → Option Value) (x : Str) (u : Value) : Prop :=
  (env.kindOf x = some .local ∧ m x = some u) ∨ ((env.kindOf x = some .cell ∨ env.kindOf x = some .free) ∧ ∃ c, env.cells.lookup x = some c ∧ h.IsCell c (some u))

structure Cx.Ok (X : Cx) : Prop where
  mod : Mod X.K X.mg X.base
  kind : X.env.scope.kind = .function
  glob : X.env.globals = mainGlobals
  blt : X.env.builtins = builtinsNs
  above : X.s_0.heap.objs.size ≤ X.env.locals
  inj : ∀ x y c, X.env.cells.lookup x = some c → X.env.cells.lookup y = some c → x = y
  has : ∀ x, (X.env.kindOf x = some .cell ∨ X.env.kindOf x = some .free) → ∃ c, X.env.cells.lookup x = some c
  cab : ∀ x c, X.fn x = true → X.env.cells.lookup x = some c → X.s_0.heap.objs.size ≤ c
  hd : X.calm = true → X.A.handled = none
  frames : X.A.frames = some X.stack
  stk : X.stack = X.outer ∨ (X.stack = X.env :: X.outer ∧ X.env.frame = some X.env.locals)
  exf : ∀ b ∈ X.ex, b ≠ X.env.locals ∧ ∀ x c, X.env.cells.lookup x = some c → c ≠ b
  bs : ∀ b o, X.base.get? b = some o → X.s_0.heap.get? b = some o ∧ X.H_0 b = none
  bsz : X.base.objs.size ≤ X.s_0.heap.objs.size
  noex : ∀ b o, X.base.get? b = some o → b ∉ X.ex
  exfs : ∀ b ∈ X.ex, b ∉ X.fs
  funs : X.s_0.heap.FunFrames X.base X.outer
  frf : ∀ b ∈ X.fs, X.H_0 b = none

structure Inv (X : Cx) (pins : List (Addr × Obj)) (σ : List (Option V)) (H : Hp) (s : Shared) : Prop where
  ok : X.Ok
  os : s.os = X.s_0.os
  bare : AllBare s.gens
  base : Un X.fs X.ex X.H_0 H X.s_0.heap s.heap
  loc : ∃ m, s.heap.Ns X.env.locals m ∧ ∀ (i : Nat) (x : Str) (v : V), X.N[i]? = some x → σ[i]? = some (some v) → Vis X.env.scope x → ∃ u, RelV v u ∧ Look X.env s.heap m x u
  cell : ∀ x c, X.env.cells.lookup x = some c → ∃ v, s.heap.IsCell c v
  free : H X.env.locals = none
  freeC : ∀ x c, X.env.cells.lookup x = some c → H c = none
  pin : ∀ p ∈ X.pn ++ pins, s.heap.get? p.1 = some p.2 ∧ H p.1 = none ∧ p.1 ≠ X.env.locals ∧ p.1 ∉ X.fs ∧ ∀ v, p.2.data ≠ .cell v
  hok : HOk X.prog X.w H s.heap
  len : σ.length = X.N.length

section
variable {X : Cx} {pins : List (Addr × Obj)} {σ : List (Option V)} {H H' : Hp} {s : Shared} {h' : Heap}

theorem Cx.Ok.nofr (ok : X.Ok) {b : Addr} {o : Obj} (e : X.base.get? b = some o) : b ∉ X.fs := fun hb => by
  have := (ok.funs.mem hb).1
  rw [e] at this; cases this
theorem Inv.bs (I : Inv X pins σ H s) : ∀ b o, X.base.get? b = some o → s.heap.get? b = some o ∧ H b = none := fun b o e =>
  ⟨I.base.keep b o (I.ok.bs b o e).1 (I.ok.bs b o e).2 (I.ok.nofr e) (I.ok.noex b o e), I.base.free b o (I.ok.bs b o e).1 (I.ok.bs b o e).2 (I.ok.noex b o e)⟩
theorem Inv.bk (I : Inv X pins σ H s) : ∀ b o, X.base.get? b = some o → s.heap.get? b = some o := fun b o e => (I.bs b o e).1
theorem Inv.mod (I : Inv X pins σ H s) : Mod X.K X.mg X.base := I.ok.mod
theorem Inv.kIn (I : Inv X pins σ H s) : X.K.In s.heap := I.ok.mod.kin.keeps I.bk
/-- the frame over the base: for OpenK's rules (K.In X.base is I.mod.kin) -/
theorem Inv.fr (I : Inv X pins σ H s) : ∃ m, Fr X.base X.env.locals s.heap m :=
  let ⟨m, hn, _⟩ := I.loc
  ⟨m, hn, I.bk, Nat.le_trans I.ok.bsz I.ok.above⟩
theorem Inv.lt (I : Inv X pins σ H s) : X.env.locals < s.heap.objs.size := let ⟨_, hn, _⟩ := I.loc; hn.lt
theorem Inv.sz (I : Inv X pins σ H s) : X.s_0.heap.objs.size ≤ s.heap.objs.size := Nat.le_trans I.ok.above (Nat.le_of_lt I.lt)
theorem Inv.nofs (I : Inv X pins σ H s) {a : Addr} (h : s.heap.objs.size ≤ a) : a ∉ X.fs := fun hb => by
  obtain ⟨_, o, ho, _⟩ := I.ok.funs.mem hb
  exact absurd (Nat.lt_of_lt_of_le (Heap.lt_size ho) (Nat.le_trans I.sz h)) (Nat.lt_irrefl _)
theorem Inv.cne (I : Inv X pins σ H s) : ∀ x c, X.env.cells.lookup x = some c → c ≠ X.env.locals := fun x c e z => by
  obtain ⟨v, o, ho, hd⟩ := I.cell x c e
  obtain ⟨m, ⟨o', es, ep, ho', hd', _⟩, _⟩ := I.loc
  rw [z, ho'] at ho; cases ho; rw [hd'] at hd; cases hd
theorem Inv.funs (I : Inv X pins σ H s) : s.heap.FunFrames X.base X.outer := by
  have all : ∀ (l : List Env), (∀ b ∈ frs l, b ∈ X.fs) → X.s_0.heap.FunFrames X.base l → s.heap.FunFrames X.base l := by
    intro l
    induction l with
    | nil => intro _ _; trivial
    | cons env r ih =>
      intro hs hl
      obtain ⟨hk, ⟨L, o, hf, hn, ho, hd⟩, hr⟩ := hl
      have hL : L ∈ X.fs := hs L (by unfold frs; rw [List.filterMap_cons, hf]; exact List.mem_cons_self)
      obtain ⟨sl, e⟩ := I.base.slot L o ho (I.ok.frf L hL) hL fun z => I.ok.exfs L z hL
      exact ⟨hk, ⟨L, _, hf, hn, e, hd⟩, ih (fun b hb => hs b (by unfold frs; rw [List.filterMap_cons, hf]; exact List.mem_cons_of_mem _ hb)) hr⟩
  exact all X.outer (fun _ hb => hb) I.ok.funs

/-- the frames that run, for a call -/
theorem Inv.stack (I : Inv X pins σ H s) : s.heap.FunFrames X.base X.stack := by
  rcases I.ok.stk with e | ⟨e, hf⟩
  · rw [e]; exact I.funs
  · rw [e]
    obtain ⟨m, hn, _⟩ := I.loc
    refine .cons (by rw [I.ok.kind]; decide) hf hn ?_ I.funs
    exact Heap.get?_none_of_le (Nat.le_trans I.ok.bsz I.ok.above)
theorem Inv.stkSub (I : Inv X pins σ H s) : ∀ b ∈ frs X.stack, b ∈ X.env.locals :: X.fs := fun b hb => by
  rcases I.ok.stk with e | ⟨e, hf⟩
  · rw [e] at hb; exact List.mem_cons_of_mem _ hb
  · rw [e] at hb
    unfold frs at hb
    rw [List.filterMap_cons, hf] at hb
    exact hb
theorem Inv.stkFree (I : Inv X pins σ H s) : ∀ b ∈ frs X.stack, H b = none := fun b hb => by
  rcases List.mem_cons.mp (I.stkSub b hb) with e | hb
  · rw [e]; exact I.free
  · obtain ⟨_, o, ho, _⟩ := I.ok.funs.mem hb
    exact I.base.free b o ho (I.ok.frf b hb) fun z => I.ok.exfs b z hb

/-- THE STEP: the untracked objects but the frame and the records at ch are kept (the callers' frames up to slots), the frame's map is kept, the new abstract heap is held -/
theorem Inv.step {g' : Array GenState} {t' : Nat} {d' : Drawn} {ch : List Addr} (I : Inv X pins σ H s)
    (hch : ∀ b ∈ ch, (b ∈ X.ex ∨ X.s_0.heap.objs.size ≤ b) ∧ b ≠ X.env.locals ∧ (∀ x c, X.env.cells.lookup x = some c → c ≠ b) ∧ ∀ p ∈ X.pn ++ pins, p.1 ≠ b)
    (keep : ∀ b o, b ≠ X.env.locals → b ∉ X.fs → b ∉ ch → s.heap.get? b = some o → H b = none → h'.get? b = some o)
    (slot : ∀ b o, b ≠ X.env.locals → b ∈ X.fs → b ∉ ch → s.heap.get? b = some o → H b = none → ∃ sl, h'.get? b = some { o with slots := sl }) (free : ∀ b o, b ∉ ch → s.heap.get? b = some o → H b = none → H' b = none)
    (there : ∀ b o, b ∉ ch → s.heap.get? b = some o → ∃ o', h'.get? b = some o')
    (tups : ∀ b xs, H b = some (.tup xs) → H' b = some (.tup xs)) (frzs : ∀ b o u, H b = some (.frz o u) → H' b = some (.frz o u)) (tbls : ∀ b ps, H b = some (.tbl ps) → ∃ more, H' b = some (.tbl (ps ++ more)))
    (ns : ∀ m, s.heap.Ns X.env.locals m → h'.Ns X.env.locals m) (hok : HOk X.prog X.w H' h') (hg : AllBare g') :
    Inv X pins σ H' { s with heap := h', gens := g', drawn := d', toks := t' } := by
  have neL : ∀ b o, X.s_0.heap.get? b = some o → b ≠ X.env.locals := fun b o e => Nat.ne_of_lt (Nat.lt_of_lt_of_le (Heap.lt_size e) I.ok.above)
  have neC : ∀ b o, X.s_0.heap.get? b = some o → b ∉ X.ex → b ∉ ch := fun b o e hx hb => by
    rcases (hch b hb).1 with z | z
    · exact hx z
    · exact absurd (Nat.lt_of_lt_of_le (Heap.lt_size e) z) (Nat.lt_irrefl _)
  have cellK : ∀ x c, X.env.cells.lookup x = some c → ∀ v, s.heap.IsCell c v → h'.IsCell c v := fun x c e v ⟨o, ho, hd⟩ => by
    have nch : c ∉ ch := fun z => (hch c z).2.2.1 x c e rfl
    by_cases hc : c ∈ X.fs
    · obtain ⟨sl, q⟩ := slot c o (I.cne x c e) hc nch ho (I.freeC x c e)
      exact ⟨_, q, hd⟩
    · exact ⟨o, keep c o (I.cne x c e) hc nch ho (I.freeC x c e), hd⟩
  refine ⟨I.ok, I.os, hg, ⟨fun b o e n hb hx => ?_, fun b o e n hb hx => ?_, fun b o e n hx => ?_, fun b o e hx => ?_, fun b xs e => tups b xs (I.base.tups b xs e), fun b o xs e => frzs b o xs (I.base.frzs b o xs e), fun b ps e => ?_⟩, ?_, fun x c e => ?_, ?_, fun x c e => ?_, fun p hp => ?_, hok, I.len⟩
  · exact keep b o (neL b o e) hb (neC b o e hx) (I.base.keep b o e n hb hx) (I.base.free b o e n hx)
  · obtain ⟨sl, e1⟩ := I.base.slot b o e n hb hx
    obtain ⟨sl', e2⟩ := slot b _ (neL b o e) hb (neC b o e hx) e1 (I.base.free b o e n hx)
    exact ⟨sl', e2⟩
  · obtain ⟨o', e1⟩ := I.base.there b o e hx
    exact free b o' (neC b o e hx) e1 (I.base.free b o e n hx)
  · obtain ⟨o', e1⟩ := I.base.there b o e hx
    exact there b o' (neC b o e hx) e1
  · obtain ⟨m1, e1⟩ := I.base.tbls b ps e
    obtain ⟨m2, e2⟩ := tbls b _ e1
    exact ⟨m1 ++ m2, by rw [e2, Array.append_assoc]⟩
  · obtain ⟨m, hn, hl⟩ := I.loc
    refine ⟨m, ns m hn, fun i x v e1 e2 e3 => ?_⟩
    obtain ⟨u, r, l⟩ := hl i x v e1 e2 e3
    refine ⟨u, r, ?_⟩
    rcases l with l | ⟨k, c, e, z⟩
    · exact .inl l
    · exact .inr ⟨k, c, e, cellK x c e _ z⟩
  · obtain ⟨v, z⟩ := I.cell x c e
    exact ⟨v, cellK x c e v z⟩
  · obtain ⟨m, ⟨o, _, _, ho, _⟩, _⟩ := I.loc
    exact free _ o (fun z => (hch _ z).2.1 rfl) ho I.free
  · obtain ⟨v, o, ho, hd⟩ := I.cell x c e
    exact free c o (fun z => (hch c z).2.2.1 x c e rfl) ho (I.freeC x c e)
  · obtain ⟨e, n, ne, nf, d⟩ := I.pin p hp
    have nch : p.1 ∉ ch := fun z => (hch p.1 z).2.2.2 p hp rfl
    exact ⟨keep p.1 p.2 ne nf nch e n, free p.1 p.2 nch e n, ne, nf, d⟩
/-- .. where the frame's own object is kept too -/
theorem Inv.un {t' : Nat} (I : Inv X pins σ H s) (u : Un X.fs [] H H' s.heap h') (hok : HOk X.prog X.w H' h') : Inv X pins σ H' { s with heap := h', toks := t' } := by
  obtain ⟨m, ⟨o, es, ep, ho, r⟩, _⟩ := id I.loc
  obtain ⟨sl, hL⟩ := u.any ho I.free (by simp)
  exact I.step (g' := s.gens) (d' := s.drawn) (ch := []) (fun _ z => nomatch z) (fun b o _ hb _ e n => u.keep b o e n hb (by simp)) (fun b o _ hb _ e n => u.slot b o e n hb (by simp)) (fun b o _ e n => u.free b o e n (by simp)) (fun b o _ e => u.there b o e (by simp)) u.tups u.frzs u.tbls (fun m' hm => by
    obtain ⟨o', es', ep', ho', r'⟩ := hm
    rw [ho] at ho'; cases ho'
    exact ⟨_, es', ep', hL, r'⟩) hok I.bare
/-- behind a call (or a comprehension's block): the slots of this frame may have changed too, the records at ch may have turned -/
theorem Inv.call {g' : Array GenState} {t' : Nat} {d' : Drawn} {ch : List Addr} (I : Inv X pins σ H s) (u : Un (frs X.stack) ch H H' s.heap h') (hok : HOk X.prog X.w H' h') (hg : AllBare g')
    (hch : ∀ b ∈ ch, (b ∈ X.ex ∨ X.s_0.heap.objs.size ≤ b) ∧ b ≠ X.env.locals ∧ (∀ x c, X.env.cells.lookup x = some c → c ≠ b) ∧ ∀ p ∈ X.pn ++ pins, p.1 ≠ b) :
    Inv X pins σ H' { s with heap := h', gens := g', drawn := d', toks := t' } := by
  obtain ⟨m, ⟨o, es, ep, ho, r⟩, _⟩ := id I.loc
  obtain ⟨sl, hL⟩ := u.any ho I.free fun z => (hch _ z).2.1 rfl
  exact I.step (ch := ch) hch (fun b o hL hb hc e n => u.keep b o e n (fun z => (List.mem_cons.mp (I.stkSub b z)).elim hL hb) hc) (fun b o _ _ hc e n => u.any e n hc) (fun b o hc e n => u.free b o e n hc) (fun b o hc e => u.there b o e hc) u.tups u.frzs u.tbls (fun m' hm => by
    obtain ⟨o', es', ep', ho', r'⟩ := hm
    rw [ho] at ho'; cases ho'
    exact ⟨_, es', ep', hL, r'⟩) hok hg
/-- an untracked record of ours (an iterator) has turned -/
theorem Inv.turned {t' : Nat} {it : Addr} (I : Inv X pins σ H s) (k : ∀ b o, b ≠ it → s.heap.get? b = some o → h'.get? b = some o) (hn : H it = none) (hL : it ≠ X.env.locals)
    (h1 : it ∈ X.ex ∨ X.s_0.heap.objs.size ≤ it) (h2 : ∀ x c, X.env.cells.lookup x = some c → c ≠ it) (h3 : ∀ p ∈ X.pn ++ pins, p.1 ≠ it) : Inv X pins σ H { s with heap := h', toks := t' } := by
  have nit : ∀ b u, H b = some u → b ≠ it := fun b u e z => by rw [z, hn] at e; cases e
  refine I.step (g' := s.gens) (d' := s.drawn) (ch := [it]) (fun b hb => ?_) (fun b o _ _ hc e _ => k b o (fun z => hc (by simp [z])) e) (fun b o _ _ hc e _ => ⟨o.slots, k b o (fun z => hc (by simp [z])) e⟩) (fun _ _ _ _ n => n)
    (fun b o hc e => ⟨o, k b o (fun z => hc (by simp [z])) e⟩) (fun _ _ e => e) (fun _ _ _ e => e) (fun b ps e => ⟨#[], by rw [e]; simp⟩) (fun m hm => ?_) (fun b u e => ?_) I.bare
  · have e : b = it := by simpa using hb
    subst e
    exact ⟨h1, hL, h2, h3⟩
  · obtain ⟨o, es, ep, ho, r⟩ := hm
    exact ⟨o, es, ep, k _ o (Ne.symm hL) ho, r⟩
  · refine (I.hok b u e).stay (fun c v hc q => k c v ?_ q) (fun _ q => q) fun _ _ q => q
    rcases hc with z | z
    · rw [z]; exact nit b u e
    · exact nit c _ z
theorem Inv.tok (I : Inv X pins σ H s) (t : Nat) : Inv X pins σ H { s with toks := t } := I.un (h' := s.heap) (t' := t) Un.refl I.hok
/-- all objects kept -/
theorem Inv.kept {t' : Nat} (I : Inv X pins σ H s) (k : ∀ b u, s.heap.get? b = some u → h'.get? b = some u) : Inv X pins σ H { s with heap := h', toks := t' } := I.un (Un.kept k) (I.hok.kept k)
/-- a new object laid and tracked -/
theorem Inv.laid {a : Addr} {o : HO} {t' : Nat} (I : Inv X pins σ H s) (k : ∀ b u, s.heap.get? b = some u → h'.get? b = some u) (hp : s.heap.objs.size ≤ a) (new : ObjOk X.prog X.w (upd H a o) h' a o) :
    Inv X pins σ (upd H a o) { s with heap := h', toks := t' } := I.un (Un.laid k hp (I.hok.fresh hp)) (I.hok.laid k hp new)
/-- an object written -/
theorem Inv.write {x e : Addr} {o : HO} {t' : Nat} (I : Inv X pins σ H s) (mu : Mut (H x)) (he : e = x ∨ H e = some (.own x)) (k : ∀ b u, b ≠ e → s.heap.get? b = some u → h'.get? b = some u) (heo : ∃ u, h'.get? e = some u)
    (new : ObjOk X.prog X.w (upd H x o) h' x o) : Inv X pins σ (upd H x o) { s with heap := h', toks := t' } := I.un (Un.write mu he k heo) (I.hok.write mu he k heo new)
/-- forgetting slots, pins -/
theorem Inv.weak {σ' : List (Option V)} (I : Inv X pins σ H s) (hl : σ'.length = σ.length) (w : ∀ (i : Nat) v, σ'[i]? = some (some v) → σ[i]? = some (some v)) : Inv X pins σ' H s :=
  ⟨I.ok, I.os, I.bare, I.base, let ⟨m, hn, hl'⟩ := I.loc; ⟨m, hn, fun i x v e1 e2 e3 => hl' i x v e1 (w i v e2) e3⟩, I.cell, I.free, I.freeC, I.pin, I.hok, hl.trans I.len⟩
theorem Inv.pins_of {pins' : List (Addr × Obj)} (I : Inv X pins σ H s) (h : ∀ p ∈ pins', s.heap.get? p.1 = some p.2 ∧ H p.1 = none ∧ p.1 ≠ X.env.locals ∧ p.1 ∉ X.fs ∧ ∀ v, p.2.data ≠ .cell v) : Inv X pins' σ H s :=
  ⟨I.ok, I.os, I.bare, I.base, I.loc, I.cell, I.free, I.freeC, fun p hp => (List.mem_append.mp hp).elim (fun z => I.pin p (List.mem_append_left _ z)) (h p), I.hok, I.len⟩

theorem nodup_ix {N : List Str} (hN : N.Nodup) {i j : Nat} {x : Str} (a : N[i]? = some x) (b : N[j]? = some x) : i = j := by
  obtain ⟨h1, e1⟩ := List.getElem?_eq_some_iff.mp a
  obtain ⟨h2, e2⟩ := List.getElem?_eq_some_iff.mp b
  exact (List.getElem_inj hN).mp (e1.trans e2.symm)

/-- a name is stored; what changed -/
theorem store_ok2 {M : Model} {A : Around} {E : Value → Shared → Prop} {i : Nat} {x : Str} {v : V} {u : Value} {Q : Unit → Shared → Prop} (I : Inv X pins σ H s) (hN : X.N.Nodup) (hi : X.N[i]? = some x) (hx : Loc X.env.scope x) (r : RelV v u)
    (h : ∀ s', Inv X pins (σ.set i (some v)) H s' → (∃ a, Heap.SameBut a s.heap s'.heap ∧ (a = X.env.locals ∨ X.env.cells.lookup x = some a)) → Q () s') (hf : X.fn x = true ∨ X.env.scope.names.lookup x = some .local := by first | exact .inl rfl | exact .inr rfl | assumption) : wpAny M A (storeName X.env x u) Q E s := by
  obtain ⟨m, hn, hl⟩ := id I.loc
  have hcls : (X.env.scope.kind == .class || (X.env.scope.kind == .module && X.env.locals != X.env.globals)) = false := by rw [I.ok.kind]; rfl
  have hiσ : i < σ.length := by rw [I.len]; exact (List.getElem?_eq_some_iff.mp hi).1
  have cne := I.cne
  have tracked : ∀ {a : Addr} {h' : Heap}, (∃ o, s.heap.get? a = some o ∧ H a = none) → Heap.SameBut a s.heap h' → HOk X.prog X.w H h' := fun {a h'} ha hs b ob e => by
    obtain ⟨_, _, hfree⟩ := ha
    refine (I.hok b ob e).stay (fun c w' hc q => (hs.2 c ?_).trans q) (fun _ q => q) fun _ _ q => q
    rintro rfl
    rcases hc with rfl | hc
    · rw [hfree] at e; cases e
    · rw [hfree] at hc; cases hc
  rcases hx with hk | hk
  · refine wpAny_storeName_local hk hn (fun h' hn' hs => ?_) hcls
    obtain ⟨oL, _, _, hoL, _⟩ := id hn
    refine h _ ⟨I.ok, I.os, I.bare, ⟨fun b o e n hb hx => ?_, fun b o e n hb hx => ?_, I.base.free, fun b o e hx => ?_, I.base.tups, I.base.frzs, I.base.tbls⟩, ⟨_, hn', fun j y v' e1 e2 e3 => ?_⟩, fun y c e => ?_, I.free, I.freeC, fun p hp => ?_, tracked ⟨oL, hoL, I.free⟩ hs, by simpa using I.len⟩ ⟨_, hs, .inl rfl⟩
    · exact (hs.2 b (Nat.ne_of_lt (Nat.lt_of_lt_of_le (Heap.lt_size e) I.ok.above))).trans (I.base.keep b o e n hb hx)
    · obtain ⟨sl, e1⟩ := I.base.slot b o e n hb hx
      exact ⟨sl, (hs.2 b (Nat.ne_of_lt (Nat.lt_of_lt_of_le (Heap.lt_size e) I.ok.above))).trans e1⟩
    · obtain ⟨o', e1⟩ := I.base.there b o e hx
      exact ⟨o', (hs.2 b (Nat.ne_of_lt (Nat.lt_of_lt_of_le (Heap.lt_size e) I.ok.above))).trans e1⟩
    · by_cases hj : j = i
      · subst hj
        rw [hi] at e1; cases e1
        rw [List.getElem?_set_self hiσ] at e2
        cases e2
        exact ⟨u, r, .inl ⟨hk, by simp⟩⟩
      · rw [List.getElem?_set_ne (Ne.symm hj)] at e2
        obtain ⟨u', r', q⟩ := hl j y v' e1 e2 e3
        refine ⟨u', r', ?_⟩
        rcases q with ⟨k, e⟩ | ⟨k, c, e, z⟩
        · refine .inl ⟨k, ?_⟩
          have : y ≠ x := fun e => hj (nodup_ix hN e1 (e ▸ hi))
          simp [this, e]
        · exact .inr ⟨k, c, e, z.sameBut hs (cne y c e)⟩
    · obtain ⟨w', z⟩ := I.cell y c e
      exact ⟨w', z.sameBut hs (cne y c e)⟩
    · obtain ⟨e, n, ne, nf, d⟩ := I.pin p hp
      exact ⟨(hs.2 p.1 ne).trans e, n, ne, nf, d⟩
  · have hfn : X.fn x = true := by
      rcases hf with z | z
      · exact z
      · rw [z] at hk; cases hk
    obtain ⟨c, hc⟩ := I.ok.has x (.inl hk)
    obtain ⟨w', z⟩ := I.cell x c hc
    refine wpAny_storeName_cell I.ok.kind hk hc z (fun h' hc' hs => ?_)
    obtain ⟨oc, hoc, hocd⟩ := id z
    refine h { s with heap := h' } ⟨I.ok, I.os, I.bare, ⟨fun b o e n hb hx => ?_, fun b o e n hb hx => ?_, I.base.free, fun b o e hx => ?_, I.base.tups, I.base.frzs, I.base.tbls⟩, ⟨m, hn.sameBut hs (Ne.symm (cne x c hc)), fun j y v' e1 e2 e3 => ?_⟩, fun y c' e => ?_, I.free, I.freeC, fun p hp => ?_, tracked ⟨oc, hoc, I.freeC x c hc⟩ hs, by simpa using I.len⟩ ⟨c, hs, .inr hc⟩
    · exact (hs.2 b (Nat.ne_of_lt (Nat.lt_of_lt_of_le (Heap.lt_size e) (I.ok.cab x c hfn hc)))).trans (I.base.keep b o e n hb hx)
    · obtain ⟨sl, e1⟩ := I.base.slot b o e n hb hx
      exact ⟨sl, (hs.2 b (Nat.ne_of_lt (Nat.lt_of_lt_of_le (Heap.lt_size e) (I.ok.cab x c hfn hc)))).trans e1⟩
    · obtain ⟨o', e1⟩ := I.base.there b o e hx
      exact ⟨o', (hs.2 b (Nat.ne_of_lt (Nat.lt_of_lt_of_le (Heap.lt_size e) (I.ok.cab x c hfn hc)))).trans e1⟩
    · by_cases hj : j = i
      · subst hj
        rw [hi] at e1; cases e1
        rw [List.getElem?_set_self hiσ] at e2
        cases e2
        exact ⟨u, r, .inr ⟨.inl hk, c, hc, hc'⟩⟩
      · rw [List.getElem?_set_ne (Ne.symm hj)] at e2
        obtain ⟨u', r', q⟩ := hl j y v' e1 e2 e3
        refine ⟨u', r', ?_⟩
        rcases q with q | ⟨k, c', e, z'⟩
        · exact .inl q
        · refine .inr ⟨k, c', e, z'.sameBut hs ?_⟩
          rintro rfl
          exact hj (nodup_ix hN e1 (I.ok.inj _ _ _ e hc ▸ hi))
    · by_cases hcc : c' = c
      · subst hcc; exact ⟨_, hc'⟩
      · obtain ⟨w2, z2⟩ := I.cell y c' e
        exact ⟨w2, z2.sameBut hs hcc⟩
    · obtain ⟨e, n, ne, nf, d⟩ := I.pin p hp
      refine ⟨(hs.2 p.1 ?_).trans e, n, ne, nf, d⟩
      intro q
      rw [q, hoc] at e
      have q' : oc = p.2 := Option.some.inj e
      exact d w' (by rw [← q']; exact hocd)
theorem store_ok {M : Model} {A : Around} {E : Value → Shared → Prop} {i : Nat} {x : Str} {v : V} {u : Value} {Q : Unit → Shared → Prop} (I : Inv X pins σ H s) (hN : X.N.Nodup) (hi : X.N[i]? = some x) (hx : Loc X.env.scope x) (r : RelV v u)
    (h : ∀ s', Inv X pins (σ.set i (some v)) H s' → Q () s') (hf : X.fn x = true ∨ X.env.scope.names.lookup x = some .local := by first | exact .inl rfl | exact .inr rfl | assumption) : wpAny M A (storeName X.env x u) Q E s :=
  store_ok2 I hN hi hx r (fun s' I' _ => h s' I') hf
/-- behind a call or a block, the state as it is -/
theorem Inv.call' {s' : Shared} {ch : List Addr} (I : Inv X pins σ H s) (ho : s'.os = s.os) (u : Un (frs X.stack) ch H H' s.heap s'.heap) (hok : HOk X.prog X.w H' s'.heap) (hg : AllBare s'.gens)
    (hch : ∀ b ∈ ch, (b ∈ X.ex ∨ X.s_0.heap.objs.size ≤ b) ∧ b ≠ X.env.locals ∧ (∀ x c, X.env.cells.lookup x = some c → c ≠ b) ∧ ∀ p ∈ X.pn ++ pins, p.1 ≠ b) : Inv X pins σ H' s' := by
  obtain ⟨h', g', d', t', o'⟩ := s'
  have e : o' = s.os := ho
  subst e
  exact I.call (g' := g') (t' := t') (d' := d') u hok hg hch
end

/-! ### the judgements -/
/-- an exception: its class, its own dict's address (where it has one), the abstract heap behind it -/
abbrev XK := Value → Option Addr → Hp → Prop
abbrev St := List (Option V)
abbrev VK := V → Hp → Prop
/-- an expression's reading; a test's; an argument list's -/
abbrev TE := St → Hp → VK → Prop
abbrev TT := St → Hp → (Bool → Hp → Prop) → Prop
abbrev TA := St → Hp → (List V → Hp → Prop) → Prop
/-- what is wanted behind a statement -/
structure Ends where
  nx : St → Hp → Prop
  rt : VK
  bk : St → Hp → Prop := fun _ _ => False
  ct : St → Hp → Prop := fun _ _ => False
abbrev TS := Ends → St → Hp → Prop

def EP (X : Cx) (pins : List (Addr × Obj)) (σ : St) (Q : VK) (u : Value) (s' : Shared) : Prop := ∃ v H', Inv X pins σ H' s' ∧ RelV v u ∧ Q v H'
def TP (X : Cx) (pins : List (Addr × Obj)) (σ : St) (Q : Bool → Hp → Prop) (b : Bool) (s' : Shared) : Prop := ∃ H', Inv X pins σ H' s' ∧ Q b H'
def AP (X : Cx) (pins : List (Addr × Obj)) (σ : St) (Q : List V → Hp → Prop) (us : List Value) (s' : Shared) : Prop := ∃ vs H', Inv X pins σ H' s' ∧ Vals vs us ∧ Q vs H'
def SP (X : Cx) (pins : List (Addr × Obj)) (D : Ends) (f : Flow) (s' : Shared) : Prop :=
  match f with
  | .next => ∃ σ' H', Inv X pins σ' H' s' ∧ D.nx σ' H'
  | .brk => ∃ σ' H', Inv X pins σ' H' s' ∧ D.bk σ' H'
  | .cont => ∃ σ' H', Inv X pins σ' H' s' ∧ D.ct σ' H'
  | .ret u => ∃ v σ' H', Inv X pins σ' H' s' ∧ RelV v u ∧ D.rt v H'

def PE (X : Cx) (e : Expr) (t : TE) : Prop :=
  ∀ (pins : List (Addr × Obj)) (s : Shared) (σ : St) (H : Hp) (Q : VK), Inv X pins σ H s → t σ H Q → wpAny (model X.prog X.w) X.A (eval e X.env) (EP X pins σ Q) X.xe s
def PT (X : Cx) (e : Expr) (t : TT) : Prop :=
  ∀ (pins : List (Addr × Obj)) (s : Shared) (σ : St) (H : Hp) (Q : Bool → Hp → Prop), Inv X pins σ H s → t σ H Q → wpAny (model X.prog X.w) X.A (isTrue e X.env (eval e X.env)) (TP X pins σ Q) X.xe s
/-- a test whatever its 'whole' is (and, or) -/
def PW (X : Cx) (e : Expr) (t : TT) : Prop :=
  ∀ (whole : Sem Value) (pins : List (Addr × Obj)) (s : Shared) (σ : St) (H : Hp) (Q : Bool → Hp → Prop), Inv X pins σ H s → t σ H Q → wpAny (model X.prog X.w) X.A (isTrue e X.env whole) (TP X pins σ Q) X.xe s
theorem PW.pt {X : Cx} {e : Expr} {t : TT} (h : PW X e t) : PT X e t := h _
/-- an argument list (no star), from the left -/
def PA (X : Cx) (es : List Expr) (t : TA) : Prop :=
  ∀ (pos : Pos) (pins : List (Addr × Obj)) (s : Shared) (σ : St) (H : Hp) (Q : List V → Hp → Prop), Inv X pins σ H s → t σ H Q → wpAny (model X.prog X.w) X.A (spliced (backTo pos (starEach es X.env))) (AP X pins σ Q) X.xe s
def PS (X : Cx) (st : Stmt) (t : TS) : Prop :=
  ∀ (pins : List (Addr × Obj)) (s : Shared) (σ : St) (H : Hp) (D : Ends), Inv X pins σ H s → t D σ H → wpAny (model X.prog X.w) X.A (exec st X.env) (SP X pins D) X.xe s
def PSs (X : Cx) (st : List Stmt) (t : TS) : Prop :=
  ∀ (pins : List (Addr × Obj)) (s : Shared) (σ : St) (H : Hp) (D : Ends), Inv X pins σ H s → t D σ H → wpAny (model X.prog X.w) X.A (execs st X.env) (SP X pins D) X.xe s
/-- weaken the end -/
theorem thn {α : Type} {t : Sem α} {Q Q' : α → Shared → Prop} {M : Model} {A : Around} {E : Value → Shared → Prop} {s : Shared} (h : wpAny M A t Q E s) (hQ : ∀ a s, Q a s → Q' a s) : wpAny M A t Q' E s := wpAny_mono h hQ fun _ _ x => x
end L2

namespace L2
open PySem PySem.Spec PyProof.Rows
section
variable {X : Cx}

/-- two expressions in a row -/
theorem bin {a b : Expr} {ta tb : TE} (ha : PE X a ta) (hb : PE X b tb) {pins : List (Addr × Obj)} {s : Shared} {σ : St} {H : Hp} {R : V → V → Hp → Prop} (I : Inv X pins σ H s) (h : ta σ H fun x H1 => tb σ H1 fun y H2 => R x y H2)
    {α : Type} {Q : α → Shared → Prop} {f : Value → Value → Sem α}
    (hf : ∀ v u s2 x y H2, Inv X pins σ H2 s2 → RelV x v → RelV y u → R x y H2 → wpAny (model X.prog X.w) X.A (f v u) Q X.xe s2) :
    wpAny (model X.prog X.w) X.A (eval a X.env) (fun v s₁ => wpAny (model X.prog X.w) X.A (eval b X.env) (fun u s₂ => wpAny (model X.prog X.w) X.A (f v u) Q X.xe s₂) X.xe s₁) X.xe s := by
  refine thn (ha pins s σ H _ I h) fun v s1 ⟨x, H1, I1, r1, q1⟩ => ?_
  refine thn (hb pins s1 σ H1 _ I1 q1) fun u s2 ⟨y, H2, I2, r2, q2⟩ => ?_
  exact hf v u s2 x y H2 I2 r1 r2 q2

/-! ### names and constants -/
def tVar (i : Nat) : TE := fun σ H Q => ∃ v, σ[i]? = some (some v) ∧ Q v H
def tC (v : V) : TE := fun _ H Q => Q v H
theorem pe_var {i : Nat} {x : Str} {pos : Pos} (hN : X.N[i]? = some x) (hv : Vis X.env.scope x) (hd : (x == ("__debug__" : Str)) = false := by decide) (hcd : (x == ("__classdict__" : Str)) = false := by decide) : PE X (.Name x pos) (tVar i) := by
  intro pins s σ H Q I h
  obtain ⟨v, e, h⟩ := h
  obtain ⟨m, hn, hl⟩ := I.loc
  obtain ⟨u, r, l⟩ := hl i x v hN e hv
  have fin : EP X pins σ Q u s := ⟨v, H, I, r, h⟩
  rcases l with ⟨hk, hm⟩ | ⟨hk, c, hc, hcell⟩
  · exact wpAny_Name (wpAny_loadName_local I.ok.kind hk hn hm fin) hd
  · rcases hk with hk | hk
    · exact wpAny_Name (wpAny_loadName_cell I.ok.kind hk hc hcell fin) hd
    · exact wpAny_Name (wpAny_loadName_free I.ok.kind hk hc hcell fin hcd) hd
theorem pe_int {i j pos} : PE X (.Constant (.int i) j pos) (tC (.int i)) := fun _ _ _ H _ I h => wpAny_Constant_int ⟨.int i, H, I.tok _, ⟨_, rfl⟩, h⟩
theorem pe_bl {b j pos} : PE X (.Constant (.bool b) j pos) (tC (.bl b)) := fun _ _ _ H _ I h => Constant_bool ⟨.bl b, H, I, rfl, h⟩

/-- a global name of the def -/
def Gl (X : Cx) (x : Str) : Prop := X.env.kindOf x = some .globalImplicit
theorem ld_glob {E : Value → Shared → Prop} {pins : List (Addr × Obj)} {s : Shared} {σ : St} {H : Hp} {x : Str} {u : Value} {pos : Pos} {Q : Value → Shared → Prop} (I : Inv X pins σ H s) (hg : Gl X x) (hm : X.mg x = some u) (h : Q u s)
    (hd : (x == ("__debug__" : Str)) = false := by decide) : wpAny (model X.prog X.w) X.A (eval (.Name x pos) X.env) Q E s :=
  Calls.Name_function_global I.ok.kind hg (Calls.loadGlobal_global (by rw [I.ok.glob]; exact I.mod.glob.keeps I.bk) hm h) hd
theorem ld_blt {E : Value → Shared → Prop} {pins : List (Addr × Obj)} {s : Shared} {σ : St} {H : Hp} {x : Str} {u : Value} {pos : Pos} {Q : Value → Shared → Prop} (I : Inv X pins σ H s) (hg : Gl X x) (hm : X.mg x = none) (hv : bootBuiltins x = some u) (h : Q u s)
    (hn : x ≠ "__name__" := by decide) (hd : (x == ("__debug__" : Str)) = false := by decide) : wpAny (model X.prog X.w) X.A (eval (.Name x pos) X.env) Q E s := by
  obtain ⟨mb, h1, h2⟩ := I.mod.blt
  exact Calls.Name_function_global I.ok.kind hg (Calls.loadGlobal_builtin (by rw [I.ok.glob]; exact I.mod.glob.keeps I.bk) hm (by rw [I.ok.blt]; exact h1.keeps I.bk) ((h2 x hn).trans hv) h) hd
/-- a module's constant, a class, a function, as a value -/
theorem pe_glob {x : Str} {v : V} {u : Value} {pos : Pos} (hg : Gl X x) (hm : X.mg x = some u) (r : RelV v u) (hd : (x == ("__debug__" : Str)) = false := by decide) : PE X (.Name x pos) (tC v) :=
  fun _ _ _ H _ I h => ld_glob I hg hm ⟨v, H, I, r, h⟩ hd

/-! ### arithmetic -/
variable {a b : Expr} {ta tb : TE} {pos : Pos}

/-! ### comparisons -/
def PC (X : Cx) (op : CmpOp) (a b : Expr) (t : TE) : Prop :=
  ∀ (pins : List (Addr × Obj)) (s : Shared) (σ : St) (H : Hp) (Q : VK), Inv X pins σ H s → t σ H Q →
    wpAny (model X.prog X.w) X.A (eval a X.env) (fun v s₁ => wpAny (model X.prog X.w) X.A (eval b X.env) (fun u s₂ => wpAny (model X.prog X.w) X.A (compareOp op v u) (EP X pins σ Q) X.xe s₂) X.xe s₁) X.xe s
/-- a comparison as a value, as a test -/
def tB (t : TE) : TT := fun σ H Q => t σ H fun x H1 => ∃ c, x = .bl c ∧ Q c H1
theorem pt_cmp {op : CmpOp} {t : TE} (h : PC X op a b t) (h1 : behindInMarks op b = false := by first | exact nobehind _ (by decide) (by decide) | rfl) : PT X (.Compare a [op] [b] pos) (tB t) := by
  intro pins s σ H Q I hw
  refine wpAny_isTrue_Compare1 (thn (h pins s σ H _ I hw) fun v s1 h1 => thn h1 fun u s2 h2 => thn h2 fun c s3 ⟨x, H1, I1, r1, q1⟩ => ?_) h1
  obtain ⟨d, rfl, q⟩ := q1
  cases r1
  exact wpAny_truthy_bool ⟨H1, I1, q⟩
/-- an expression whose value is a bool, as a test -/
theorem pt_val {e : Expr} {t : TE} (h : PE X e t) (he : ∀ whole, isTrue e X.env whole = (do let v ← whole; standAt e.pos; holding [v] (truthy v)) := by intro _; rfl) : PT X e (tB t) := by
  intro pins s σ H Q I hw
  refine isTrue_plain (thn (h pins s σ H _ I hw) fun v s1 ⟨x, H1, I1, r1, q1⟩ => ?_) (he _)
  obtain ⟨d, rfl, q⟩ := q1
  cases r1
  exact wpAny_truthy_bool ⟨H1, I1, q⟩

/-! ### and, or, not -/
variable {tA tB' : TT} {rest : List Expr}
def tAnd (t u : TT) : TT := fun σ H Q => t σ H fun c H1 => if c = true then u σ H1 Q else Q false H1
def tOr (t u : TT) : TT := fun σ H Q => t σ H fun c H1 => if c = true then Q true H1 else u σ H1 Q
def tNot (t : TT) : TT := fun σ H Q => t σ H fun c H1 => Q (!c) H1
theorem pw_and1 (ha : PT X a tA) : PW X (.BoolOp .And [a] pos) tA := by
  intro wh pins s σ H Q I h
  refine isTrue_and (thn (ha pins s σ H Q I h) fun c s1 e => ?_)
  cases c with
  | true => exact isTrue_and_nil e
  | false => exact e
theorem pw_or1 (ha : PT X a tA) : PW X (.BoolOp .Or [a] pos) tA := by
  intro wh pins s σ H Q I h
  refine isTrue_or (thn (ha pins s σ H Q I h) fun c s1 e => ?_)
  cases c with
  | false => exact isTrue_or_nil e
  | true => exact e
theorem pw_and (ha : PT X a tA) (hb : PW X (.BoolOp .And (b :: rest) pos) tB') : PW X (.BoolOp .And (a :: b :: rest) pos) (tAnd tA tB') := by
  intro wh pins s σ H Q I h
  refine isTrue_and (thn (ha pins s σ H _ I h) fun c s1 ⟨H1, I1, q1⟩ => ?_)
  cases c with
  | true => exact hb wh pins s1 σ H1 Q I1 q1
  | false => exact ⟨H1, I1, q1⟩
theorem pw_or (ha : PT X a tA) (hb : PW X (.BoolOp .Or (b :: rest) pos) tB') : PW X (.BoolOp .Or (a :: b :: rest) pos) (tOr tA tB') := by
  intro wh pins s σ H Q I h
  refine isTrue_or (thn (ha pins s σ H _ I h) fun c s1 ⟨H1, I1, q1⟩ => ?_)
  cases c with
  | true => exact ⟨H1, I1, q1⟩
  | false => exact hb wh pins s1 σ H1 Q I1 q1
theorem pt_not (ha : PT X a tA) : PT X (.UnaryOp .Not a pos) (tNot tA) := by
  intro pins s σ H Q I h
  exact isTrue_not (ha pins s σ H (fun c H1 => Q (!c) H1) I h)
/-- .. as values (bools) -/
def tAndV (ta tb : TE) : TE := fun σ H Q => ta σ H fun x H1 => ∃ c, x = .bl c ∧ if c = true then tb σ H1 Q else Q (.bl false) H1
theorem pe_one {op} {t : TE} (h : PE X a t) : PE X (.BoolOp op [a] pos) t := fun pins s σ H Q I hw => BoolOp_one (h pins s σ H Q I hw)
theorem pe_and (ha : PE X a ta) (hb : PE X (.BoolOp .And (b :: rest) pos) tb) : PE X (.BoolOp .And (a :: b :: rest) pos) (tAndV ta tb) := by
  intro pins s σ H Q I h
  refine BoolOp_and (thn (ha pins s σ H _ I h) fun v s1 ⟨x, H1, I1, r1, q1⟩ => ?_)
  obtain ⟨c, rfl, q1⟩ := q1
  cases r1
  refine wpAny_truthy_bool ?_
  cases c with
  | true => exact hb pins s1 σ H1 Q I1 q1
  | false => exact ⟨.bl false, H1, I1, rfl, q1⟩
end
end L2

namespace L2
open PySem PySem.Spec PyProof.Rows

/-! ### a list, a tuple that is read: tracked, frozen, or an object of the module -/
def SqL (K : PySem.W.Frag) (H : Hp) (a : Addr) (xs : List V) : Prop :=
  Rd H a (.lst xs) ∨
    ∃ (o : Obj) (its : Array Value) (n : Nat), K.lookup a = some o ∧ o.cls = .type "list" ∧ o.dict = none ∧ o.data = .seq its n ∧ its.size ≤ sizeLine ∧ Vals xs its.toList
def SqT (K : PySem.W.Frag) (H : Hp) (a : Addr) (xs : List V) : Prop :=
  Rd H a (.tup xs) ∨
    ∃ (o : Obj) (its : Array Value) (n : Nat), K.lookup a = some o ∧ o.cls = .type "tuple" ∧ o.data = .seq its n ∧ its.size ≤ sizeLine ∧ Vals xs its.toList
def absV : Value → Option V
  | .none => some .non
  | .bool b => some (.bl b)
  | .int i _ => some (.int i)
  | .str x _ => some (.str x)
  | .bytes b _ => some (.byt b)
  | .float b _ => some (.flt b)
  | .ref a => some (.ref a)
  | .type n => some (.ty n)
  | _ => none
theorem RelV.abs {x : V} {u : Value} (r : RelV x u) : absV u = some x := by
  cases x with
  | non => cases r; rfl
  | bl _ => cases r; rfl
  | int _ => obtain ⟨t, rfl⟩ := r; rfl
  | str _ => obtain ⟨t, rfl⟩ := r; rfl
  | byt _ => obtain ⟨t, rfl⟩ := r; rfl
  | flt _ => obtain ⟨t, rfl⟩ := r; rfl
  | ref _ => cases r; rfl
  | ty _ => cases r; rfl
theorem RelV.inj {x y : V} {u : Value} (r : RelV x u) (q : RelV y u) : x = y := Option.some.inj (r.abs.symm.trans q.abs)
theorem Vals.inj : ∀ {xs ys : List V} {us : List Value}, Vals xs us → Vals ys us → xs = ys
  | _, _, _, .nil, .nil => rfl
  | _, _, _, .cons r t, .cons r' t' => by rw [r.inj r', Vals.inj t t']
section
variable {X : Cx} {pins : List (Addr × Obj)} {σ : St} {H : Hp} {s : Shared} {a : Addr} {xs ys : List V}
theorem SqL.of {K : PySem.W.Frag} (h : H a = some (.lst xs)) : SqL K H a xs := .inl (.inl h)
theorem Inv.list (I : Inv X pins σ H s) (h : SqL X.K H a xs) : ∃ its : List Value, Vals xs its ∧ PlainL s.heap a its.toArray ∧ xs.length ≤ sizeLine := by
  rcases h with h | ⟨o, its, n, hk, hc, hd, hs, hz, r⟩
  · obtain ⟨z, its, n, r, e⟩ := h.ok I.hok
    exact ⟨its, r, ⟨_, n, e, rfl, rfl, rfl⟩, z⟩
  · refine ⟨its.toList, r, ⟨o, n, I.kIn a o hk, hc, hd, by simpa using hs⟩, ?_⟩
    have e := r.length
    simp only [Array.length_toList] at e
    omega
theorem Inv.tuple (I : Inv X pins σ H s) (h : SqT X.K H a xs) : ∃ its : List Value, Vals xs its ∧ IsTup s.heap a its.toArray ∧ xs.length ≤ sizeLine := by
  rcases h with h | ⟨o, its, n, hk, hc, hs, hz, r⟩
  · obtain ⟨z, its, r, p⟩ := h.ok I.hok
    exact ⟨its, r, p, z⟩
  · refine ⟨its.toList, r, ⟨o, I.kIn a o hk, hc, n, by simpa using hs⟩, ?_⟩
    have e := r.length
    simp only [Array.length_toList] at e
    omega
theorem Inv.list_inj (I : Inv X pins σ H s) (h : SqL X.K H a xs) (h' : SqL X.K H a ys) : xs = ys := by
  obtain ⟨its, r, ⟨o, n, e, _, _, d⟩, _⟩ := I.list h
  obtain ⟨its', r', ⟨o', n', e', _, _, d'⟩, _⟩ := I.list h'
  rw [e] at e'; cases e'
  rw [d] at d'
  injection d' with d1 _
  have : its = its' := by simpa using congrArg Array.toList d1
  subst this
  exact r.inj r'
end

/-! ### another wish about exceptions -/
abbrev Cx.wish (X : Cx) (E : Value → Shared → Prop) : Cx := { X with xe := E }
/-- no exception leaves -/
abbrev Cx.nox (X : Cx) : Cx := X.wish fun _ _ => False
theorem Cx.Ok.wish {X : Cx} (ok : X.Ok) (E : Value → Shared → Prop) : (X.wish E).Ok :=
  ⟨ok.mod, ok.kind, ok.glob, ok.blt, ok.above, ok.inj, ok.has, ok.cab, ok.hd, ok.frames, ok.stk, ok.exf, ok.bs, ok.bsz, ok.noex, ok.exfs, ok.funs, ok.frf⟩
theorem Cx.Ok.unwish {X : Cx} {E : Value → Shared → Prop} (ok : (X.wish E).Ok) : X.Ok :=
  ⟨ok.mod, ok.kind, ok.glob, ok.blt, ok.above, ok.inj, ok.has, ok.cab, ok.hd, ok.frames, ok.stk, ok.exf, ok.bs, ok.bsz, ok.noex, ok.exfs, ok.funs, ok.frf⟩
section
variable {X : Cx} {pins : List (Addr × Obj)} {σ : St} {H : Hp} {s : Shared} {E : Value → Shared → Prop}
theorem Inv.wish (I : Inv X pins σ H s) (E : Value → Shared → Prop) : Inv (X.wish E) pins σ H s := ⟨I.ok.wish E, I.os, I.bare, I.base, I.loc, I.cell, I.free, I.freeC, I.pin, I.hok, I.len⟩
theorem Inv.unwish (I : Inv (X.wish E) pins σ H s) : Inv X pins σ H s := ⟨I.ok.unwish, I.os, I.bare, I.base, I.loc, I.cell, I.free, I.freeC, I.pin, I.hok, I.len⟩
theorem SP.unwish {D : Ends} {f : Flow} {s' : Shared} (h : SP (X.wish E) pins D f s') : SP X pins D f s' := by
  cases f with
  | next => obtain ⟨σ', H', I, q⟩ := h; exact ⟨σ', H', I.unwish, q⟩
  | brk => obtain ⟨σ', H', I, q⟩ := h; exact ⟨σ', H', I.unwish, q⟩
  | cont => obtain ⟨σ', H', I, q⟩ := h; exact ⟨σ', H', I.unwish, q⟩
  | ret u => obtain ⟨v, σ', H', I, r, q⟩ := h; exact ⟨v, σ', H', I.unwish, r, q⟩
theorem PSs.nox {st : List Stmt} {t : TS} (h : PSs X.nox st t) : PSs X st t := fun pins s σ H D I hw =>
  wpAny_mono (h pins s σ H D (I.wish _) hw) (fun _ _ q => q.unwish) fun _ _ z => False.elim z
end

/-! ### blocks and small statements -/
section
variable {X : Cx} {st : Stmt} {rest : List Stmt} {t u : TS} {e : Expr} {te : TE} {pos : Pos}
def tNext : TS := fun D σ H => D.nx σ H
def tSeq (t u : TS) : TS := fun D σ H => t { D with nx := u D } σ H
theorem pss_nil : PSs X [] tNext := fun _ _ σ H _ I h => wpAny_execs_nil ⟨σ, H, I, h⟩
theorem pss_cons (h1 : PS X st t) (h2 : PSs X rest u) : PSs X (st :: rest) (tSeq t u) := by
  intro pins s σ H D I h
  refine wpAny_execs_cons (thn (h1 pins s σ H { D with nx := u D } I h) fun f s1 q => ?_)
  cases f with
  | next =>
    obtain ⟨σ', H', I', q⟩ := q
    exact h2 pins s1 σ' H' D I' q
  | ret v => exact q
  | brk => exact q
  | cont => exact q
theorem pss_one (h1 : PS X st t) : PSs X [st] t := by
  intro pins s σ H D I h
  refine wpAny_execs_cons (thn (h1 pins s σ H D I h) fun f s1 q => ?_)
  cases f with
  | next => exact wpAny_execs_nil q
  | ret v => exact q
  | brk => exact q
  | cont => exact q
def tCont : TS := fun D σ H => D.ct σ H
theorem ps_continue : PS X (.Continue pos) tCont := fun _ _ σ H _ I h => wpAny_Continue ⟨σ, H, I, h⟩
/-- in a def's body nothing is shown -/
theorem Inv.quiet {pins : List (Addr × Obj)} {σ : St} {H : Hp} {s : Shared} (I : Inv X pins σ H s) : interactive X.env = false := by simp [interactive, I.ok.kind]
/-- an expression whose value is dropped -/
def tDrop (te : TE) : TS := fun D σ H => te σ H fun _ H1 => D.nx σ H1
theorem ps_expr (he : PE X e te) (hs : swapsWith e none pos.line X.env = pure false := by rfl) : PS X (.Expr e pos) (tDrop te) := by
  intro pins s σ H D I h
  exact wpAny_Expr_any (thn (he pins s σ H _ I h) fun v s1 ⟨x, H1, I1, r1, q1⟩ => ⟨σ, H1, I1, q1⟩) I.quiet hs
def tRet (te : TE) : TS := fun D σ H => te σ H D.rt
theorem ps_ret (he : PE X e te) : PS X (.Return (some e) pos) (tRet te) := by
  intro pins s σ H D I h
  exact wpAny_Return_some (thn (he pins s σ H _ I h) fun v s1 ⟨x, H1, I1, r1, q1⟩ => ⟨x, σ, H1, I1, r1, q1⟩)
def tIfS (c : TT) (t u : TS) : TS := fun D σ H => c σ H fun b H1 => if b = true then t D σ H1 else u D σ H1
theorem ps_if {c : Expr} {a b : List Stmt} {tc : TT} (hc : PT X c tc) (ha : PSs X a t) (hb : PSs X b u) : PS X (.If c a b pos) (tIfS tc t u) := by
  intro pins s σ H D I h
  refine wpAny_If (thn (hc pins s σ H _ I h) fun d s1 ⟨H1, I1, q1⟩ => ?_)
  cases d with
  | true => exact ha pins s1 σ H1 D I1 q1
  | false => exact hb pins s1 σ H1 D I1 q1
/-- code that the proof never comes to -/
def tNever : TS := fun _ _ _ => False
theorem ps_never : PS X st tNever := fun _ _ _ _ _ _ h => h.elim
end

/-! ### targets -/
abbrev TG := V → St → Hp → (St → Hp → Prop) → Prop
def PG (X : Cx) (target : Expr) (t : TG) : Prop :=
  ∀ (pins : List (Addr × Obj)) (s : Shared) (σ : St) (H : Hp) (v : V) (u : Value) (Q : St → Hp → Prop), Inv X pins σ H s → RelV v u → t v σ H Q →
    wpAny (model X.prog X.w) X.A (assign target X.env u) (fun _ s' => ∃ σ' H', Inv X pins σ' H' s' ∧ Q σ' H') X.xe s
/-- o[i] = v, by values -/
abbrev TSet := V → V → V → Hp → (Hp → Prop) → Prop
def PSet (X : Cx) (t : TSet) : Prop :=
  ∀ (pins : List (Addr × Obj)) (s : Shared) (σ : St) (H : Hp) (o i v : V) (ov iv u : Value) (Q : Hp → Prop), Inv X pins σ H s → RelV o ov → RelV i iv → RelV v u → t o i v H Q →
    wpAny (model X.prog X.w) X.A (setItem ov iv u) (fun _ s' => ∃ H', Inv X pins σ H' s' ∧ Q H') X.xe s
/-- a op= b, by values -/
abbrev TIp := V → V → Hp → VK → Prop
def PIp (X : Cx) (op : Operator) (t : TIp) : Prop :=
  ∀ (pins : List (Addr × Obj)) (s : Shared) (σ : St) (H : Hp) (x y : V) (v u : Value) (Q : VK), Inv X pins σ H s → RelV x v → RelV y u → t x y H Q →
    wpAny (model X.prog X.w) X.A (inplaceOp op v u) (EP X pins σ Q) X.xe s
section
variable {X : Cx} {pos : Pos}
def gName (i : Nat) : TG := fun v σ H Q => Q (σ.set i (some v)) H
theorem pg_name {i : Nat} {x : Str} (hN : X.N.Nodup) (hi : X.N[i]? = some x) (hx : Loc X.env.scope x) (hf : X.fn x = true ∨ X.env.scope.names.lookup x = some .local := by first | exact .inl rfl | exact .inr rfl | assumption) : PG X (.Name x pos) (gName i) := by
  intro pins s σ H v u Q I r h
  exact wpAny_assign_Name (store_ok I hN hi hx r (fun s' I' => ⟨_, H, I', h⟩) hf)
/-- o[i] = .. -/
def gSub (to ti : TE) (t : TSet) : TG := fun v σ H Q => to σ H fun o H1 => ti σ H1 fun i H2 => t o i v H2 fun H3 => Q σ H3
theorem pg_sub {o i : Expr} {to ti : TE} {t : TSet} (ho : PE X o to) (hi : PE X i ti) (hs : PSet X t)
    (ha : ∀ v, assign (.Subscript o i pos) X.env v = (do
      let ov ← holding [v] (eval o X.env)
      let iv ← holding [v, ov] (eval i X.env)
      standAt pos
      holding [v, ov, iv] (setItem ov iv v)
      release [v, ov, iv] []) := by intro _; rfl) : PG X (.Subscript o i pos) (gSub to ti t) := by
  intro pins s σ H v u Q I r h
  rw [ha]
  refine wpAny_bind (wpAny_holding (thn (ho pins s σ H _ I h) fun ov s1 ⟨x, H1, I1, r1, q1⟩ => ?_))
  refine wpAny_bind (wpAny_holding (thn (hi pins s1 σ H1 _ I1 q1) fun iv s2 ⟨y, H2, I2, r2, q2⟩ => ?_))
  refine wpAny_bind (wpAny_standAt (wpAny_bind (wpAny_holding (thn (hs pins s2 σ H2 x y v ov iv u _ I2 r1 r2 r q2) fun _ s3 ⟨H3, I3, q3⟩ => ?_))))
  exact wpAny_release ⟨σ, H3, I3, q3⟩
/-- target = value -/
def tAsg (te : TE) (g : TG) : TS := fun D σ H => te σ H fun x H1 => g x σ H1 D.nx
theorem ps_asg {tg e : Expr} {te : TE} {g : TG} (he : PE X e te) (hg : PG X tg g) (hs : swapsWithSole [tg] e pos.line X.env = pure false := by rfl) (hw : swappedStores [tg] e X.env = pure none := by rfl)
    (h1 : (assignEach [tg] X.env).map (·.2) = [assign tg X.env] := by rfl) : PS X (.Assign [tg] e pos) (tAsg te g) := by
  intro pins s σ H D I h
  refine wpAny_Assign_stores (thn (he pins s σ H _ I h) fun v s1 ⟨x, H1, I1, r1, q1⟩ => ?_) hs hw
  rw [h1]
  exact thn (hg pins s1 σ H1 x v _ I1 r1 q1) fun _ s2 q => q
/-- name = value -/
theorem ps_set {i : Nat} {x : Str} {e : Expr} {te : TE} {pos' : Pos} (hN : X.N.Nodup) (hi : X.N[i]? = some x) (hx : Loc X.env.scope x) (he : PE X e te) (hs : swapsWith e (some (.Name x pos')) pos.line X.env = pure false := by rfl) (hf : X.fn x = true ∨ X.env.scope.names.lookup x = some .local := by first | exact .inl rfl | exact .inr rfl | assumption) :
    PS X (.Assign [.Name x pos'] e pos) (tAsg te (gName i)) := by
  intro pins s σ H D I h
  refine wpAny_Assign_Name (thn (he pins s σ H _ I h) fun v s1 ⟨y, H1, I1, r1, q1⟩ => ?_) hs
  exact store_ok I1 hN hi hx r1 (fun s2 I2 => ⟨_, H1, I2, q1⟩) hf
/-- name op= e -/
def tAug (i : Nat) (te : TE) (ti : TIp) : TS := fun D σ H => ∃ x, σ[i]? = some (some x) ∧ te σ H fun y H1 => ti x y H1 fun z H2 => D.nx (σ.set i (some z)) H2
theorem ps_aug {i : Nat} {x : Str} {e : Expr} {te : TE} {op : Operator} {ti : TIp} {pos' : Pos} (hN : X.N.Nodup) (hi : X.N[i]? = some x) (hx : Loc X.env.scope x) (he : PE X e te) (ho : PIp X op ti) (hf : X.fn x = true ∨ X.env.scope.names.lookup x = some .local := by first | exact .inl rfl | exact .inr rfl | assumption) :
    PS X (.AugAssign (.Name x pos') op e pos) (tAug i te ti) := by
  intro pins s σ H D I h
  obtain ⟨v, e1, h⟩ := h
  obtain ⟨m, hn, hl⟩ := I.loc
  have vis : Vis X.env.scope x := by rcases hx with k | k; exact .inl k; exact .inr (.inl k)
  obtain ⟨u, r, l⟩ := hl i x v hi e1 vis
  refine wpAny_AugAssign_Name ?_
  have go : wpAny (model X.prog X.w) X.A (eval e X.env) (fun w s₂ => wpAny (model X.prog X.w) X.A (inplaceOp op u w) (fun r s₃ => wpAny (model X.prog X.w) X.A (storeName X.env x r) (fun _ => SP X pins D .next) X.xe s₃) X.xe s₂) X.xe s := by
    refine thn (he pins s σ H _ I h) fun w s1 ⟨y, H1, I1, r1, q1⟩ => ?_
    refine thn (ho pins s1 σ H1 v y u w _ I1 r r1 q1) fun z s2 ⟨zv, H2, I2, r2, q2⟩ => ?_
    exact store_ok I2 hN hi hx r2 (fun s3 I3 => ⟨_, H2, I3, q2⟩) hf
  rcases l with ⟨hk, hm⟩ | ⟨hk, c, hc, hcell⟩
  · exact wpAny_loadName_local I.ok.kind hk hn hm go
  · rcases hk with hk | hk
    · exact wpAny_loadName_cell I.ok.kind hk hc hcell go
    · rcases hx with k | k
      · have : X.env.scope.names.lookup x = some .free := hk
        rw [k] at this; cases this
      · have : X.env.scope.names.lookup x = some .free := hk
        rw [k] at this; cases this
/-- o[i] op= e -/
def tAugS (to ti te : TE) (tget : V → V → Hp → VK → Prop) (tip : TIp) (tset : TSet) : TS := fun D σ H => to σ H fun o H1 => ti σ H1 fun i H2 => tget o i H2 fun x H3 => te σ H3 fun y H4 => tip x y H4 fun z H5 => tset o i z H5 fun H6 => D.nx σ H6
/-- o[i], by values -/
def PGet (X : Cx) (t : V → V → Hp → VK → Prop) : Prop :=
  ∀ (pins : List (Addr × Obj)) (s : Shared) (σ : St) (H : Hp) (o i : V) (ov iv : Value) (Q : VK), Inv X pins σ H s → RelV o ov → RelV i iv → t o i H Q →
    wpAny (model X.prog X.w) X.A (getItem ov iv) (EP X pins σ Q) X.xe s
theorem ps_augS {o i e : Expr} {to ti te : TE} {tget : V → V → Hp → VK → Prop} {tip : TIp} {tset : TSet} {op : Operator} {tpos : Pos} (ho : PE X o to) (hi : PE X i ti) (hg : PGet X tget) (he : PE X e te) (hp : PIp X op tip) (hs : PSet X tset)
    (ha : ∀ ov iv new, augStore i ov iv new = (do holding [new, ov, iv] (setItem ov iv new); release [new, ov, iv] []; pure .next) := by intros; rfl) : PS X (.AugAssign (.Subscript o i tpos) op e pos) (tAugS to ti te tget tip tset) := by
  intro pins s σ H D I h
  refine wpAny_AugAssign_SubscriptAny (thn (ho pins s σ H _ I h) fun ov s1 ⟨x1, H1, I1, r1, q1⟩ => ?_) ha
  refine thn (hi pins s1 σ H1 _ I1 q1) fun iv s2 ⟨x2, H2, I2, r2, q2⟩ => ?_
  refine thn (hg pins s2 σ H2 x1 x2 ov iv _ I2 r1 r2 q2) fun old s3 ⟨x3, H3, I3, r3, q3⟩ => ?_
  refine thn (he pins s3 σ H3 _ I3 q3) fun v s4 ⟨x4, H4, I4, r4, q4⟩ => ?_
  refine thn (hp pins s4 σ H4 x3 x4 old v _ I4 r3 r4 q4) fun new s5 ⟨x5, H5, I5, r5, q5⟩ => ?_
  exact thn (hs pins s5 σ H5 x1 x2 x5 ov iv new _ I5 r1 r2 r5 q5) fun _ s6 ⟨H6, I6, q6⟩ => ⟨σ, H6, I6, q6⟩
/-- ints -/
def ipI (f : Int → Int → Int) : TIp := fun x y H Q => ∃ i j, x = .int i ∧ y = .int j ∧ Q (.int (f i j)) H
theorem ip_add : PIp X .Add (ipI fun i j => i + j) := by
  intro pins s σ H x y v u Q I r1 r2 h
  obtain ⟨i, j, e1, e2, q⟩ := h
  subst e1; subst e2
  obtain ⟨t, rfl⟩ := r1
  obtain ⟨t', rfl⟩ := r2
  exact iadd_int ⟨.int _, H, I.tok _, ⟨_, rfl⟩, q⟩
end

/-! ### while -/
section
variable {X : Cx} {pos : Pos}
/-- the invariant W with its measure -/
def tWhile (c : TT) (tb : TS) : TS := fun D σ H => ∃ W : Nat → St → Hp → Prop, (∃ m, W m σ H) ∧ ∀ m σ H, W m σ H →
  c σ H fun b H1 => if b = true then ∃ N : St → Hp → Prop, (∀ σ' H', N σ' H' → ∃ m', m' < m ∧ W m' σ' H') ∧ tb { D with nx := N, ct := N, bk := D.nx } σ H1 else D.nx σ H1
theorem ps_while {c : Expr} {body : List Stmt} {tc : TT} {tb : TS} (hp : PassesOwn (model X.prog X.w) X.A X.env X.xe) (hc : PT X c tc) (hb : PSs X body tb) : PS X (.While c body [] pos) (tWhile tc tb) := by
  intro pins s σ H D I h
  obtain ⟨W, ⟨m0, w0⟩, turn⟩ := h
  refine wpAny_While (codeAny_whileLoop (fun n s' => ∃ σ' H', Inv X pins σ' H' s' ∧ W n σ' H') ?_ m0 ⟨σ, H, I, w0⟩)
  rintro n s1 ⟨σ1, H1, I1, w1⟩
  refine wpAny_passesOwn hp (thn (hc pins s1 σ1 H1 _ I1 (turn n σ1 H1 w1)) fun b s2 ⟨H2, I2, q2⟩ => ?_)
  cases b with
  | true =>
    obtain ⟨N, hN, q2⟩ := q2
    rw [if_pos rfl]
    refine wpAny_passesOwn hp (thn (hb pins s2 σ1 H2 _ I2 q2) fun f s3 q3 => ?_)
    cases f with
    | next =>
      obtain ⟨σ3, H3, I3, n3⟩ := q3
      obtain ⟨m', hm, w3⟩ := hN σ3 H3 n3
      exact ⟨m', hm, σ3, H3, I3, w3⟩
    | cont =>
      obtain ⟨σ3, H3, I3, n3⟩ := q3
      obtain ⟨m', hm, w3⟩ := hN σ3 H3 n3
      exact ⟨m', hm, σ3, H3, I3, w3⟩
    | brk => exact q3
    | ret v => exact q3
  | false =>
    rw [if_neg Bool.false_ne_true]
    exact wpAny_execs_nil ⟨σ1, H2, I2, q2⟩
end

/-! ### what a loop or a comprehension walks -/
/-- at turn i: it yields x (the heap may grow), or it stops -/
structure It where
  go : Nat → Hp → Prop
  yld : Nat → Hp → V → Hp → Prop
  stop : Nat → Hp → Prop
/-- the iterator's own objects may turn: they are not the frame's, not pinned, younger than the entry (or a comprehension's own) -/
def FpOk (X : Cx) (pins : List (Addr × Obj)) (H : Hp) (b : Addr) : Prop :=
  H b = none ∧ b ≠ X.env.locals ∧ b ∉ X.fs ∧ (b ∈ X.ex ∨ X.s_0.heap.objs.size ≤ b) ∧ (∀ x c, X.env.cells.lookup x = some c → c ≠ b) ∧ ∀ p ∈ X.pn ++ pins, p.1 ≠ b
theorem Inv.fpOk {X : Cx} {pins : List (Addr × Obj)} {σ : St} {H H' : Hp} {s : Shared} {b : Addr} (I : Inv X pins σ H s) (hb : s.heap.objs.size ≤ b) (hn : H' b = none) : FpOk X pins H' b := by
  refine ⟨hn, Nat.ne_of_gt (Nat.lt_of_lt_of_le I.lt hb), I.nofs hb, .inr (Nat.le_trans I.sz hb), fun x c e z => ?_, fun p hp z => ?_⟩
  · obtain ⟨v, q⟩ := I.cell x c e
    exact absurd (Nat.lt_of_lt_of_le q.lt (by rw [z]; exact hb)) (Nat.lt_irrefl _)
  · exact absurd (Nat.lt_of_lt_of_le (Heap.lt_size (I.pin p hp).1) (by rw [z]; exact hb)) (Nat.lt_irrefl _)
structure Turn (P : Program) (w : World) (K : PySem.W.Frag) (tg : Expr) (J : It) (fp : List Addr) (it : Addr) (tn : Nat → Heap → Prop) : Prop where
  mem : it ∈ fp
  obj : ∀ i h, tn i h → ∀ b ∈ fp, ∃ o, h.get? b = some o ∧ ∀ v, o.data ≠ .cell v
  keep : ∀ i h h', tn i h → (∀ b ∈ fp, ∀ o, h.get? b = some o → h'.get? b = some o) → tn i h'
  item : ∀ (X : Cx), X.prog = P → X.w = w → X.K = K → X.calm = true → ∀ (i : Nat) (pins : List (Addr × Obj)) (s : Shared) (σ : St) (H : Hp) (E : Value → Shared → Prop), Inv X pins σ H s → (∀ b ∈ fp, FpOk X pins H b) → tn i s.heap → J.go i H →
    wpAny (model P w) X.A (pyNext (.ref it)) (fun r s1 => ∃ u, r = some u ∧
      wpAny (model P w) X.A (letOwnedTupleGo tg (.ref it) u) (fun _ s2 => ∃ x H', Inv X pins σ H' s2 ∧ RelV x u ∧ J.yld i H x H' ∧ tn (i + 1) s2.heap ∧ ∀ b ∈ fp, H' b = none) E s1) E s
  done : ∀ (X : Cx), X.prog = P → X.w = w → X.K = K → X.calm = true → ∀ (i : Nat) (pins : List (Addr × Obj)) (s : Shared) (σ : St) (H : Hp) (E : Value → Shared → Prop), Inv X pins σ H s → (∀ b ∈ fp, FpOk X pins H b) → tn i s.heap → J.stop i H →
    wpAny (model P w) X.A (pyNext (.ref it)) (fun r s1 => r = none ∧ Inv X pins σ H s1) E s
  self : ∀ (A : Around) (i : Nat) (s : Shared) (Q : Value → Shared → Prop) (E : Value → Shared → Prop), tn i s.heap → Q (.ref it) s → wpAny (model P w) A (pyIter (.ref it)) Q E s
abbrev TI := St → Hp → (It → Hp → Prop) → Prop
/-- an iterator has come -/
def PIE (X : Cx) (pins : List (Addr × Obj)) (σ : St) (tg : Expr) (R : It → Hp → Prop) (itv : Value) (s2 : Shared) : Prop :=
  ∃ (it : Addr) (fp : List Addr) (tn : Nat → Heap → Prop) (J : It) (H' : Hp), itv = .ref it ∧ Inv X pins σ H' s2 ∧ Turn X.prog X.w X.K tg J fp it tn ∧ tn 0 s2.heap ∧ (∀ b ∈ fp, FpOk X pins H' b) ∧ R J H'
def PI (X : Cx) (tg iter : Expr) (wi : TI) : Prop :=
  ∀ (pins : List (Addr × Obj)) (s : Shared) (σ : St) (H : Hp) (R : It → Hp → Prop), Inv X pins σ H s → wi σ H R →
    wpAny (model X.prog X.w) X.A (eval iter X.env) (fun v s1 => wpAny (model X.prog X.w) X.A (pyIter v) (PIE X pins σ tg R) X.xe s1) X.xe s

/-- the step ahead of the store is nothing for an iterator that keeps no tuple -/
theorem go_of {M : Model} {A : Around} {E : Value → Shared → Prop} {s : Shared} {tg : Expr} {it : Addr} {u : Value} {o : Obj} {n : String} {vs : Array Value} {Q : Unit → Shared → Prop} (ho : s.heap.get? it = some o) (hc : o.cls = .type n) (hd : o.data = .fields vs)
    (hn : ["enumerate", "zip", "dict_itemiterator", "dict_reverseitemiterator", "odict_iterator", "itertools.zip_longest", "itertools.pairwise"].contains n = false) (hQ : Q () s) : wpAny M A (letOwnedTupleGo tg (.ref it) u) Q E s := by
  unfold letOwnedTupleGo
  cases tg <;> first
    | exact wpAny_pure hQ
    | (cases u <;> first
        | exact wpAny_pure hQ
        | (refine wpAny_bind (wpAny_load ho ?_)
           rw [hc, hd]
           show wpAny M A (if (["enumerate", "zip", "dict_itemiterator", "dict_reverseitemiterator", "odict_iterator", "itertools.zip_longest", "itertools.pairwise"].contains n && vs[0]? == some (rawInt _)) = true then _ else _) Q E s
           rw [if_neg (by intro h; rw [hn, Bool.false_and] at h; cases h)]
           exact wpAny_pure hQ))

/-- the list at a, as it stands at each turn (a loop may append to it) -/
def Itl (K : PySem.W.Frag) (a : Addr) : It :=
  ⟨fun i H => ∃ xs x, SqL K H a xs ∧ xs[i]? = some x, fun i H x H' => H' = H ∧ ∀ xs, SqL K H a xs → xs[i]? = some x, fun i H => ∃ xs, SqL K H a xs ∧ xs.length ≤ i⟩
/-- lo, lo + 1, .. (n of them) -/
def Itr (lo : Int) (n : Nat) : It := ⟨fun i _ => i < n, fun i H x H' => H' = H ∧ x = .int (lo + i), fun i _ => n ≤ i⟩
theorem turn_list {P : Program} {w : World} {K : PySem.W.Frag} {tg : Expr} (a it : Addr) : Turn P w K tg (Itl K a) [it] it (fun i h => h.IsListIter it a i) where
  mem := by simp
  obj := fun i h st b hb => by
    have e : b = it := by simpa using hb
    subst e
    obtain ⟨o, e, c, d⟩ := st
    exact ⟨o, e, fun v z => by rw [d] at z; cases z⟩
  keep := fun i h h' st k => st.at fun o e => k it (by simp) o e
  item := by
    intro X hP hw hK hc i pins s σ H E I hf st hg
    subst hP hw hK
    obtain ⟨xs, x, hq, hx⟩ := hg
    obtain ⟨its, rv, p, hz⟩ := I.list hq
    obtain ⟨u, hu, ru⟩ := rv.get hx
    obtain ⟨f0, f1, f2, f3, f4, f5⟩ := hf it (by simp)
    refine wpAny_pyNext_list_item st p.isList (x := u) (by simpa using hu) fun h' st' sb => ?_
    have I1 : Inv X pins σ H { s with heap := h' } := I.turned (t' := s.toks) (fun b o hb e => (sb.2 b hb).trans e) f0 f1 f3 f4 f5
    obtain ⟨o, e, c, d⟩ := id st'
    exact ⟨u, rfl, go_of (s := { s with heap := h' }) e c d (by decide) ⟨x, H, I1, ru, ⟨rfl, fun ys hy => by rw [I.list_inj hy hq]; exact hx⟩, st', fun b hb => (hf b hb).1⟩⟩
  done := by
    intro X hP hw hK hc i pins s σ H E I hf st hg
    subst hP hw hK
    obtain ⟨xs, hq, hx⟩ := hg
    obtain ⟨its, rv, p, hz⟩ := I.list hq
    obtain ⟨f0, f1, f2, f3, f4, f5⟩ := hf it (by simp)
    have hl := rv.length
    exact wpAny_pyNext_list_end (I.ok.hd hc) st p.isList (by simp; omega) fun h' eb => ⟨rfl, I.turned (t' := s.toks) (fun b o hb e => eb b o hb e) f0 f1 f3 f4 f5⟩
  self := fun _ _ _ _ _ st h => wpAny_pyIter_listiter st h
theorem turn_range {P : Program} {w : World} {K : PySem.W.Frag} {tg : Expr} (it : Addr) (lo : Int) (n : Nat) : Turn P w K tg (Itr lo n) [it] it (fun i h => IsRangeIter h it (lo + (i : Nat) * 1) ((n : Int) - (i : Nat)) 1) where
  mem := by simp
  obj := fun i h st b hb => by
    have e : b = it := by simpa using hb
    subst e
    exact ⟨_, st, fun v z => by
      have z' : Data.fields _ = Data.cell v := z
      cases z'⟩
  keep := fun i h h' st k => k it (by simp) _ st
  item := by
    intro X hP hw hK hc i pins s σ H E I hf st hg
    subst hP hw hK
    obtain ⟨f0, f1, f2, f3, f4, f5⟩ := hf it (by simp)
    have W := Walks.range (prog := X.prog) (w := X.w) (I.ok.hd hc) it lo 1 n
    refine W.item i s _ _ hg st fun v h' tk hv st' kk => ?_
    obtain ⟨t, rfl⟩ := hv
    have I1 : Inv X pins σ H { s with heap := h', toks := tk } := I.turned (fun b o hb e => kk b o (by simpa using hb) e) f0 f1 f3 f4 f5
    refine ⟨_, rfl, go_of (s := { s with heap := h', toks := tk }) (n := "range_iterator") st' rfl rfl (by decide) ⟨.int (lo + i), H, I1, ⟨t, ?_⟩, ⟨rfl, rfl⟩, st', fun b hb => (hf b hb).1⟩⟩
    rw [Int.mul_one]
  done := by
    intro X hP hw hK hc i pins s σ H E I hf st hg
    subst hP hw hK
    obtain ⟨f0, f1, f2, f3, f4, f5⟩ := hf it (by simp)
    exact wpAny_pyNext_range_end (I.ok.hd hc) st (by have : n ≤ i := hg; omega) fun h' eb => ⟨rfl, I.turned (t' := s.toks) (fun b o hb e => eb b o hb e) f0 f1 f3 f4 f5⟩
  self := fun _ _ _ _ _ st h => wpAny_pyIter_rangeiter st h
end L2

namespace L2
open PySem PySem.Spec PyProof.Rows
section
variable {X : Cx} {tg : Expr}
def iList (K : PySem.W.Frag) (tl : TE) : TI := fun σ H R => tl σ H fun x H1 => ∃ a, x = .ref a ∧ (∃ xs, SqL K H1 a xs) ∧ R (Itl K a) H1
theorem pi_list {l : Expr} {tl : TE} (hl : PE X l tl) : PI X tg l (iList X.K tl) := by
  intro pins s σ H R I h
  refine thn (hl pins s σ H _ I h) fun v s1 ⟨x, H1, I1, r1, q1⟩ => ?_
  obtain ⟨a, e, ⟨xs, hq⟩, q⟩ := q1
  subst e
  cases r1
  obtain ⟨its, rv, p, hz⟩ := I1.list hq
  refine wpAny_pyIter_list p.isList ?_
  refine ⟨s1.heap.objs.size, [s1.heap.objs.size], _, _, H1, rfl, I1.kept (t' := s1.toks) fun b o e => Heap.get?_push_of_some _ e, turn_list a _, ⟨_, Heap.get?_push_size _ rfl, rfl, rfl⟩, fun b hb => ?_, q⟩
  have e : b = s1.heap.objs.size := by simpa using hb
  subst e
  exact I1.fpOk (Nat.le_refl _) (I1.hok.fresh (Nat.le_refl _))
/-- a range object just made, walked -/
theorem range_it {pins : List (Addr × Obj)} {σ : St} {H : Hp} {s : Shared} {R : It → Hp → Prop} {E : Value → Shared → Prop} {lo hi : Int} {t u v : Tok} {tk : Nat} (I : Inv X pins σ H s) (h1 : -(2 ^ 62) ≤ lo) (h2 : lo < 2 ^ 62) (h3 : -(2 ^ 62) ≤ hi) (h4 : hi < 2 ^ 62)
    (q : R (Itr lo (hi - lo).toNat) H) : wpAny (model X.prog X.w) X.A (pyIter (.ref s.heap.objs.size)) (PIE X pins σ tg R) E { s with heap := s.heap.push { cls := .type "range", data := .fields #[.int lo t, .int hi u, .int 1 v] }, toks := tk } := by
  refine wpAny_pyIter_range (IsRange.new ..) (small_one h1 h2 h3 h4) ?_
  have I1 : Inv X pins σ H { s with heap := s.heap.push { cls := .type "range", data := .fields #[.int lo t, .int hi u, .int 1 v] }, toks := tk } := I.kept fun b o e => Heap.get?_push_of_some _ e
  refine ⟨(s.heap.push { cls := .type "range", data := .fields #[.int lo t, .int hi u, .int 1 v] }).objs.size, [(s.heap.push { cls := .type "range", data := .fields #[.int lo t, .int hi u, .int 1 v] }).objs.size], _, _, H, rfl,
    I1.kept (t' := tk) fun b o e => Heap.get?_push_of_some _ e, turn_range _ lo (hi - lo).toNat, ?_, fun b hb => ?_, q⟩
  · have e1 : lo + ((0 : Nat) : Int) * 1 = lo := by simp
    have e2 : (((hi - lo).toNat : Nat) : Int) - ((0 : Nat) : Int) = Builtin.Range.rangeSize lo hi 1 := by rw [rangeSize_one]; split <;> omega
    show IsRangeIter _ _ (lo + ((0 : Nat) : Int) * 1) ((((hi - lo).toNat : Nat) : Int) - ((0 : Nat) : Int)) 1
    rw [e1, e2]
    exact Heap.get?_push_size _ rfl
  · have e : b = (s.heap.push { cls := .type "range", data := .fields #[.int lo t, .int hi u, .int 1 v] }).objs.size := by simpa using hb
    subst e
    exact I1.fpOk (Nat.le_refl _) (I1.hok.fresh (Nat.le_refl _))
def iRng1 (ta : TA) : TI := fun σ H R => ta σ H fun vs H1 => ∃ j : Int, vs = [.int j] ∧ -(2 ^ 62) ≤ j ∧ j < 2 ^ 62 ∧ R (Itr 0 j.toNat) H1
theorem pi_range1 {a : Expr} {ta : TA} {p pos : Pos} (hg : Gl X "range") (hm : X.mg "range" = none) (ha : PA X [a] ta) (hs : starEach [a] X.env = [(false, eval a X.env)] := by rfl) : PI X tg (.Call (.Name "range" p) [a] [] pos) (iRng1 ta) := by
  intro pins s σ H R I h
  refine Call_ (ld_blt I hg hm boot_range (PyProof.Rows.callWith_type1 (thn (ha pos pins s σ H _ I h) fun us s1 ⟨vs, H1, I1, r1, q1⟩ => ?_) hs rfl))
  obtain ⟨j, e, q1, q2, q⟩ := q1
  subst e
  cases r1 with
  | cons r rr =>
    cases rr
    obtain ⟨t, rfl⟩ := r
    exact call_range_1 (range_it I1 (by omega) (by omega) q1 q2 (by simpa using q))

/-! ### for -/
/-- W: the invariant by the turn and a measure; N: what the body is to reach -/
def tFor (wi : TI) (g : TG) (tb : TS) : TS := fun D σ H => wi σ H fun J H1 => ∃ W : Nat → Nat → St → Hp → Prop, (∃ m, W 0 m σ H1) ∧ ∀ i m σ H, W i m σ H →
  (J.stop i H ∧ D.nx σ H) ∨ (J.go i H ∧ ∃ N : St → Hp → Prop, (∀ σ' H', N σ' H' → ∃ m', m' < m ∧ W (i + 1) m' σ' H') ∧ ∀ x H', J.yld i H x H' → g x σ H' fun σ2 H2 => tb { D with nx := N, ct := N, bk := D.nx } σ2 H2)
/-- the records at fp as they stand -/
def pinsAt (fp : List Addr) (h : Heap) : List (Addr × Obj) := fp.filterMap fun b => (h.get? b).map fun o => (b, o)
theorem mem_pinsAt {fp : List Addr} {h : Heap} {b : Addr} {o : Obj} (hb : b ∈ fp) (e : h.get? b = some o) : (b, o) ∈ pinsAt fp h := List.mem_filterMap.mpr ⟨b, hb, by rw [e]; rfl⟩
theorem of_pinsAt {fp : List Addr} {h : Heap} {p : Addr × Obj} (hp : p ∈ pinsAt fp h) : p.1 ∈ fp ∧ h.get? p.1 = some p.2 := by
  obtain ⟨b, hb, e⟩ := List.mem_filterMap.mp hp
  cases q : h.get? b with
  | none => rw [q] at e; cases e
  | some o =>
    rw [q] at e
    have e' : (b, o) = p := Option.some.inj e
    subst e'
    exact ⟨hb, q⟩
theorem Inv.pinned {pins : List (Addr × Obj)} {σ : St} {H : Hp} {s : Shared} {fp : List Addr} (I : Inv X pins σ H s) (hf : ∀ b ∈ fp, FpOk X pins H b) (ho : ∀ b ∈ fp, ∃ o, s.heap.get? b = some o ∧ ∀ v, o.data ≠ .cell v) : Inv X (pins ++ pinsAt fp s.heap) σ H s :=
  I.pins_of fun p hp => (List.mem_append.mp hp).elim (fun z => I.pin p (List.mem_append_right _ z)) fun z => by
    obtain ⟨hb, e⟩ := of_pinsAt z
    obtain ⟨f0, f1, f2, _⟩ := hf p.1 hb
    obtain ⟨o, e', d⟩ := ho p.1 hb
    rw [e] at e'; cases e'
    exact ⟨e, f0, f1, f2, d⟩
theorem Inv.unpinned {pins pl : List (Addr × Obj)} {σ : St} {H : Hp} {s : Shared} (I : Inv X (pins ++ pl) σ H s) : Inv X pins σ H s := I.pins_of fun p hp => I.pin p (List.mem_append_right _ (List.mem_append_left _ hp))
theorem ps_for {iter : Expr} {body : List Stmt} {wi : TI} {g : TG} {tb : TS} {pos : Pos} (hp : PassesOwn (model X.prog X.w) X.A X.env X.xe) (hc : X.calm = true) (hi : PI X tg iter wi) (hg : PG X tg g) (hb : PSs X body tb)
    (hs : ∀ x, foldedSetIterable iter X.env x = pure x := by intro _; rfl) : PS X (.For tg iter body [] pos) (tFor wi g tb) := by
  intro pins s σ H D I h
  refine wpAny_For (thn (hi pins s σ H _ I h) fun v s1 h1 => thn h1 fun itv s2 h2 => ?_) hs
  obtain ⟨it, fp, tn, J, H2, e, I2, T, st2, f2, W, ⟨m0, w0⟩, turn⟩ := h2
  subst e
  -- what stays true of the iterator's objects through the loop
  have stat : ∀ {H' : Hp}, (∀ b ∈ fp, H' b = none) → ∀ b ∈ fp, FpOk X pins H' b := fun hn b hb => ⟨hn b hb, (f2 b hb).2⟩
  refine codeAny_forLoop_any (fun n s' => ∃ i σ' H', Inv X pins σ' H' s' ∧ tn i s'.heap ∧ (∀ b ∈ fp, H' b = none) ∧ W i n σ' H') ?_ m0 ⟨0, σ, H2, I2, st2, fun b hb => (f2 b hb).1, w0⟩
  rintro n s3 ⟨i, σ3, H3, I3, st3, fr3, w3⟩
  rcases turn i n σ3 H3 w3 with ⟨stop, qn⟩ | ⟨go, N, hN, step⟩
  · refine wpAny_passesOwn hp (thn (T.done X rfl rfl rfl hc i pins s3 σ3 H3 X.xe I3 (stat fr3) st3 stop) fun r s4 ⟨hr, I4⟩ => ?_)
    subst hr
    exact wpAny_execs_nil ⟨σ3, H3, I4, qn⟩
  · refine wpAny_passesOwn hp (thn (T.item X rfl rfl rfl hc i pins s3 σ3 H3 X.xe I3 (stat fr3) st3 go) fun r s4 ⟨u, hr, h4⟩ => ?_)
    subst hr
    refine wpAny_passesOwn hp (thn h4 fun _ s5 ⟨x, H5, I5, r5, y5, st5, fr5⟩ => ?_)
    have I5' := I5.pinned (stat fr5) (T.obj _ _ st5)
    refine wpAny_passesOwn hp (thn (hg _ s5 σ3 H5 x u _ I5' r5 (step x H5 y5)) fun _ s6 ⟨σ6, H6, I6, q6⟩ => ?_)
    refine wpAny_passesOwn hp (thn (hb _ s6 σ6 H6 _ I6 q6) fun f s7 q7 => ?_)
    have again : ∀ {σ7 : St} {H7 : Hp}, Inv X (pins ++ pinsAt fp s5.heap) σ7 H7 s7 → N σ7 H7 → ∃ m, m < n ∧ ∃ i σ' H', Inv X pins σ' H' s7 ∧ tn i s7.heap ∧ (∀ b ∈ fp, H' b = none) ∧ W i m σ' H' := fun {σ7 H7} I7 n7 => by
      obtain ⟨m', hm, w7⟩ := hN σ7 H7 n7
      refine ⟨m', hm, i + 1, σ7, H7, I7.unpinned, T.keep _ _ _ st5 fun b hb o e => (I7.pin (b, o) (List.mem_append_right _ (List.mem_append_right _ (mem_pinsAt hb e)))).1, fun b hb => ?_, w7⟩
      obtain ⟨o, e, d⟩ := T.obj _ _ st5 b hb
      exact (I7.pin (b, o) (List.mem_append_right _ (List.mem_append_right _ (mem_pinsAt hb e)))).2.1
    cases f with
    | next => obtain ⟨σ7, H7, I7, n7⟩ := q7; exact again I7 n7
    | cont => obtain ⟨σ7, H7, I7, n7⟩ := q7; exact again I7 n7
    | brk => obtain ⟨σ7, H7, I7, q7⟩ := q7; exact ⟨σ7, H7, I7.unpinned, q7⟩
    | ret v => obtain ⟨x7, σ7, H7, I7, r7, q7⟩ := q7; exact ⟨x7, σ7, H7, I7.unpinned, r7, q7⟩
end

/-! ### the forms one uses -/
/-- over a list that the body leaves as it is -/
theorem for_list {K : PySem.W.Frag} {a : Addr} {xs : List V} {g : TG} {tb : TS} {D : Ends} {σ : St} {H : Hp} (Pv : Nat → St → Hp → Prop) (h0 : Pv 0 σ H) (hl : ∀ i σ H, i ≤ xs.length → Pv i σ H → SqL K H a xs)
    (hs : ∀ i x σ H, xs[i]? = some x → Pv i σ H → g x σ H fun σ2 H2 => tb { D with nx := Pv (i + 1), ct := Pv (i + 1), bk := D.nx } σ2 H2) (hd : ∀ σ H, Pv xs.length σ H → D.nx σ H) :
    ∃ W : Nat → Nat → St → Hp → Prop, (∃ m, W 0 m σ H) ∧ ∀ i m σ H, W i m σ H →
      ((Itl K a).stop i H ∧ D.nx σ H) ∨ ((Itl K a).go i H ∧ ∃ N : St → Hp → Prop, (∀ σ' H', N σ' H' → ∃ m', m' < m ∧ W (i + 1) m' σ' H') ∧ ∀ x H', (Itl K a).yld i H x H' → g x σ H' fun σ2 H2 => tb { D with nx := N, ct := N, bk := D.nx } σ2 H2) := by
  refine ⟨fun i m σ H => m = xs.length - i ∧ i ≤ xs.length ∧ Pv i σ H, ⟨xs.length, by simp, Nat.zero_le _, h0⟩, ?_⟩
  rintro i m σ H ⟨rfl, hi, p⟩
  have q := hl i σ H hi p
  by_cases hlt : i < xs.length
  · refine .inr ⟨⟨xs, xs[i], q, by simp [hlt]⟩, Pv (i + 1), fun σ' H' p' => ⟨xs.length - (i + 1), by omega, rfl, hlt, p'⟩, fun x H' y => ?_⟩
    obtain ⟨e, y⟩ := y
    subst e
    exact hs i x σ _ (y xs q) p
  · have e : i = xs.length := by omega
    subst e
    exact .inl ⟨⟨xs, q, Nat.le_refl _⟩, hd σ H p⟩
theorem for_range {lo : Int} {n : Nat} {g : TG} {tb : TS} {D : Ends} {σ : St} {H : Hp} (Pv : Nat → St → Hp → Prop) (h0 : Pv 0 σ H)
    (hs : ∀ i σ H, i < n → Pv i σ H → g (.int (lo + i)) σ H fun σ2 H2 => tb { D with nx := Pv (i + 1), ct := Pv (i + 1), bk := D.nx } σ2 H2) (hd : ∀ σ H, Pv n σ H → D.nx σ H) :
    ∃ W : Nat → Nat → St → Hp → Prop, (∃ m, W 0 m σ H) ∧ ∀ i m σ H, W i m σ H →
      ((Itr lo n).stop i H ∧ D.nx σ H) ∨ ((Itr lo n).go i H ∧ ∃ N : St → Hp → Prop, (∀ σ' H', N σ' H' → ∃ m', m' < m ∧ W (i + 1) m' σ' H') ∧ ∀ x H', (Itr lo n).yld i H x H' → g x σ H' fun σ2 H2 => tb { D with nx := N, ct := N, bk := D.nx } σ2 H2) := by
  refine ⟨fun i m σ H => m = n - i ∧ i ≤ n ∧ Pv i σ H, ⟨n, by simp, Nat.zero_le _, h0⟩, ?_⟩
  rintro i m σ H ⟨rfl, hi, p⟩
  by_cases hlt : i < n
  · refine .inr ⟨hlt, Pv (i + 1), fun σ' H' p' => ⟨n - (i + 1), by omega, rfl, hlt, p'⟩, fun x H' y => ?_⟩
    obtain ⟨e, y⟩ := y
    subst e y
    exact hs i σ _ hlt p
  · have e : i = n := by omega
    subst e
    exact .inl ⟨Nat.le_refl _, hd σ H p⟩
end L2

namespace L2
open PySem PySem.Spec PyProof.Rows

abbrev R2 := V → V → Hp → VK → Prop
/-- a two-place operation on values: f is binaryOp op, inplaceOp op or compareOp op -/
def OpR (X : Cx) (f : Value → Value → Sem Value) (r : R2) : Prop :=
  ∀ (pins : List (Addr × Obj)) (s : Shared) (σ : St) (H : Hp) (x y : V) (v u : Value) (Q : VK), Inv X pins σ H s → RelV x v → RelV y u → r x y H Q →
    wpAny (model X.prog X.w) X.A (f v u) (EP X pins σ Q) X.xe s
/-- a one-place operation -/
def UnR (X : Cx) (f : Value → Sem Value) (r : V → Hp → VK → Prop) : Prop :=
  ∀ (pins : List (Addr × Obj)) (s : Shared) (σ : St) (H : Hp) (x : V) (v : Value) (Q : VK), Inv X pins σ H s → RelV x v → r x H Q →
    wpAny (model X.prog X.w) X.A (f v) (EP X pins σ Q) X.xe s
/-- a call of a value that is known (a builtin, a type) with values -/
def CallR (X : Cx) (f : Value) (r : List V → Hp → VK → Prop) : Prop :=
  ∀ (pins : List (Addr × Obj)) (s : Shared) (σ : St) (H : Hp) (xs : List V) (us : List Value) (Q : VK), Inv X pins σ H s → Vals xs us → r xs H Q →
    wpAny (model X.prog X.w) X.A (call f us) (EP X pins σ Q) X.xe s

def tOp (r : R2) (ta tb : TE) : TE := fun σ H Q => ta σ H fun x H1 => tb σ H1 fun y H2 => r x y H2 Q
def tUn (r : V → Hp → VK → Prop) (ta : TE) : TE := fun σ H Q => ta σ H fun x H1 => r x H1 Q
/-- ints in, under C, and a value out -/
def rI (C : Int → Int → Prop) (g : Int → Int → V) : R2 := fun x y H Q => ∃ i j, x = .int i ∧ y = .int j ∧ C i j ∧ Q (g i j) H
def rI0 (g : Int → Int → V) : R2 := fun x y H Q => ∃ i j, x = .int i ∧ y = .int j ∧ Q (g i j) H
def rU (g : Int → V) : V → Hp → VK → Prop := fun x H Q => ∃ i, x = .int i ∧ Q (g i) H

section
variable {X : Cx} {a b c : Expr} {ta tb tc : TE} {pos : Pos}

theorem binT (ha : PE X a ta) (hb : PE X b tb) {pins : List (Addr × Obj)} {s : Shared} {σ : St} {H : Hp} {R : V → V → Hp → Prop} (I : Inv X pins σ H s)
    (h : ta σ H fun x H1 => tb σ H1 fun y H2 => R x y H2) {Q : Value → Shared → Prop} {f : Value → Value → Sem Value}
    (hf : ∀ v u s2 x y H2, Inv X pins σ H2 s2 → RelV x v → RelV y u → R x y H2 → wpAny (model X.prog X.w) X.A (f v u) Q X.xe s2) :
    wpAny (model X.prog X.w) X.A (eval a X.env) (fun v s₁ => wpAny (model X.prog X.w) X.A (eval b X.env) (fun u s₂ => wpAny (model X.prog X.w) X.A (f v u) Q X.xe s₂) X.xe s₁) X.xe s := by
  refine thn (ha pins s σ H _ I h) fun v s1 ⟨x, H1, I1, r1, q1⟩ => ?_
  refine thn (hb pins s1 σ H1 _ I1 q1) fun u s2 ⟨y, H2, I2, r2, q2⟩ => ?_
  exact hf v u s2 x y H2 I2 r1 r2 q2

theorem pe_op {op : Operator} {r : R2} (ho : OpR X (binaryOp op) r) (ha : PE X a ta) (hb : PE X b tb) : PE X (.BinOp a op b pos) (tOp r ta tb) := by
  intro pins s σ H Q I h
  exact wpAny_BinOp (binT ha hb I h fun v u s2 x y H2 I2 rx ry q => ho pins s2 σ H2 x y v u Q I2 rx ry q)
theorem pe_un {op : UnaryOp} {r : V → Hp → VK → Prop} (ho : UnR X (unaryOp op) r) (ha : PE X a ta) : PE X (.UnaryOp op a pos) (tUn r ta) := by
  intro pins s σ H Q I h
  exact UnaryOp_ (thn (ha pins s σ H _ I h) fun v s1 ⟨x, H1, I1, r1, q1⟩ => ho pins s1 σ H1 x v Q I1 r1 q1)

/-! ### ints -/
theorem opI {f : Value → Value → Sem Value} {C : Int → Int → Prop} {g : Int → Int → Int}
    (rule : ∀ (i j : Int) (t u : Tok) (s : Shared) (Q : Value → Shared → Prop) (E : Value → Shared → Prop), C i j → Q (.int (g i j) s.toks) { s with toks := s.toks + 1 } → wpAny (model X.prog X.w) X.A (f (.int i t) (.int j u)) Q E s) :
    OpR X f (rI C fun i j => .int (g i j)) := by
  intro pins s σ H x y v u Q I rx ry h
  obtain ⟨i, j, rfl, rfl, hc, q⟩ := h
  obtain ⟨t, rfl⟩ := rx
  obtain ⟨t', rfl⟩ := ry
  exact rule i j t t' s _ _ hc ⟨.int (g i j), H, I.tok _, ⟨_, rfl⟩, q⟩
theorem opI0 {f : Value → Value → Sem Value} {g : Int → Int → Int}
    (rule : ∀ (i j : Int) (t u : Tok) (s : Shared) (Q : Value → Shared → Prop) (E : Value → Shared → Prop), Q (.int (g i j) s.toks) { s with toks := s.toks + 1 } → wpAny (model X.prog X.w) X.A (f (.int i t) (.int j u)) Q E s) :
    OpR X f (rI0 fun i j => .int (g i j)) := by
  intro pins s σ H x y v u Q I rx ry h
  obtain ⟨i, j, rfl, rfl, q⟩ := h
  obtain ⟨t, rfl⟩ := rx
  obtain ⟨t', rfl⟩ := ry
  exact rule i j t t' s _ _ ⟨.int (g i j), H, I.tok _, ⟨_, rfl⟩, q⟩
theorem opB0 {f : Value → Value → Sem Value} {g : Int → Int → Bool}
    (rule : ∀ (i j : Int) (t u : Tok) (s : Shared) (Q : Value → Shared → Prop) (E : Value → Shared → Prop), Q (.bool (g i j)) s → wpAny (model X.prog X.w) X.A (f (.int i t) (.int j u)) Q E s) :
    OpR X f (rI0 fun i j => .bl (g i j)) := by
  intro pins s σ H x y v u Q I rx ry h
  obtain ⟨i, j, rfl, rfl, q⟩ := h
  obtain ⟨t, rfl⟩ := rx
  obtain ⟨t', rfl⟩ := ry
  exact rule i j t t' s _ _ ⟨.bl (g i j), H, I, rfl, q⟩

def CDiv (i j : Int) : Prop := 0 < j ∧ j < 1073741824
def CMul (i j : Int) : Prop := (-(2 ^ 64) < i ∧ i < 2 ^ 64) ∨ (-(2 ^ 64) < j ∧ j < 2 ^ 64)
theorem CMul.ok {i j : Int} (h : CMul i j) : IntMulOk i j := by
  rcases h with ⟨h1, h2⟩ | ⟨h1, h2⟩
  · exact .of_left (intBits_le_64 h1 h2)
  · exact .of_right (intBits_le_64 h1 h2)

theorem op_add : OpR X (binaryOp .Add) (rI0 fun i j => .int (i + j)) := opI0 fun _ _ _ _ _ _ _ q => add_int q
theorem op_sub : OpR X (binaryOp .Sub) (rI0 fun i j => .int (i - j)) := opI0 fun _ _ _ _ _ _ _ q => sub_int q
theorem op_mul : OpR X (binaryOp .Mult) (rI CMul fun i j => .int (i * j)) := opI fun _ _ _ _ _ _ _ hc q => mul_int q hc.ok
/-- // by a positive divisor -/
theorem op_fdiv : OpR X (binaryOp .FloorDiv) (rI CDiv fun i j => .int (i / j)) := opI fun i j _ _ _ _ _ hc q => by
  have h1 : (0 : Int) < j := hc.1
  have h2 : j < 1073741824 := hc.2
  exact floordiv_int (by omega) (by rw [Int.fdiv_eq_ediv_of_nonneg i (by omega)]; exact q) (.inl (PyProof.noPylong_small (by omega)))
/-- % by a positive divisor of any size -/
theorem op_mod : OpR X (binaryOp .Mod) (rI (fun _ j => 0 < j) fun i j => .int (i % j)) := opI fun i j _ _ _ _ _ hc q => by
  have h1 : (0 : Int) < j := hc
  exact mod_int' (by omega) (by rw [Int.fmod_eq_emod_of_nonneg i (by omega)]; exact q)


theorem unI {f : Value → Sem Value} {g : Int → Int}
    (rule : ∀ (i : Int) (t : Tok) (s : Shared) (Q : Value → Shared → Prop) (E : Value → Shared → Prop), Q (.int (g i) s.toks) { s with toks := s.toks + 1 } → wpAny (model X.prog X.w) X.A (f (.int i t)) Q E s) :
    UnR X f (rU fun i => .int (g i)) := by
  intro pins s σ H x v Q I rx h
  obtain ⟨i, rfl, q⟩ := h
  obtain ⟨t, rfl⟩ := rx
  exact rule i t s _ _ ⟨.int (g i), H, I.tok _, ⟨_, rfl⟩, q⟩
theorem un_neg : UnR X (unaryOp .USub) (rU fun i => .int (-i)) := unI fun _ _ _ _ _ q => neg_int q

/-! ### bools among ints: n += (a < b) -/
end

/-! ### comparisons -/
/-- the scalars that == tells apart as data does -/
def scal : V → V → Bool
  | .non, .non => true | .non, .int _ => true | .int _, .non => true | .non, .bl _ => true | .bl _, .non => true | .non, .str _ => true | .str _, .non => true
  | .int _, .int _ => true | .bl _, .bl _ => true | .str _, .str _ => true | .byt _, .byt _ => true
  | .int _, .str _ => true | .str _, .int _ => true | .bl _, .str _ => true | .str _, .bl _ => true
  | _, _ => false
def rEq : R2 := fun x y H Q => scal x y = true ∧ Q (.bl (decide (x = y))) H
def rNe : R2 := fun x y H Q => scal x y = true ∧ Q (.bl (!decide (x = y))) H

theorem dec_int {i j : Int} : decide (V.int i = V.int j) = (i == j) := by
  rw [Bool.eq_iff_iff]
  simp
theorem dec_bl {i j : Bool} : decide (V.bl i = V.bl j) = (i == j) := by
  rw [Bool.eq_iff_iff]
  simp
theorem dec_str {i j : Str} : decide (V.str i = V.str j) = (i == j) := by
  rw [Bool.eq_iff_iff]
  simp
theorem dec_byt {i j : Array UInt8} : decide (V.byt i = V.byt j) = (i.toList == j.toList) := by
  rw [Bool.eq_iff_iff]
  cases i
  cases j
  simp

section
variable {X : Cx} {a b c : Expr} {ta tb tc : TE} {pos : Pos}
theorem fin_bl {pins : List (Addr × Obj)} {σ : St} {H : Hp} {s : Shared} {Q : VK} {k k' : Bool} (I : Inv X pins σ H s) (q : Q (.bl k) H) (e : k = k') : EP X pins σ Q (.bool k') s := by
  subst e
  exact ⟨.bl k, H, I, rfl, q⟩
theorem op_eq : OpR X (compareOp .Eq) rEq := by
  intro pins s σ H x y v u Q I rx ry h
  obtain ⟨hs, q⟩ := h
  cases x with
  | non =>
    cases rx
    cases y with
    | non => cases ry; exact PySem.EqNone.eq_none_none (fin_bl I q (by simp))
    | bl j => cases ry; exact PySem.EqNone.eq_none_bool (fin_bl I q (by simp))
    | int j => obtain ⟨t', rfl⟩ := ry; exact PySem.EqNone.eq_none_int (fin_bl I q (by simp))
    | str j => obtain ⟨t', rfl⟩ := ry; exact PySem.EqNone.eq_none_str (fin_bl I q (by simp))
    | _ => exact absurd (show false = true from hs) Bool.false_ne_true
  | bl i =>
    cases rx
    cases y with
    | non => cases ry; exact PySem.EqNone.eq_bool_none (fin_bl I q (by simp))
    | bl j => cases ry; exact eq_bool (fin_bl I q dec_bl)
    | str j => obtain ⟨t', rfl⟩ := ry; exact PySem.EqMixed.eq_bool_str (fin_bl I q (by simp))
    | _ => exact absurd (show false = true from hs) Bool.false_ne_true
  | int i =>
    obtain ⟨t, rfl⟩ := rx
    cases y with
    | non => cases ry; exact PySem.EqNone.eq_int_none (fin_bl I q (by simp))
    | int j => obtain ⟨t', rfl⟩ := ry; exact eq_int (fin_bl I q dec_int)
    | str j => obtain ⟨t', rfl⟩ := ry; exact PySem.EqMixed.eq_int_str (fin_bl I q (by simp))
    | _ => exact absurd (show false = true from hs) Bool.false_ne_true
  | str i =>
    obtain ⟨t, rfl⟩ := rx
    cases y with
    | non => cases ry; exact PySem.EqNone.eq_str_none (fin_bl I q (by simp))
    | bl j => cases ry; exact PySem.EqMixed.eq_str_bool (fin_bl I q (by simp))
    | int j => obtain ⟨t', rfl⟩ := ry; exact PySem.EqMixed.eq_str_int (fin_bl I q (by simp))
    | str j => obtain ⟨t', rfl⟩ := ry; exact eq_str (fin_bl I q dec_str)
    | _ => exact absurd (show false = true from hs) Bool.false_ne_true
  | byt i =>
    obtain ⟨t, rfl⟩ := rx
    cases y with
    | byt j => obtain ⟨t', rfl⟩ := ry; exact PySem.W.eq_bytes (fin_bl I q dec_byt)
    | _ => exact absurd (show false = true from hs) Bool.false_ne_true
  | _ => cases y <;> exact absurd (show false = true from hs) Bool.false_ne_true
theorem op_ne : OpR X (compareOp .NotEq) rNe := by
  intro pins s σ H x y v u Q I rx ry h
  obtain ⟨hs, q⟩ := h
  cases x with
  | non =>
    cases rx
    cases y with
    | non => cases ry; exact PySem.EqNone.ne_none_none (fin_bl I q (by simp))
    | bl j => cases ry; exact PySem.EqNone.ne_none_bool (fin_bl I q (by simp))
    | int j => obtain ⟨t', rfl⟩ := ry; exact PySem.EqNone.ne_none_int (fin_bl I q (by simp))
    | str j => obtain ⟨t', rfl⟩ := ry; exact PySem.EqNone.ne_none_str (fin_bl I q (by simp))
    | _ => exact absurd (show false = true from hs) Bool.false_ne_true
  | bl i =>
    cases rx
    cases y with
    | non => cases ry; exact PySem.EqNone.ne_bool_none (fin_bl I q (by simp))
    | bl j => cases ry; exact ne_bool (fin_bl I q (congrArg not dec_bl))
    | str j => obtain ⟨t', rfl⟩ := ry; exact PySem.EqMixed.ne_bool_str (fin_bl I q (by simp))
    | _ => exact absurd (show false = true from hs) Bool.false_ne_true
  | int i =>
    obtain ⟨t, rfl⟩ := rx
    cases y with
    | non => cases ry; exact PySem.EqNone.ne_int_none (fin_bl I q (by simp))
    | int j => obtain ⟨t', rfl⟩ := ry; exact ne_int (fin_bl I q (congrArg not dec_int))
    | str j => obtain ⟨t', rfl⟩ := ry; exact PySem.EqMixed.ne_int_str (fin_bl I q (by simp))
    | _ => exact absurd (show false = true from hs) Bool.false_ne_true
  | str i =>
    obtain ⟨t, rfl⟩ := rx
    cases y with
    | non => cases ry; exact PySem.EqNone.ne_str_none (fin_bl I q (by simp))
    | bl j => cases ry; exact PySem.EqMixed.ne_str_bool (fin_bl I q (by simp))
    | int j => obtain ⟨t', rfl⟩ := ry; exact PySem.EqMixed.ne_str_int (fin_bl I q (by simp))
    | str j => obtain ⟨t', rfl⟩ := ry; exact ne_str (fin_bl I q (congrArg not dec_str))
    | _ => exact absurd (show false = true from hs) Bool.false_ne_true
  | byt i =>
    obtain ⟨t, rfl⟩ := rx
    cases y with
    | byt j => obtain ⟨t', rfl⟩ := ry; exact PySem.W.ne_bytes (fin_bl I q (congrArg not dec_byt))
    | _ => exact absurd (show false = true from hs) Bool.false_ne_true
  | _ => cases y <;> exact absurd (show false = true from hs) Bool.false_ne_true

theorem op_lt : OpR X (compareOp .Lt) (rI0 fun i j => .bl (decide (i < j))) := opB0 fun _ _ _ _ _ _ _ q => lt_int q
theorem op_le : OpR X (compareOp .LtE) (rI0 fun i j => .bl (decide (i ≤ j))) := opB0 fun _ _ _ _ _ _ _ q => le_int q
theorem op_gt : OpR X (compareOp .Gt) (rI0 fun i j => .bl (decide (j < i))) := opB0 fun _ _ _ _ _ _ _ q => gt_int q
theorem op_ge : OpR X (compareOp .GtE) (rI0 fun i j => .bl (decide (j ≤ i))) := opB0 fun _ _ _ _ _ _ _ q => ge_int q




theorem nomark (b : Expr) {op : CmpOp} (h : op ≠ .In := by decide) (h2 : op ≠ .NotIn := by decide) : behindInMarks op b = false := by
  have e1 : (op == CmpOp.In) = false := by cases op <;> first | rfl | exact absurd rfl h
  have e2 : (op == CmpOp.NotIn) = false := by cases op <;> first | rfl | exact absurd rfl h2
  cases b <;> simp [behindInMarks, e1, e2]
/-- a comparison as a value; hm: nomark b, or (for in, not in) by with_unfolding_all rfl -/
theorem pe_cmpR {op : CmpOp} {r : R2} (ho : OpR X (compareOp op) r) (ha : PE X a ta) (hb : PE X b tb) (hm : behindInMarks op b = false) : PE X (.Compare a [op] [b] pos) (tOp r ta tb) := by
  intro pins s σ H Q I h
  exact wpAny_Compare1 (binT ha hb I h fun v u s2 x y H2 I2 rx ry q => ho pins s2 σ H2 x y v u Q I2 rx ry q) hm
/-- a reading of a value as a test -/
def tTest (t : TE) : TT := fun σ H Q => t σ H fun x H' => ∃ k, x = .bl k ∧ Q k H'
theorem pt_cmpR {op : CmpOp} {r : R2} (ho : OpR X (compareOp op) r) (ha : PE X a ta) (hb : PE X b tb) (hm : behindInMarks op b = false) : PT X (.Compare a [op] [b] pos) (tTest (tOp r ta tb)) := by
  intro pins s σ H Q I h
  refine wpAny_isTrue_Compare1 (thn (ha pins s σ H _ I h) fun v s1 ⟨x, H1, I1, r1, q1⟩ => thn (hb pins s1 σ H1 _ I1 q1) fun u s2 ⟨y, H2, I2, r2, q2⟩ =>
    thn (ho pins s2 σ H2 x y v u _ I2 r1 r2 q2) fun c s3 ⟨z, H3, I3, r3, k, e, q3⟩ => ?_) hm
  subst e
  cases r3
  exact wpAny_truthy_bool ⟨H3, I3, q3⟩
/-- a op1 b op2 c -/
def tChain (r r' : R2) (ta tb tc : TE) : TE := fun σ H Q => ta σ H fun x H1 => tb σ H1 fun y H2 => r x y H2 fun z H3 => ∃ k, z = .bl k ∧
  (if k = true then tc σ H3 fun w' H4 => r' y w' H4 Q else Q (.bl false) H3)
theorem pe_chain {op op' : CmpOp} {r r' : R2} (ho : OpR X (compareOp op) r) (ho' : OpR X (compareOp op') r') (ha : PE X a ta) (hb : PE X b tb) (hc : PE X c tc)
    (hm : lastMarks [op, op'] [b, c] = false := by with_unfolding_all rfl) : PE X (.Compare a [op, op'] [b, c] pos) (tChain r r' ta tb tc) := by
  intro pins s σ H Q I h
  refine Compare_chain (thn (ha pins s σ H _ I h) fun v s1 ⟨x, H1, I1, r1, q1⟩ => chain_link (thn (hb pins s1 σ H1 _ I1 q1) fun u s2 ⟨y, H2, I2, r2, q2⟩ =>
    thn (ho pins s2 σ H2 x y v u _ I2 r1 r2 q2) fun d s3 ⟨z, H3, I3, r3, k, e, q3⟩ => ?_)) hm
  subst e
  cases r3
  refine wpAny_truthy_bool ?_
  cases k with
  | false => exact ite_ff ⟨.bl false, H3, I3, rfl, q3⟩
  | true => exact ite_tt (chain_last (thn (hc pins s3 σ H3 _ I3 q3) fun w' s4 ⟨z', H4, I4, r4, q4⟩ => ho' pins s4 σ H4 y z' u w' Q I4 r2 r4 q4))

/-! ### truth -/
theorem line63 : (sizeLine : Nat) < 2 ^ 63 := by rw [sizeLine_eq]; decide

/-! ### strs and bytes -/


/-! ### scalar builtins, by CallR -/
theorem vals1 {x : V} {us : List Value} (r : Vals [x] us) : ∃ u, us = [u] ∧ RelV x u := by
  cases r with
  | cons r1 r2 => cases r2; exact ⟨_, rfl, r1⟩
theorem vals2 {x y : V} {us : List Value} (r : Vals [x, y] us) : ∃ u w', us = [u, w'] ∧ RelV x u ∧ RelV y w' := by
  cases r with
  | cons r1 r2 =>
    cases r2 with
    | cons r3 r4 => cases r4; exact ⟨_, _, rfl, r1, r3⟩
theorem call_abs : CallR X (.builtin "abs") (fun xs H Q => ∃ i, xs = [.int i] ∧ Q (.int (if i < 0 then -i else i)) H) := by
  intro pins s σ H xs us Q I r h
  obtain ⟨i, rfl, q⟩ := h
  obtain ⟨u, rfl, t, rfl⟩ := vals1 r
  exact call_abs_int fun u tk => ⟨.int (if i < 0 then -i else i), H, I.tok _, ⟨_, rfl⟩, q⟩
theorem call_max2 (hc : X.calm = true) : CallR X (.builtin "max") (fun xs H Q => ∃ i j, xs = [.int i, .int j] ∧ Q (.int (if j > i then j else i)) H) := by
  intro pins s σ H xs us Q I r h
  obtain ⟨i, j, rfl, q⟩ := h
  obtain ⟨u, w', rfl, ⟨t, rfl⟩, ⟨t', rfl⟩⟩ := vals2 r
  refine max_two_ints (I.ok.hd hc) fun h' tk k => ⟨_, H, I.kept k, ?_, q⟩
  by_cases hj : j > i
  · rw [if_pos hj, if_pos hj]; exact ⟨_, rfl⟩
  · rw [if_neg hj, if_neg hj]; exact ⟨_, rfl⟩
theorem call_min2 (hc : X.calm = true) : CallR X (.builtin "min") (fun xs H Q => ∃ i j, xs = [.int i, .int j] ∧ Q (.int (if j < i then j else i)) H) := by
  intro pins s σ H xs us Q I r h
  obtain ⟨i, j, rfl, q⟩ := h
  obtain ⟨u, w', rfl, ⟨t, rfl⟩, ⟨t', rfl⟩⟩ := vals2 r
  refine min_two_ints (I.ok.hd hc) fun h' tk k => ⟨_, H, I.kept k, ?_, q⟩
  by_cases hj : j < i
  · rw [if_pos hj, if_pos hj]; exact ⟨_, rfl⟩
  · rw [if_neg hj, if_neg hj]; exact ⟨_, rfl⟩
end
end L2

namespace L2
open PySem PySem.Spec PyProof.Rows

/-! ### an instance, its attributes a map -/
structure ObjM (h : Heap) (x dx C : Addr) (mA : Str → Option Value) : Prop where
  obj : h.get? x = some (PySem.W.instObj C dx)
  ns : h.Ns1 dx mA
  ne : dx ≠ x

theorem lookIn_ns {h : Heap} {dx : Addr} {mA : Str → Option Value} (n : h.Ns1 dx mA) : ∃ od, h.get? dx = some od ∧ ∀ name, PySem.W.lookIn name od = some (mA name) := by
  obtain ⟨o, es, ep, ho, hd, hk, _, hm⟩ := n
  refine ⟨o, ho, fun name => ?_⟩
  have e := hm name
  unfold nsFind findBy at e
  rw [← Array.find?_toList] at e
  unfold PySem.W.lookIn
  rw [hd]
  dsimp only
  split
  · rename_i y q
    rw [q] at e
    exact congrArg some e
  · rename_i q
    rw [q] at e
    have a : es.toList.any (·.refKey) = false := by
      rw [List.any_eq_false]
      intro y hy
      obtain ⟨z, t, hkey⟩ := hk y (Array.mem_toList_iff.mp hy)
      simp [DictEntry.refKey, hkey]
    have a' : ¬ es.toList.any (·.refKey) = true := by rw [a]; exact Bool.false_ne_true
    rw [if_neg a']
    exact congrArg some e

theorem ObjM.look {h : Heap} {x dx C : Addr} {mA : Str → Option Value} (I : ObjM h x dx C mA) : ∃ od, PySem.W.InstAt h x (PySem.W.instObj C dx) C (some od) ∧ ∀ name, PySem.W.lookIn name od = some (mA name) :=
  let ⟨od, ho, hl⟩ := lookIn_ns I.ns
  ⟨od, ⟨I.obj, rfl, rfl, ho⟩, hl⟩

section
variable {prog : Program} {w : World} {A : Around} {E : Value → Shared → Prop} {s : Shared} {K : PySem.W.Frag} {x dx C f : Addr} {mA : Str → Option Value} {name : Str} {v : Value}

theorem get_map {expr : Bool} {Q : Value → Shared → Prop} (X : K.In s.heap) (I : ObjM s.heap x dx C mA) (hg : PySem.W.plainGet K C name = true) (hh : PySem.W.hasDictIn K C = true)
    (ha : PySem.W.findIn K (.ref C) name = some none) (hv : mA name = some v) (hv' : PySem.W.handedIn v = true) (h : Q v { s with toks := s.toks + 1 }) :
    wpAny (model prog w) A (getAttr (.ref x) name expr) Q E s := by
  obtain ⟨od, J, hl⟩ := I.look
  exact PySem.W.get_value X J (PySem.W.plainGet_of hg).1 (PySem.W.findObj_own hh ha rfl (by rw [hl, hv])) hv' h


theorem get_meth {pl : Sem Bool} {Q : Value × List Value → Shared → Prop} (X : K.In s.heap) (I : ObjM s.heap x dx C mA) (hg : PySem.W.plainGet K C name = true)
    (hf : PySem.W.findIn K (.ref C) name = some (some (.ref f))) (ht : PySem.W.isFn K (.ref f) = true) (hv : mA name = none) (h : Q (.ref f, [.ref x]) s) :
    wpAny (model prog w) A (getMethod (.ref x) name pl) Q E s := by
  obtain ⟨od, J, hl⟩ := I.look
  exact PySem.W.method_fn X J (PySem.W.plainGet_of hg).1 (PySem.W.plainGet_of hg).2 hf (beq_iff_eq.mp ht) (by show (PySem.W.lookIn name od).map (·.isSome) = some false; rw [hl, hv]; rfl) h

theorem set_map {ns : List Str} {Q : Unit → Shared → Prop} (X : K.In s.heap) (I : ObjM s.heap x dx C mA)
    (hs : PySem.W.findIn K (.ref C) "__setattr__" = some (some (.builtin "object.__setattr__"))) (hp : PySem.W.plainOver K C = true) (ht : PySem.W.takerIn K C name = some none) (hh : PySem.W.hasDictIn K C = true)
    (hw : PySem.Within mA ns) (hsz : ns.length ≤ sizeLine)
    (h : ∀ h', ObjM h' x dx C (fun y => if y = name then some v else mA y) → Heap.SameBut dx s.heap h' → Q () { s with heap := h', toks := s.toks + 2 }) :
    wpAny (model prog w) A (setAttr (.ref x) name v) Q E s := by
  obtain ⟨od, J, hl⟩ := I.look
  refine PySem.W.set_plain X J hs (PySem.W.osa_open (s := { s with toks := s.toks + 1 }) (r := none) X J hp ht fun b => ?_)
  obtain ⟨cd, hc, hd'⟩ := PySem.W.any_some hh
  have hx : s.heap.get? x = some ⟨.ref C, some dx, .plain, #[]⟩ := I.obj
  refine wpAny_bind (wpAny_pure (wpAny_bind (wpAny_bind (wpAny_loadPart hx (wpAny_bind (PySem.W.Looks.here (s := { s with toks := s.toks + 1 }) (PySem.W.looks_clsIn X hc) ?_))))))
  rw [hd']
  refine wpAny_pure (a := some dx) (wpAny_bind (wpAny_pure (wpAny_bind ?_)))
  refine wpAny_nsSet1 (s := { s with toks := s.toks + 1 }) I.ns fun h' hn2 hs2 => ?_
  obtain ⟨oD, esD, epD, hoD, hdD, hcD⟩ := hn2.count (PySem.Within.cons name v hw)
  refine wpAny_bind (wpAny_lookBehind hoD (by rw [hdD]; exact pastItsLine_dict (Nat.le_trans hcD (by rw [List.length_cons]; omega))) ?_)
  exact wpAny_pure (h _ ⟨(hs2.2 _ (Ne.symm I.ne)).trans I.obj, hn2, I.ne⟩ hs2)

/-- C(..): the dict at the heap's end, the instance behind it; then its __init__ -/
theorem make_map {R : Result → Shared → Prop} {vs : List Value} {kw : List (Str × Value)} (X : K.In s.heap) (hm : PySem.W.makesIn K C = true)
    (hi : PySem.W.findIn K (.ref C) "__init__" = some (some (.ref f))) (hf : PySem.W.typeIn K (.ref f) = some (.type "function"))
    (h : codeAny (model prog w) (A.under (.builtin "type.__call__" ⟨.ref C :: vs, kw⟩)) (.call (.ref f) ⟨.ref (s.heap.objs.size + 1) :: vs, kw⟩) (PySem.W.InitBack (s.heap.objs.size + 1) R)
      { s with heap := (s.heap.push PySem.W.emptyDict).push (PySem.W.instObj C s.heap.objs.size) }) :
    codeAny (model prog w) A (.call (.ref C) ⟨vs, kw⟩) R s := by
  obtain ⟨hh, g, d, t, os⟩ := s
  exact PySem.W.make_core (PySem.W.makes_of X hm) (PySem.W.looks_findIn X hi) (fun self => PySem.W.bind_fn X self hf) (.inl rfl) h
end

/-! ### the attributes as a list of pairs -/
def putF (f : Str) (v : V) : List (Str × V) → List (Str × V)
  | [] => [(f, v)]
  | (g, x) :: r => if g = f then (g, v) :: r else (g, x) :: putF f v r
theorem lookup_putF (f g : Str) (v : V) : ∀ fs : List (Str × V), (putF f v fs).lookup g = if g = f then some v else fs.lookup g
  | [] => by
    show List.lookup g [(f, v)] = _
    by_cases h : g = f
    · have hb : (g == f) = true := beq_iff_eq.mpr h
      simp only [List.lookup, hb, if_pos h]
    · have hb : (g == f) = false := beq_eq_false_iff_ne.mpr h
      simp only [List.lookup, hb, if_neg h]
  | (k, x) :: r => by
    have ih := lookup_putF f g v r
    rw [show putF f v ((k, x) :: r) = (if k = f then (k, v) :: r else (k, x) :: putF f v r) from rfl]
    by_cases hk : k = f
    · rw [if_pos hk]
      by_cases h : g = k
      · have hb : (g == k) = true := beq_iff_eq.mpr h
        simp only [List.lookup, hb, if_pos (h.trans hk)]
      · have hb : (g == k) = false := beq_eq_false_iff_ne.mpr h
        simp only [List.lookup, hb, if_neg (fun e : g = f => h (e.trans hk.symm))]
    · rw [if_neg hk]
      by_cases h : g = k
      · have hb : (g == k) = true := beq_iff_eq.mpr h
        simp only [List.lookup, hb, if_neg (fun e : g = f => hk (h.symm.trans e))]
      · have hb : (g == k) = false := beq_eq_false_iff_ne.mpr h
        simp only [List.lookup, hb]
        exact ih
theorem keys_putF (f : Str) (v : V) : ∀ fs : List (Str × V), f ∈ (putF f v fs).map (·.1) ∧ ∀ g, g ∈ fs.map (·.1) → g ∈ (putF f v fs).map (·.1)
  | [] => ⟨by simp [putF], fun g h => by simp at h⟩
  | (k, x) :: r => by
    obtain ⟨i1, i2⟩ := keys_putF f v r
    rw [show putF f v ((k, x) :: r) = (if k = f then (k, v) :: r else (k, x) :: putF f v r) from rfl]
    by_cases hk : k = f
    · rw [if_pos hk]
      subst hk
      exact ⟨by simp, fun g h => by simpa using h⟩
    · rw [if_neg hk]
      refine ⟨?_, fun g h => ?_⟩
      · rw [List.map_cons]
        exact List.mem_cons_of_mem _ i1
      · rw [List.map_cons] at h ⊢
        rcases List.mem_cons.mp h with e | e
        · exact List.mem_cons.mpr (.inl e)
        · exact List.mem_cons_of_mem _ (i2 g e)
theorem length_putF (f : Str) (v : V) : ∀ fs : List (Str × V), (putF f v fs).length ≤ fs.length + 1
  | [] => by simp [putF]
  | (k, x) :: r => by
    have ih := length_putF f v r
    rw [show putF f v ((k, x) :: r) = (if k = f then (k, v) :: r else (k, x) :: putF f v r) from rfl]
    by_cases hk : k = f
    · rw [if_pos hk, List.length_cons, List.length_cons]; omega
    · rw [if_neg hk, List.length_cons, List.length_cons]; omega

theorem RelO.some_of {v : V} {o : Option Value} (r : RelO (some v) o) : ∃ u, o = some u ∧ RelV v u := by
  cases o with
  | none => exact (show False from r).elim
  | some u => exact ⟨u, rfl, r⟩
theorem RelO.none_of {o : Option Value} (r : RelO none o) : o = none := by
  cases o with
  | none => rfl
  | some u => exact (show False from r).elim
theorem handed_of {v : V} {u : Value} (r : RelV v u) : PySem.W.handedIn u = true := by
  cases v with
  | non => cases (show u = Value.none from r); rfl
  | bl b => cases (show u = Value.bool b from r); rfl
  | int i => obtain ⟨t, e⟩ := (show ∃ t, u = Value.int i t from r); cases e; rfl
  | str x => obtain ⟨t, e⟩ := (show ∃ t, u = Value.str x t from r); cases e; rfl
  | byt b => obtain ⟨t, e⟩ := (show ∃ t, u = Value.bytes b t from r); cases e; rfl
  | flt b => obtain ⟨t, e⟩ := (show ∃ t, u = Value.float b t from r); cases e; rfl
  | ref a => cases (show u = Value.ref a from r); rfl
  | ty n => cases (show u = Value.type n from r); rfl

section
variable {P : Program} {w : World} {H H' : Hp} {h h' : Heap} {a C dx : Addr} {fs fs' : List (Str × V)}
theorem ins_get (hok : HOk P w H h) (e : H a = some (.ins C dx fs)) : ∃ mA, ObjM h a dx C mA ∧ (∀ f, RelO (fs.lookup f) (mA f)) ∧ PySem.Within mA (fs.map (·.1)) ∧ fs.length ≤ 1000 ∧ H dx = some (.own a) := by
  obtain ⟨d, z, ne, ob, mA, n, r, q⟩ := (show ObjOk P w H h a (.ins C dx fs) from hok a _ e)
  exact ⟨mA, ⟨ob, n, ne⟩, r, q, z, d⟩
end

/-! ### what of the text a class must have -/
structure Cls (K : PySem.W.Frag) (C : Addr) : Prop where
  pg : PySem.W.plainGet K C Str.empty = true
  hd : PySem.W.hasDictIn K C = true
  po : PySem.W.plainOver K C = true
  sa : PySem.W.findIn K (.ref C) "__setattr__" = some (some (.builtin "object.__setattr__"))
theorem Cls.get {K : PySem.W.Frag} {C : Addr} (c : Cls K C) (f : Str) : PySem.W.plainGet K C f = true := c.pg
/-- no class of it has the name -/
def NoAttr (K : PySem.W.Frag) (C : Addr) (f : Str) : Prop := PySem.W.findIn K (.ref C) f = some none
theorem NoAttr.taker {K : PySem.W.Frag} {C : Addr} {f : Str} (n : NoAttr K C f) : PySem.W.takerIn K C f = some none := by
  unfold PySem.W.takerIn
  rw [show PySem.W.findIn K (.ref C) f = some none from n]
  rfl
/-- a method: a plain def of the class or of one above it -/
structure Meth (K : PySem.W.Frag) (C : Addr) (m : Str) (f : Addr) : Prop where
  at_ : PySem.W.findIn K (.ref C) m = some (some (.ref f))
  fn : PySem.W.isFn K (.ref f) = true
  kp : PySem.W.keepIn K (.ref f) = true

section
variable {X : Cx} {pins : List (Addr × Obj)} {σ : St} {H : Hp} {s : Shared} {a C dx : Addr} {fs : List (Str × V)} {f : Str} {v : V} {A : Around} {E : Value → Shared → Prop}

theorem getattr_ok {b : Bool} {Q : Value → Shared → Prop} (I : Inv X pins σ H s) (e : H a = some (.ins C dx fs)) (c : Cls X.K C) (n : NoAttr X.K C f) (l : fs.lookup f = some v)
    (h : ∀ u s', Inv X pins σ H s' → RelV v u → Q u s') : wpAny (model X.prog X.w) A (getAttr (.ref a) f b) Q E s := by
  obtain ⟨mA, O, r, _, _, _⟩ := ins_get I.hok e
  obtain ⟨u, hu, ru⟩ := RelO.some_of (v := v) (o := mA f) (by rw [← l]; exact r f)
  exact get_map I.kIn O (c.get f) c.hd n hu (handed_of ru) (h u _ (I.tok _) ru)


theorem getmeth_ok {m : Str} {g : Addr} {pl : Sem Bool} {Q : Value × List Value → Shared → Prop} (I : Inv X pins σ H s) (e : H a = some (.ins C dx fs)) (c : Cls X.K C) (k : Meth X.K C m g) (l : fs.lookup m = none)
    (h : Q (.ref g, [.ref a]) s) : wpAny (model X.prog X.w) A (getMethod (.ref a) m pl) Q E s := by
  obtain ⟨mA, O, r, _, _, _⟩ := ins_get I.hok e
  have hn : mA m = none := RelO.none_of (by rw [← l]; exact r m)
  exact get_meth I.kIn O (c.get m) k.at_ k.fn hn h

theorem setattr_ok {y : V} {u : Value} {Q : Unit → Shared → Prop} (I : Inv X pins σ H s) (e : H a = some (.ins C dx fs)) (c : Cls X.K C) (n : NoAttr X.K C f) (hl : fs.length < 1000) (ry : RelV y u)
    (h : ∀ s', Inv X pins σ (upd H a (.ins C dx (putF f y fs))) s' → Q () s') : wpAny (model X.prog X.w) A (setAttr (.ref a) f u) Q E s := by
  obtain ⟨mA, O, r, wi, _, ho⟩ := ins_get I.hok e
  have hz : (fs.map (·.1)).length ≤ sizeLine := by rw [List.length_map, sizeLine_eq]; omega
  refine set_map I.kIn O c.sa c.po n.taker c.hd wi hz fun h' O' sb => h _ ?_
  have hd : ∃ o, h'.get? dx = some o := let ⟨o, _, _, e', _⟩ := O'.ns; ⟨o, e'⟩
  refine I.write (x := a) (e := dx) (by rw [e]; exact True.intro) (.inr ho) (fun b q hb z => (sb.2 b hb).trans z) hd ?_
  refine ⟨by rw [upd_ne O.ne]; exact ho, ?_, O.ne, O'.obj, _, O'.ns, fun g => ?_, fun g hg => ?_⟩
  · have := length_putF f y fs; omega
  · show RelO ((putF f y fs).lookup g) (if g = f then some u else mA g)
    rw [lookup_putF]
    by_cases q : g = f
    · rw [if_pos q, if_pos q]; exact ry
    · rw [if_neg q, if_neg q]; exact r g
  · by_cases q : g = f
    · rw [q]; exact (keys_putF f y fs).1
    · refine (keys_putF f y fs).2 g (wi g fun z => hg ?_)
      show (if g = f then some u else mA g) = none
      rw [if_neg q]; exact z

/-- a new instance, tracked, without attributes -/
theorem Inv.made (I : Inv X pins σ H s) : Inv X pins σ (upd (upd H s.heap.objs.size (.own (s.heap.objs.size + 1))) (s.heap.objs.size + 1) (.ins C s.heap.objs.size []))
    { s with heap := (s.heap.push PySem.W.emptyDict).push (PySem.W.instObj C s.heap.objs.size) } := by
  have e1 : (s.heap.push PySem.W.emptyDict).get? s.heap.objs.size = some PySem.W.emptyDict := Heap.get?_push_size s.heap rfl
  have e2 : ((s.heap.push PySem.W.emptyDict).push (PySem.W.instObj C s.heap.objs.size)).get? (s.heap.objs.size + 1) = some (PySem.W.instObj C s.heap.objs.size) := by
    have := Heap.get?_push_size (s.heap.push PySem.W.emptyDict) (o := PySem.W.instObj C s.heap.objs.size) rfl
    rwa [Heap.size_push] at this
  have e3 : (s.heap.push PySem.W.emptyDict).Ns s.heap.objs.size (fun _ => none) := ⟨PySem.W.emptyDict, #[], _, e1, rfl, (fun e he => absurd he (by simp)), fun _ => rfl⟩
  have I1 := I.laid (a := s.heap.objs.size) (o := .own (s.heap.objs.size + 1)) (h' := s.heap.push PySem.W.emptyDict) (t' := s.toks) (fun b u q => Heap.get?_push_of_some _ q) (Nat.le_refl _) ⟨_, e1⟩
  refine I1.laid (a := s.heap.objs.size + 1) (o := .ins C s.heap.objs.size []) (t' := s.toks) (fun b u q => Heap.get?_push_of_some _ q) (Nat.le_of_eq (Heap.size_push _ _)) ?_
  have ne : s.heap.objs.size ≠ s.heap.objs.size + 1 := Nat.ne_of_lt (Nat.lt_succ_self _)
  refine ⟨by rw [upd_ne ne, upd_same], Nat.zero_le _, ne, e2, fun _ => none, (Heap.Ns1.of_empty e3).at fun o q => Heap.get?_push_of_some _ q, fun _ => True.intro, fun y hy => absurd rfl hy⟩

/-- e.f where nothing but the object is asked: through attributeBase (super) and the last hold -/
theorem attr_of {prog : Program} {w : World} {env : Env} {e : Expr} {f : Str} {pos : Pos} {s : Shared} {Q : Value → Shared → Prop} (hb : attributeBase e f env (eval e env) = eval e env)
    (h : wpAny (model prog w) A (eval e env) (fun o s₁ => wpAny (model prog w) A (getAttr o f true) Q E s₁) E s) : wpAny (model prog w) A (eval (.Attribute e f pos) env) Q E s :=
  Attribute_any_ h (by rw [arm_eval_Attribute, hb])
end

/-! ### readings and rules -/
/-- e.f, an attribute of the instance -/
def tFld (K : PySem.W.Frag) (ta : TE) (f : Str) : TE := fun σ H Q => ta σ H fun x H1 => ∃ a C dx fs v, x = .ref a ∧ H1 a = some (.ins C dx fs) ∧ Cls K C ∧ NoAttr K C f ∧ fs.lookup f = some v ∧ Q v H1
/-- e.f = value -/
def sFld (K : PySem.W.Frag) (ta tv : TE) (f : Str) : TS := fun D σ H => tv σ H fun y H1 => ta σ H1 fun x H2 => ∃ a C dx fs, x = .ref a ∧ H2 a = some (.ins C dx fs) ∧ Cls K C ∧ NoAttr K C f ∧ fs.length < 1000 ∧
  D.nx σ (upd H2 a (.ins C dx (putF f y fs)))

section
variable {X : Cx} {o e value : Expr} {f : Str} {pos pos' tpos : Pos} {ta tv : TE}
theorem pe_fld (he : PE X e ta) (hb : attributeBase e f X.env (eval e X.env) = eval e X.env) : PE X (.Attribute e f pos) (tFld X.K ta f) := by
  intro pins s σ H Q I h
  refine attr_of hb (thn (he pins s σ H _ I h) fun u s1 ⟨x, H1, I1, rx, a, C, dx, fs, v, ex, ea, c, n, l, q⟩ => ?_)
  subst ex
  obtain rfl : u = Value.ref a := rx
  exact getattr_ok I1 ea c n l fun u' s2 I2 ru => ⟨v, H1, I2, ru, q⟩
theorem ps_fld (ha : PE X o ta) (hv : PE X value tv) (hs : swapsWith value (some (.Attribute o f pos')) pos.line X.env = pure false) : PS X (.Assign [.Attribute o f pos'] value pos) (sFld X.K ta tv f) := by
  intro pins s σ H D I h
  refine plainObj_wpAny_Assign_Attribute (thn (hv pins s σ H _ I h) fun u s1 ⟨y, H1, I1, ry, q⟩ => thn (ha pins s1 σ H1 _ I1 q) fun ov s2 ⟨x, H2, I2, rx, a, C, dx, fs, ex, ea, c, n, l, q2⟩ => ?_) hs
  subst ex
  obtain rfl : ov = Value.ref a := rx
  exact setattr_ok I2 ea c n l ry fun s3 I3 => ⟨σ, _, I3, q2⟩

/-- what is between an instance and its method: the tree of a method call -/
theorem methcall_of {pl : Sem Bool} {m : Str} {apos : Pos} {args : List Expr} {pins : List (Addr × Obj)} {s : Shared} {σ : St} {H : Hp} {Q : Value → Shared → Prop} {te : TE} (he : PE X e te) (I : Inv X pins σ H s)
    (h : te σ H fun x H1 => ∃ a C dx fs g, x = .ref a ∧ H1 a = some (.ins C dx fs) ∧ Cls X.K C ∧ Meth X.K C m g ∧ fs.lookup m = none ∧
      ∀ s1, Inv X pins σ H1 s1 → wpAny (model X.prog X.w) X.A (callWith pos (.ref g) [.ref a] (backTo pos (starEach args X.env)) (backToKw pos (keywordEach [] X.env))) Q X.xe s1)
    (ht : eval (.Call (.Attribute e m apos) args [] pos) X.env = (do
      let ov ← eval e X.env
      standAt apos.atName
      let (f, first) ← holding [ov] (getMethod ov m pl)
      callWith pos f first (backTo pos (starEach args X.env)) (backToKw pos (keywordEach [] X.env)))) :
    wpAny (model X.prog X.w) X.A (eval (.Call (.Attribute e m apos) args [] pos) X.env) Q X.xe s := by
  refine PySem.W.methodCall_KW (pl := pl) (thn (he pins s σ H _ I h) fun u s1 ⟨x, H1, I1, rx, a, C, dx, fs, g, ex, ea, c, k, l, q⟩ => ?_) ht
  subst ex
  obtain rfl : u = Value.ref a := rx
  exact getmeth_ok I1 ea c k l (q s1 I1)
end

/-! ### isinstance -/
section
variable {X : Cx} {pins : List (Addr × Obj)} {σ : St} {H : Hp} {s : Shared} {A : Around} {E : Value → Shared → Prop} {Q : Value → Shared → Prop} {c : Value} {b : Bool}
end
end L2

namespace L2
open PySem PySem.Spec PyProof.Rows

/-! ### room -/
structure Room (k : Nat) (A : Around) : Prop where
  hd : A.handled = none
  dp : A.depth + 3 * k + 5 < recursionLimit
  un : A.units + 16 * k + 200 < cLine
theorem Room.mono {j k : Nat} {A : Around} (r : Room k A) (h : j ≤ k) : Room j A := ⟨r.hd, by have := r.dp; omega, by have := r.un; omega⟩
theorem Room.deeper {k : Nat} {A : Around} (r : Room (k + 1) A) (env : Env) : Room k (A.deeper env) :=
  ⟨r.hd, by have := r.dp; show A.depth + 1 + 3 * k + 5 < _; omega, by have := r.un; show A.units + 3 + 16 * k + 200 < _; omega⟩
theorem make_depth {A : Around} {C : Addr} {us : List Value} {kw : List (Str × Value)} : (A.under (.builtin "type.__call__" ⟨.ref C :: us, kw⟩)).depth = A.depth + 1 := by
  first | rfl | simp [Around.under, Code.weight, Code.isCreation, Code.isGuard, Code.isCaller, Code.frames, Code.isFrame, guardIds]
theorem make_units {A : Around} {C : Addr} {us : List Value} {kw : List (Str × Value)} : (A.under (.builtin "type.__call__" ⟨.ref C :: us, kw⟩)).units = A.units + 1 := by
  first | rfl | simp [Around.under, Code.cUnits, Code.frames, Code.isFrame]
theorem Room.make {k : Nat} {A : Around} (r : Room (k + 1) A) (C : Addr) (us : List Value) (kw : List (Str × Value)) : Room k (A.under (.builtin "type.__call__" ⟨.ref C :: us, kw⟩)) :=
  ⟨r.hd, by have := r.dp; rw [make_depth]; omega, by have := r.un; rw [make_units]; omega⟩
theorem Room.depth {k : Nat} {A : Around} (r : Room k A) : A.depth < recursionLimit := by have := r.dp; omega
theorem Room.units {k : Nat} {A : Around} (r : Room k A) : A.units + 64 < cLine := by have := r.un; omega

/-! ### argument lists and displays -/
def tNil : TA := fun _ H Q => Q [] H
def tCons (ta : TE) (tr : TA) : TA := fun σ H Q => ta σ H fun x H1 => tr σ H1 fun xs H2 => Q (x :: xs) H2
section
variable {X : Cx} {e : Expr} {es : List Expr} {te : TE} {t : TA} {pos : Pos}
theorem pa_nil : PA X [] tNil := fun _ _ _ _ H Q I h => Calls.spliced_nil ⟨[], H, I, .nil, h⟩
theorem pa_cons (ha : PE X e te) (hr : PA X es t) (hs : starEach (e :: es) X.env = (false, eval e X.env) :: starEach es X.env := by rfl) : PA X (e :: es) (tCons te t) := by
  intro pos pins s σ H Q I h
  rw [hs]
  show wpAny _ _ (spliced ((false, eval e X.env) :: backTo pos (starEach es X.env))) _ _ s
  refine Calls.spliced_cons (thn (ha pins s σ H _ I h) fun u s1 ⟨x, H1, I1, r1, q1⟩ => ?_)
  exact thn (hr pos pins s1 σ H1 _ I1 q1) fun us s2 ⟨xs, H2, I2, r2, q2⟩ => ⟨x :: xs, H2, I2, .cons r1 r2, q2⟩

/-- a tuple, a list of written items -/
def tTup (t : TA) : TE := fun σ H Q => t σ H fun xs H1 => xs.length ≤ sizeLine ∧ ∀ p, H1 p = none → Q (.ref p) (upd H1 p (.tup xs))
def tLst (t : TA) : TE := fun σ H Q => t σ H fun xs H1 => xs.length ≤ sizeLine ∧ ∀ p, H1 p = none → Q (.ref p) (upd H1 p (.lst xs))
theorem pe_tup {x1} (h : PA X es t) : PE X (.Tuple es x1 pos) (tTup t) := by
  intro pins s σ H Q I hq
  refine wpAny_Tuple_spliced (thn (h pos pins s σ H _ I hq) fun us s1 ⟨xs, H1, I1, r, z, q⟩ => ⟨by rw [← r.length]; exact z, ?_⟩)
  have hf : H1 s1.heap.objs.size = none := I1.hok.fresh (Nat.le_refl _)
  refine ⟨.ref s1.heap.objs.size, upd H1 s1.heap.objs.size (.tup xs), I1.laid (t' := s1.toks) (fun b u e => Heap.get?_push_of_some _ e) (Nat.le_refl _) ?_, rfl, q _ hf⟩
  exact ⟨z, us, r, ⟨_, Heap.get?_push_size _ rfl, rfl, _, rfl⟩⟩
theorem pe_lst (h : PA X es t) : PE X (.List es pos) (tLst t) := by
  intro pins s σ H Q I hq
  refine wpAny_List_spliced (thn (h pos pins s σ H _ I hq) fun us s1 ⟨xs, H1, I1, r, z, q⟩ => ⟨by rw [← r.length]; exact z, ?_⟩)
  have hf : H1 s1.heap.objs.size = none := I1.hok.fresh (Nat.le_refl _)
  refine ⟨.ref s1.heap.objs.size, upd H1 s1.heap.objs.size (.lst xs), I1.laid (t' := s1.toks) (fun b u e => Heap.get?_push_of_some _ e) (Nat.le_refl _) ?_, rfl, q _ hf⟩
  exact ⟨z, us, 0, r, Heap.get?_push_size _ rfl⟩
end

/-! ### what a def promises -/
/-- a def's promise: the bound arguments in the parameters' order, the heap, the wanted end, the wanted exception -/
abbrev Sp := List V → Hp → VK → XK → Prop
/-- how an exception lies behind a call (file 08 gives it): the callers' frames, abstract heap and state ahead of the call, the wish, the exception, the state -/
abbrev CXT := List Env → Hp → Shared → XK → Value → Shared → Prop

/-- the state at a call -/
structure Env0 (P : Program) (w : World) (K : PySem.W.Frag) (mg : Str → Option Value) (base : Heap) (A : Around) (outer : List Env) (s : Shared) (H : Hp) : Prop where
  frames : A.frames = some outer
  mod : Mod K mg base
  bs : ∀ b o, base.get? b = some o → s.heap.get? b = some o ∧ H b = none
  bsz : base.objs.size ≤ s.heap.objs.size
  funs : s.heap.FunFrames base outer
  frf : ∀ b ∈ frs outer, H b = none
  hok : HOk P w H s.heap
  bare : AllBare s.gens
/-- a call's end -/
def CE (outer : List Env) (P : Program) (w : World) (H : Hp) (s : Shared) (Q : VK) (u : Value) (s' : Shared) : Prop :=
  ∃ v H', s'.os = s.os ∧ AllBare s'.gens ∧ Un (frs outer) [] H H' s.heap s'.heap ∧ HOk P w H' s'.heap ∧ RelV v u ∧ Q v H'
def CR (CX : CXT) (outer : List Env) (P : Program) (w : World) (H : Hp) (s : Shared) (Q : VK) (E : XK) (r : Result) (s' : Shared) : Prop :=
  match r with
  | .ok (.ret u) => CE outer P w H s Q u s'
  | .ok _ => False
  | .error e => CX outer H s E e s'
structure FnOk (P : Program) (w : World) (K : PySem.W.Frag) (mg : Str → Option Value) (base : Heap) (CX : CXT) (k : Nat) (f : Addr) (fd : FuncData) (ps : List Str) (sp : Sp) : Prop where
  len : ∀ vs H Q E, sp vs H Q E → vs.length = ps.length
  run : ∀ (A : Around) (outer : List Env) (s : Shared) (H : Hp) (args : Args) (us : List Value) (vs : List V) (Q : VK) (E : XK), Room k A → Env0 P w K mg base A outer s H → BindsTo s fd args (ps.zip us) → Vals vs us → sp vs H Q E →
    codeAny (model P w) A (.call (.ref f) args) (CR CX outer P w H s Q E) s

theorem Env0.make {P : Program} {w : World} {K : PySem.W.Frag} {mg : Str → Option Value} {base : Heap} {A : Around} {outer : List Env} {s : Shared} {H : Hp} (e : Env0 P w K mg base A outer s H) (C : Addr) (us : List Value) (kw : List (Str × Value)) :
    Env0 P w K mg base (A.under (.builtin "type.__call__" ⟨.ref C :: us, kw⟩)) outer s H := ⟨by first | exact e.frames | (simpa [Around.under, Code.envs, Code.isFrame, pushEnvs] using e.frames), e.mod, e.bs, e.bsz, e.funs, e.frf, e.hok, e.bare⟩

section
variable {X : Cx} {pins : List (Addr × Obj)} {σ : St} {H : Hp} {s s' : Shared}
/-- from a body: what a callee wants -/
theorem Inv.env0 (I : Inv X pins σ H s) : Env0 X.prog X.w X.K X.mg X.base X.A X.stack s H :=
  ⟨I.ok.frames, I.ok.mod, I.bs, Nat.le_trans I.ok.bsz I.sz, I.stack, I.stkFree, I.hok, I.bare⟩
/-- behind a call -/
theorem Inv.after {Q : VK} {u : Value} (I : Inv X pins σ H s) (h : CE X.stack X.prog X.w H s Q u s') : EP X pins σ Q u s' := by
  obtain ⟨v, H', os, bare, un, hok, r, q⟩ := h
  obtain ⟨hh, g, d, t, os'⟩ := s'
  obtain rfl : os' = s.os := os
  exact ⟨v, H', I.call (h' := hh) (g' := g) (d' := d) (t' := t) (ch := []) un hok bare (fun b z => absurd z (by simp)), r, q⟩
end

/-! ### calls -/
/-- f(..): the written arguments, then the defaults dvs; E: what is wanted of an exception -/
def tCall (sp : Sp) (dvs : List V) (E : XK) (t : TA) : TE := fun σ H Q => t σ H fun vs H1 => sp (vs ++ dvs) H1 Q E
/-- o.m(..) of an instance of the class at C -/
def tMeth (C : Addr) (m : Str) (sp : Sp) (dvs : List V) (E : XK) (ta : TE) (t : TA) : TE := fun σ H Q => ta σ H fun x H1 => ∃ a dx fs, x = .ref a ∧ H1 a = some (.ins C dx fs) ∧ fs.lookup m = none ∧
  t σ H1 fun vs H2 => sp (x :: (vs ++ dvs)) H2 Q E
/-- C(..): a new instance and its dict, then __init__ -/
def tMake (C : Addr) (sp : Sp) (dvs : List V) (E : XK) (t : TA) : TE := fun σ H Q => t σ H fun vs H1 => ∀ x dx, H1 x = none → H1 dx = none → dx ≠ x →
  sp (.ref x :: (vs ++ dvs)) (upd (upd H1 dx (.own x)) x (.ins C dx [])) (fun v H2 => v = .non ∧ Q (.ref x) H2) E

/-- how the parameters are bound: us the positional arguments, kw the keywords' values by name, ds the defaults that fill up -/
def Binds (K : PySem.W.Frag) (fd : FuncData) (ps : List Str) (ds : List Value) : Prop :=
  ∀ (s : Shared) (us : List Value), K.In s.heap → (us ++ ds).length = ps.length → BindsTo s fd ⟨us, []⟩ (ps.zip (us ++ ds))
/-- every parameter is given -/
theorem Binds.all {K : PySem.W.Frag} {fd : FuncData} {ps : List Str} (h : ∀ us : List Value, us.length = ps.length → bindArgs fd ⟨us, []⟩ = pure (ps.zip us)) : Binds K fd ps [] := fun s us _ hl => by
  rw [List.append_nil] at hl ⊢
  exact .of_eq (h us hl)

/-- an exception of a callee reaches what this body wants of exceptions -/
def Passes (CX : CXT) (X : Cx) (E : XK) : Prop := ∀ (pins : List (Addr × Obj)) (σ : St) (H : Hp) (s : Shared) (e : Value) (s' : Shared), Inv X pins σ H s → CX X.stack H s E e s' → X.xe e s'

section
variable {X : Cx} {CX : CXT} {k : Nat} {f C : Addr} {fd : FuncData} {ps : List Str} {sp : Sp} {dvs : List V} {ds : List Value} {E : XK} {x m : Str} {p pos apos : Pos} {e o : Expr} {es : List Expr} {ta : TE} {t : TA}

/-- the callee runs -/
theorem run_fn {pins : List (Addr × Obj)} {σ : St} {H : Hp} {s : Shared} {Q : VK} {us : List Value} {vs : List V} (F : FnOk X.prog X.w X.K X.mg X.base CX k f fd ps sp) (hr : Room k X.A) (hb : Binds X.K fd ps ds) (hd : Vals dvs ds) (hx : Passes CX X E)
    (I : Inv X pins σ H s) (r : Vals vs us) (h : sp (vs ++ dvs) H Q E) : wpAny (model X.prog X.w) X.A (call (.ref f) us) (EP X pins σ Q) X.xe s := by
  have r2 : Vals (vs ++ dvs) (us ++ ds) := r.append hd
  have hl : (us ++ ds).length = ps.length := by rw [← r2.length]; exact F.len _ _ _ _ h
  refine wpAny_call (codeAny_mono (F.run X.A X.stack s H ⟨us, []⟩ (us ++ ds) (vs ++ dvs) Q E hr I.env0 (hb s us I.kIn hl) r2 h) fun r s' hq => ?_)
  cases r with
  | error e => exact hx pins σ H s e s' I hq
  | ok fl =>
    cases fl with
    | ret u => exact I.after hq
    | next => exact False.elim hq
    | brk => exact False.elim hq
    | cont => exact False.elim hq

theorem pe_call (F : FnOk X.prog X.w X.K X.mg X.base CX k f fd ps sp) (hr : Room k X.A) (hg : Gl X x) (hm : X.mg x = some (.ref f)) (hk : PySem.W.keepIn X.K (.ref f) = true) (hb : Binds X.K fd ps ds) (hd : Vals dvs ds) (hx : Passes CX X E)
    (ha : PA X (e :: es) t) (hdb : (x == ("__debug__" : Str)) = false := by decide) (he : starEach (e :: es) X.env = (false, eval e X.env) :: starEach es X.env := by rfl) (hpl : (backTo pos (starEach es X.env)).any (·.1) = false := by rfl) :
    PE X (.Call (.Name x p) (e :: es) [] pos) (tCall sp dvs E t) := by
  intro pins s σ H Q I h
  refine wpAny_Call_Name_kw (ld_glob I hg hm ?_ hdb)
  refine PySem.W.callWith_K (h₀ := X.base) I.ok.mod.kin hk (thn (ha pos pins s σ H _ I h) fun us s1 ⟨vs, H1, I1, r, q⟩ => ⟨I1.kIn, ?_⟩) he hpl
  exact run_fn F hr hb hd hx I1 r q

/-- o.m(e, ..) -/
theorem pe_meth {pl : Sem Bool} (he : PE X o ta) (c : Cls X.K C) (hm : Meth X.K C m f) (F : FnOk X.prog X.w X.K X.mg X.base CX k f fd ps sp) (hr : Room k X.A) (hb : Binds X.K fd ps ds) (hd : Vals dvs ds) (hx : Passes CX X E) (ha : PA X (e :: es) t)
    (hst : starEach (e :: es) X.env = (false, eval e X.env) :: starEach es X.env := by rfl) (hpl : (backTo pos (starEach es X.env)).any (·.1) = false := by rfl)
    (ht : eval (.Call (.Attribute o m apos) (e :: es) [] pos) X.env = (do
      let ov ← eval o X.env
      standAt apos.atName
      let (f, first) ← holding [ov] (getMethod ov m pl)
      callWith pos f first (backTo pos (starEach (e :: es) X.env)) (backToKw pos (keywordEach [] X.env))) := by rfl) :
    PE X (.Call (.Attribute o m apos) (e :: es) [] pos) (tMeth C m sp dvs E ta t) := by
  intro pins s σ H Q I h
  refine PySem.W.methodCall_KW (pl := pl) (thn (he pins s σ H _ I h) fun u s1 ⟨x, H1, I1, rx, a, dx, fs, ex, ea, l, q⟩ => ?_) ht
  subst ex
  obtain rfl : u = Value.ref a := rx
  refine getmeth_ok I1 ea c hm l ?_
  refine PySem.W.callWith_K (first := [.ref a]) (h₀ := X.base) I.ok.mod.kin hm.kp (thn (ha pos pins s1 σ H1 _ I1 q) fun us s2 ⟨vs, H2, I2, r, q2⟩ => ⟨I2.kIn, ?_⟩) hst hpl
  exact run_fn (us := .ref a :: us) (vs := .ref a :: vs) F hr hb hd hx I2 (.cons rfl r) q2

/-- what a class must have to be made -/
structure Mk (K : PySem.W.Frag) (C f : Addr) : Prop where
  makes : PySem.W.makesIn K C = true
  init : PySem.W.findIn K (.ref C) "__init__" = some (some (.ref f))
  fn : PySem.W.isFn K (.ref f) = true
  kp : PySem.W.keepIn K (.ref C) = true

theorem run_make {pins : List (Addr × Obj)} {σ : St} {H : Hp} {s : Shared} {Q : VK} {us : List Value} {vs : List V} (M : Mk X.K C f) (F : FnOk X.prog X.w X.K X.mg X.base CX k f fd ps sp) (hr : Room (k + 1) X.A) (hb : Binds X.K fd ps ds) (hd : Vals dvs ds)
    (hx : Passes CX X E) (I : Inv X pins σ H s) (r : Vals vs us)
    (h : ∀ x dx, H x = none → H dx = none → dx ≠ x → sp (.ref x :: (vs ++ dvs)) (upd (upd H dx (.own x)) x (.ins C dx [])) (fun v H2 => v = .non ∧ Q (.ref x) H2) E) :
    wpAny (model X.prog X.w) X.A (call (.ref C) us) (EP X pins σ Q) X.xe s := by
  have hq := h (s.heap.objs.size + 1) s.heap.objs.size (I.hok.fresh (Nat.le_succ _)) (I.hok.fresh (Nat.le_refl _)) (Nat.ne_of_lt (Nat.lt_succ_self _))
  have I2 := Inv.made (C := C) I
  have r2 : Vals (V.ref (s.heap.objs.size + 1) :: (vs ++ dvs)) (Value.ref (s.heap.objs.size + 1) :: (us ++ ds)) := .cons rfl (r.append hd)
  have hl : (Value.ref (s.heap.objs.size + 1) :: us ++ ds).length = ps.length := by
    have e := r2.length
    rw [F.len _ _ _ _ hq] at e
    exact e.symm
  refine wpAny_call (make_map (f := f) I.kIn M.makes M.init (beq_iff_eq.mp M.fn) (codeAny_mono (F.run _ X.stack _ _ ⟨Value.ref (s.heap.objs.size + 1) :: us, []⟩ (Value.ref (s.heap.objs.size + 1) :: (us ++ ds)) _ _ E (hr.make C us [])
    (I2.env0.make C us []) (hb _ (Value.ref (s.heap.objs.size + 1) :: us) I2.kIn hl) r2 hq) fun r s' hq' => ?_))
  cases r with
  | error e => exact hx pins σ _ _ e s' I2 hq'
  | ok fl =>
    cases fl with
    | ret u =>
      obtain ⟨v, H', I3, rv, ev, q3⟩ := I2.after hq'
      subst ev
      exact ⟨rv, ⟨V.ref (s.heap.objs.size + 1), H', I3, rfl, q3⟩⟩
    | next => exact False.elim hq'
    | brk => exact False.elim hq'
    | cont => exact False.elim hq'
theorem pe_make (M : Mk X.K C f) (F : FnOk X.prog X.w X.K X.mg X.base CX k f fd ps sp) (hr : Room (k + 1) X.A) (hg : Gl X x) (hm : X.mg x = some (.ref C)) (hb : Binds X.K fd ps ds) (hd : Vals dvs ds) (hx : Passes CX X E)
    (ha : PA X (e :: es) t) (hdb : (x == ("__debug__" : Str)) = false := by decide) (he : starEach (e :: es) X.env = (false, eval e X.env) :: starEach es X.env := by rfl) (hpl : (backTo pos (starEach es X.env)).any (·.1) = false := by rfl) :
    PE X (.Call (.Name x p) (e :: es) [] pos) (tMake C sp dvs E t) := by
  intro pins s σ H Q I h
  refine wpAny_Call_Name_kw (ld_glob I hg hm ?_ hdb)
  refine PySem.W.callWith_K (h₀ := X.base) I.ok.mod.kin M.kp (thn (ha pos pins s σ H _ I h) fun us s1 ⟨vs, H1, I1, r, q⟩ => ⟨I1.kIn, ?_⟩) he hpl
  exact run_make M F hr hb hd hx I1 r q
theorem pe_make0 (M : Mk X.K C f) (F : FnOk X.prog X.w X.K X.mg X.base CX k f fd ps sp) (hr : Room (k + 1) X.A) (hg : Gl X x) (hm : X.mg x = some (.ref C)) (hb : Binds X.K fd ps ds) (hd : Vals dvs ds) (hx : Passes CX X E)
    (hdb : (x == ("__debug__" : Str)) = false := by decide) : PE X (.Call (.Name x p) [] [] pos) (tMake C sp dvs E tNil) := by
  intro pins s σ H Q I h
  refine wpAny_Call_Name_kw (ld_glob I hg hm ?_ hdb)
  exact PySem.W.callWith_K0 I.kIn M.kp (run_make (us := []) M F hr hb hd hx I .nil h)
end

/-! ### keywords -/
section
variable {X : Cx} {CX : CXT} {k : Nat} {f C : Addr} {fd : FuncData} {ps ks : List Str} {sp : Sp} {E : XK} {x m : Str} {p pos apos kpos : Pos} {e o : Expr} {es : List Expr} {kws : List Keyword} {te ta : TE} {t tk : TA} {nm : Option Str}

variable {g : List Value → List Value → List Value} {gV : List V → List V → List V}
end

/-! ### a def's body keeps its promise -/
/-- names: the parameters first -/
structure FnScope (N P : List Str) (sc : Scope) : Prop where
  kind : sc.kind = .function
  co : sc.isCoroutine = false
  gen : sc.isGenerator = false
  nd : N.Nodup
  pre : N.take P.length = P
  par : ∀ x ∈ P, sc.names.lookup x = some .local ∨ sc.names.lookup x = some .cell
  nofree : ∀ y ∈ sc.names, y.2 ≠ .free

theorem bindL_out {kindOf : Str → Option NameKind} {x : Str} : ∀ {binds : List (Str × Value)} {m : Str → Option Value}, (∀ v, (x, v) ∉ binds) → bindL kindOf binds m x = m x
  | [], _, _ => rfl
  | (n, v) :: r, m, h => by
    unfold bindL
    rw [bindL_out fun w hw => h w (List.mem_cons_of_mem _ hw)]
    split
    · have : x ≠ n := by rintro rfl; exact h v List.mem_cons_self
      simp [this]
    · rfl
theorem bindC_out {kindOf : Str → Option NameKind} {x : Str} : ∀ {binds : List (Str × Value)} {m : Str → Option Value}, (∀ v, (x, v) ∉ binds) → bindC kindOf binds m x = m x
  | [], _, _ => rfl
  | (n, v) :: r, m, h => by
    unfold bindC
    rw [bindC_out fun w hw => h w (List.mem_cons_of_mem _ hw)]
    split
    · rfl
    · have : x ≠ n := by rintro rfl; exact h v List.mem_cons_self
      simp [this]
theorem bindL_get {kindOf : Str → Option NameKind} {x : Str} {v : Value} : ∀ {P : List Str} {vs : List Value} {i : Nat} {m : Str → Option Value}, P.Nodup → P[i]? = some x → vs[i]? = some v → kindOf x = some .local →
    bindL kindOf (P.zip vs) m x = some v
  | [], _, _, _, _, h, _, _ => by simp at h
  | _ :: _, [], _, _, _, _, h, _ => by simp at h
  | p :: P, w :: vs, 0, m, nd, h1, h2, hk => by
    simp at h1 h2; subst h1; subst h2
    show bindL kindOf ((p, w) :: P.zip vs) m p = _
    unfold bindL
    rw [bindL_out fun v hv => (List.nodup_cons.mp nd).1 (List.of_mem_zip hv).1, if_pos hk]
    simp
  | p :: P, w :: vs, i + 1, m, nd, h1, h2, hk => by
    show bindL kindOf ((p, w) :: P.zip vs) m x = _
    unfold bindL
    exact bindL_get (i := i) (List.nodup_cons.mp nd).2 (by simpa using h1) (by simpa using h2) hk
theorem bindC_get {kindOf : Str → Option NameKind} {x : Str} {v : Value} : ∀ {P : List Str} {vs : List Value} {i : Nat} {m : Str → Option Value}, P.Nodup → P[i]? = some x → vs[i]? = some v → kindOf x ≠ some .local →
    bindC kindOf (P.zip vs) m x = some v
  | [], _, _, _, _, h, _, _ => by simp at h
  | _ :: _, [], _, _, _, _, h, _ => by simp at h
  | p :: P, w :: vs, 0, m, nd, h1, h2, hk => by
    simp at h1 h2; subst h1; subst h2
    show bindC kindOf ((p, w) :: P.zip vs) m p = _
    unfold bindC
    rw [bindC_out fun v hv => (List.nodup_cons.mp nd).1 (List.of_mem_zip hv).1, if_neg hk]
    simp
  | p :: P, w :: vs, i + 1, m, nd, h1, h2, hk => by
    show bindC kindOf ((p, w) :: P.zip vs) m x = _
    unfold bindC
    exact bindC_get (i := i) (List.nodup_cons.mp nd).2 (by simpa using h1) (by simpa using h2) hk

/-- the names' values at the entry -/
def start (N : List Str) (vs : List V) : St := vs.map some ++ List.replicate (N.length - vs.length) none

/-- the context of a def's body, at its entry; an exception leaves the frame, then lies as CX says -/
def cxOf (CX : CXT) (P : Program) (w : World) (K : PySem.W.Frag) (mg : Str → Option Value) (base : Heap) (N : List Str) (qual : Str) (scope : Scope) (f : Addr) (cd : Value) (A : Around) (outer : List Env) (s : Shared) (H : Hp) (E : XK) : Cx where
  prog := P
  w := w
  K := K
  mg := mg
  base := base
  A := A.deeper (envOfC qual scope s.heap.objs.size f cd)
  N := N
  s_0 := s
  H_0 := H
  env := envOfC qual scope s.heap.objs.size f cd
  outer := outer
  stack := envOfC qual scope s.heap.objs.size f cd :: outer
  ex := []
  calm := true
  fn := fun _ => true
  pn := []
  xe := fun e s' => wpAny (model P w) (A.deeper (envOfC qual scope s.heap.objs.size f cd)) (leaving (envOfC qual scope s.heap.objs.size f cd) e) (fun _ s'' => CX outer H s E e s'') (fun e' s'' => CX outer H s E e' s'') s'

theorem cell_has {sc : Scope} {n : Nat} {x : Str} (h : sc.names.lookup x = some .cell) : ∃ c, (cellsFrom n sc.names []).lookup x = some c := by
  have q := PySem.W.cellsFrom_some sc.names n [] (.inl h)
  exact Option.isSome_iff_exists.mp q

theorem inv_start {CX : CXT} {P : Program} {w : World} {K : PySem.W.Frag} {mg : Str → Option Value} {base : Heap} {N ps : List Str} {qual : Str} {scope : Scope} {f : Addr} {cd : Value} {A : Around} {outer : List Env} {s s1 : Shared} {H : Hp} {E : XK} {us : List Value} {vs : List V}
    (S : FnScope N ps scope) (hd : A.handled = none) (e0 : Env0 P w K mg base A outer s H) (hl : vs.length = ps.length) (r : Vals vs us)
    (x : InCallC s s.heap.objs.size (bindL (envOfC qual scope s.heap.objs.size f cd).kindOf (ps.zip us) fun _ => none) (cellsFrom (s.heap.objs.size + 1) scope.names []) (bindC (envOfC qual scope s.heap.objs.size f cd).kindOf (ps.zip us) fun _ => none) s1) :
    Inv (cxOf CX P w K mg base N qual scope f cd A outer s H E) [] (start N vs) H s1 := by
  have hpl : ps.length ≤ N.length := by have := congrArg List.length S.pre; rw [List.length_take] at this; omega
  obtain ⟨h1, tk, rfl, hk⟩ := x.done
  have noA : ∀ b : Addr, b ∉ (cxOf CX P w K mg base N qual scope f cd A outer s H E).ex := fun b z => absurd (show b ∈ ([] : List Addr) from z) (by simp)
  refine ⟨⟨e0.mod, S.kind, rfl, rfl, Nat.le_refl _, fun y z c h1 h2 => ?_, fun y hy => ?_, fun y c _ h => ?_, fun _ => hd, Around.frames_deeper e0.frames, .inr ⟨rfl, rfl⟩, fun b z => absurd z (noA b), e0.bs, e0.bsz, fun b _ _ => noA b, fun b z => absurd z (noA b), e0.funs, e0.frf⟩,
    rfl, e0.bare, Un.kept hk, ⟨_, x.toInCall.ns, fun i y v h1 h2 h3 => ?_⟩, fun y c h => ⟨_, x.cell y c h⟩, e0.hok.fresh (Nat.le_refl _), fun y c h => ?_, fun p hp => absurd (show p ∈ ([] : List (Addr × Obj)) from hp) (by simp), e0.hok.kept hk, ?_⟩
  · exact name_of_addr x.apart (PySem.mem_of_lookup h1) (PySem.mem_of_lookup h2)
  · have hy : scope.names.lookup y = some .cell ∨ scope.names.lookup y = some .free := hy
    rcases hy with hy | hy
    · exact cell_has hy
    · exact absurd rfl (S.nofree _ (PySem.mem_of_lookup hy))
  · exact Nat.le_of_lt (x.above y c (PySem.mem_of_lookup h))
  · have hi : i < vs.length := by
      unfold start at h2
      by_cases hi : i < vs.length
      · exact hi
      · rw [List.getElem?_append_right (by simpa using hi)] at h2
        rw [List.getElem?_replicate] at h2
        split at h2 <;> cases h2
    have ha : vs[i]? = some v := by
      unfold start at h2
      rw [List.getElem?_append_left (by simpa using hi), List.getElem?_map] at h2
      cases e : vs[i]? with
      | none => rw [e] at h2; cases h2
      | some a => rw [e] at h2; cases h2; rfl
    obtain ⟨u, hu, rv⟩ := r.get ha
    have hp : ps[i]? = some y := by
      rw [← S.pre, List.getElem?_take_of_lt (by omega)]; exact h1
    have ndP : ps.Nodup := by rw [← S.pre]; exact S.nd.sublist (List.take_sublist _ _)
    refine ⟨u, rv, ?_⟩
    rcases S.par y (List.mem_of_getElem? hp) with k | k
    · exact .inl ⟨k, bindL_get ndP hp hu k⟩
    · obtain ⟨c, e⟩ := cell_has (n := s.heap.objs.size + 1) k
      refine .inr ⟨.inl k, c, e, ?_⟩
      have q := x.cell y c e
      rw [bindC_get ndP hp hu (by show scope.names.lookup y ≠ _; rw [k]; decide)] at q
      exact q
  · exact e0.hok.fresh (Nat.le_of_lt (x.above y c (PySem.mem_of_lookup h)))
  · unfold start
    show _ = N.length
    rw [List.length_append, List.length_map, List.length_replicate]
    omega

/-- THE RULE: a def (or a method) of the text, by its body. The body's reading t is chosen for each entry; it is run at the parameters' values -/
theorem fn_of {CX : CXT} {P : Program} {w : World} {K : PySem.W.Frag} {mg : Str → Option Value} {base : Heap} {k : Nat} {f : Addr} {name qual : Str} {params : Arguments} {body : List Stmt} {scope : Scope} {dV kV doc pm cdv ct oc : Value} {an od : Option Addr}
    {osl : Array (Option Value)} {N ps : List Str} {sp : Sp} (lk : K.lookup f = some ⟨oc, od, .func (PySem.W.fnOf name qual params body scope dV kV doc pm an cdv ct), osl⟩) (hcd : PySem.W.codeIn K cdv qual = true) (S : FnScope N ps scope)
    (len : ∀ vs H Q E, sp vs H Q E → vs.length = ps.length)
    (hbody : ∀ (A : Around) (outer : List Env) (s : Shared) (H : Hp) (vs : List V) (Q : VK) (E : XK), Room k (A.deeper (envOfC qual scope s.heap.objs.size f cdv)) → sp vs H Q E →
      ∃ t, PSs (cxOf CX P w K mg base N qual scope f cdv A outer s H E) body t ∧ t { nx := fun _ H' => Q .non H', rt := Q } (start N vs) H) :
    FnOk P w K mg base CX (k + 1) f (PySem.W.fnOf name qual params body scope dV kV doc pm an cdv ct) ps sp := by
  refine ⟨len, fun A outer s H args us vs Q E hr e0 hb r hsp => ?_⟩
  have hl := len _ _ _ _ hsp
  have KX : K.In s.heap := e0.mod.kin.keeps fun b o e => (e0.bs b o e).1
  have lim : s.heap.NoLimit := e0.mod.nolimit.keeps fun b o e => (e0.bs b o e).1
  have hkind : ∀ y ∈ ps.zip us, scope.names.lookup y.1 = some .local ∨ (scope.names.lookup y.1 = some .cell ∧ ((cellsFrom (s.heap.objs.size + 1) scope.names []).lookup y.1).isSome = true) := fun ⟨n, v⟩ hy => by
    rcases S.par n (List.of_mem_zip hy).1 with q | q
    · exact .inl q
    · exact .inr ⟨q, PySem.W.cellsFrom_some _ _ _ (.inl q)⟩
  refine codeAny_call_function hr.depth (KX _ _ lk) rfl S.co S.gen rfl (PySem.W.codeRec_of KX hcd) (hb _ _ _ _ ?_)
  refine wpAny_newFunctionEnv_cells S.kind hkind fun env he s1 x => ?_
  subst he
  refine ⟨lim.keeps x.toInCall.keep, codeAny_func ?_⟩
  obtain ⟨t, ht, hq⟩ := hbody A outer s H vs Q E (hr.deeper _) hsp
  have I : Inv (cxOf CX P w K mg base N qual scope f cdv A outer s H E) [] (start N vs) H s1 := inv_start S hr.hd e0 hl r x
  refine wpAny_mono (ht [] s1 (start N vs) H _ I hq) (fun fl s' hs => ?_) fun e s' hs => hs
  have fin : ∀ {σ' : St} {H' : Hp} {v : V} {u : Value}, Inv (cxOf CX P w K mg base N qual scope f cdv A outer s H E) [] σ' H' s' → RelV v u → Q v H' → CE outer P w H s Q u s' :=
    fun {σ' H' v u} J rv q => ⟨v, H', J.os, J.bare, J.base, J.hok, rv, q⟩
  cases fl with
  | ret u =>
    obtain ⟨v, σ', H', J, rv, q⟩ := hs
    exact fin J rv q
  | next =>
    obtain ⟨σ', H', J, q⟩ := hs
    exact fin (v := V.non) (u := Value.none) J rfl q
  | brk =>
    obtain ⟨_, _, _, q⟩ := hs
    exact False.elim q
  | cont =>
    obtain ⟨_, _, _, q⟩ := hs
    exact False.elim q
end L2

namespace L2
open PySem PySem.Spec PyProof.Rows
section
variable {X : Cx} {x : Str} {p pos : Pos} {e : Expr} {es : List Expr} {t : TA} {id T : String} {r : List V → Hp → VK → Prop}

def tCB (r : List V → Hp → VK → Prop) (t : TA) : TE := fun σ H Q => t σ H fun vs H1 => r vs H1 Q
/-- f(e, ..), f a built-in function -/
theorem pe_callB (hc : CallR X (.builtin id) r) (hg : Gl X x) (hm : X.mg x = none) (hv : bootBuiltins x = some (.builtin id)) (ha : PA X (e :: es) t) (hn : x ≠ "__name__" := by decide) (hdb : (x == ("__debug__" : Str)) = false := by decide)
    (he : starEach (e :: es) X.env = (false, eval e X.env) :: starEach es X.env := by rfl) (hpl : (backTo pos (starEach es X.env)).any (·.1) = false := by rfl) : PE X (.Call (.Name x p) (e :: es) [] pos) (tCB r t) := by
  intro pins s σ H Q I h
  refine wpAny_Call_Name_kw (ld_blt I hg hm hv ?_ hn hdb)
  exact PyProof.Rows.callWith_builtin1 (thn (ha pos pins s σ H _ I h) fun us s1 ⟨vs, H1, I1, r1, q1⟩ => hc pins s1 σ H1 vs us Q I1 r1 q1) he hpl
/-- T(e, ..), T a built-in type -/
theorem pe_callTy (hc : CallR X (.type T) r) (hg : Gl X x) (hm : X.mg x = none) (hv : bootBuiltins x = some (.type T)) (ha : PA X (e :: es) t) (hn : x ≠ "__name__" := by decide) (hdb : (x == ("__debug__" : Str)) = false := by decide)
    (he : starEach (e :: es) X.env = (false, eval e X.env) :: starEach es X.env := by rfl) (hpl : (backTo pos (starEach es X.env)).any (·.1) = false := by rfl) : PE X (.Call (.Name x p) (e :: es) [] pos) (tCB r t) := by
  intro pins s σ H Q I h
  refine wpAny_Call_Name_kw (ld_blt I hg hm hv ?_ hn hdb)
  exact PyProof.Rows.callWith_type1 (thn (ha pos pins s σ H _ I h) fun us s1 ⟨vs, H1, I1, r1, q1⟩ => hc pins s1 σ H1 vs us Q I1 r1 q1) he hpl
end
end L2

namespace HT
open PySem PyProof.Rows



section
open PySem.SeqAt
open PySem.AutoSeq1 (wpAny_loadPart')
open PySem.MeetsSeq PySem.MeetsSeq2 PySem.MeetsSeq3

end

section
variable {prog : Program} {w : World} {A : Around} {E : Value → Shared → Prop} {s : Shared}



/-! ### t[a:b], not the whole -/
/-- a slice's bound as a place among n (d where it is left out) -/
def sIx (n d : Nat) : Option Int → Nat
  | none => d
  | some v => if v < 0 then (v + (n : Int)).toNat else min v.toNat n
theorem sIx_nat (n d k : Nat) : sIx n d (some (k : Int)) = min k n := by
  show (if (k : Int) < 0 then ((k : Int) + (n : Int)).toNat else min (k : Int).toNat n) = min k n
  rw [if_neg (by omega), Int.toNat_natCast]

end
end HT

namespace L2
open PySem PySem.Spec PyProof.Rows

/-! ### the parts of a slice -/
abbrev TO := St → Hp → (Option Int → Hp → Prop) → Prop
/-- a slice's part (left out, or an int) -/
def PO (X : Cx) (e : Option Expr) (t : TO) : Prop :=
  ∀ (pins : List (Addr × Obj)) (s : Shared) (σ : St) (H : Hp) (Q : Option Int → Hp → Prop), Inv X pins σ H s → t σ H Q →
    wpAny (model X.prog X.w) X.A (evalPart e X.env) (fun u s' => ∃ o H', Inv X pins σ H' s' ∧ IsPart u o ∧ Q o H') X.xe s
def tPart (t : TE) : TO := fun σ H Q => t σ H fun x H1 => ∃ i, x = .int i ∧ Q (some i) H1


section
variable {X : Cx} {e : Expr} {te : TE} {lo hi : Option Expr} {tl th : TO} {pos p2 : Pos}

theorem po_some (h : PE X e te) : PO X (some e) (tPart te) := by
  intro pins s σ H Q I hw
  rw [evalPart_some]
  refine thn (h pins s σ H _ I hw) fun u s1 ⟨x, H1, I1, r1, q1⟩ => ?_
  obtain ⟨i, rfl, q⟩ := q1
  obtain ⟨t, rfl⟩ := r1
  exact ⟨some i, H1, I1, .int i t, q⟩

/-- what a slice of a value is, by values: the slice object stands at sl -/
def SlR (X : Cx) (r : V → Option Int → Option Int → Hp → VK → Prop) : Prop :=
  ∀ (pins : List (Addr × Obj)) (s : Shared) (σ : St) (H : Hp) (x : V) (v vl vu : Value) (lo hi : Option Int) (sl : Addr) (Q : VK), Inv X pins σ H s → RelV x v → s.heap.IsSliceOf sl vl vu .none → IsPart vl lo → IsPart vu hi → r x lo hi H Q →
    ∃ T id, typeLookup (.type T) "__getitem__" = pure (some (.builtin id)) ∧ s.TypeIs v T ∧ wpAny (model X.prog X.w) X.A (getItem v (.ref sl)) (EP X pins σ Q) X.xe s
def tSl (r : V → Option Int → Option Int → Hp → VK → Prop) (te : TE) (tl th : TO) : TE := fun σ H Q => te σ H fun x H1 => tl σ H1 fun l H2 => th σ H2 fun u H3 => r x l u H3 Q
/-- a[lo:hi], any a -/
theorem pe_slice {r : V → Option Int → Option Int → Hp → VK → Prop} (hr : SlR X r) (he : PE X e te) (hl : PO X lo tl) (hu : PO X hi th) : PE X (.Subscript e (.Slice lo hi none p2) pos) (tSl r te tl th) := by
  intro pins s σ H Q I h
  refine Subscript_ (thn (he pins s σ H _ I h) fun v s1 ⟨x, H1, I1, r1, q1⟩ => ?_)
  refine wpAny_Slice (thn (hl pins s1 σ H1 _ I1 q1) fun vl s2 ⟨l, H2, I2, pl, q2⟩ => thn (hu pins s2 σ H2 _ I2 q2) fun vu s3 ⟨u, H3, I3, pu, q3⟩ => ?_)
  rw [evalPart_none]
  refine wpAny_pure ?_
  have I4 : Inv X pins σ H3 { s3 with heap := s3.heap.push { cls := .type "slice", data := .fields #[vl, vu, .none] } } := I3.kept (t' := s3.toks) fun b ob q => Heap.get?_push_of_some _ q
  obtain ⟨T, id, hT, ht, hg⟩ := hr pins { s3 with heap := s3.heap.push { cls := .type "slice", data := .fields #[vl, vu, .none] } } σ H3 x v vl vu l u s3.heap.objs.size Q I4 r1 (Heap.IsSliceOf.new ..) pl pu q3
  show wpAny (model X.prog X.w) X.A (subscriptTail e (.Slice lo hi none p2) v (.ref s3.heap.objs.size)) (EP X pins σ Q) X.xe { s3 with heap := s3.heap.push { cls := .type "slice", data := .fields #[vl, vu, .none] } }
  exact tail_any (ops := [.ref s3.heap.objs.size, v]) ht hT hg (by with_unfolding_all rfl)

/-- the items of xs[lo:hi] -/
def cutV (xs : List V) (lo hi : Option Int) : List V := (xs.drop (HT.sIx xs.length 0 lo)).take (HT.sIx xs.length xs.length hi - HT.sIx xs.length 0 lo)
theorem cutV_length (xs : List V) (lo hi : Option Int) : (cutV xs lo hi).length ≤ xs.length := by
  unfold cutV
  rw [List.length_take, List.length_drop]
  omega

/-! ### t < u, t + u -/
end
end L2

namespace L2
open PySem PySem.Spec PyProof.Rows

/-! ### places -/
/-- the place that an index of any sign means -/
def ixN (n : Nat) (i : Int) : Option Nat := if 0 ≤ i then (if i < n then some i.toNat else none) else if -(n : Int) ≤ i then some (i + n).toNat else none
def atI {α : Type} (xs : List α) (i : Int) : Option α := (ixN xs.length i).bind fun j => xs[j]?
theorem ixN_seq {n : Nat} {i : Int} {j : Nat} (h : ixN n i = some j) : seqIndex? i n = some j ∧ j < n ∧ -(n : Int) ≤ i ∧ i < n := by
  unfold ixN at h
  by_cases h0 : 0 ≤ i
  · rw [if_pos h0] at h
    by_cases h1 : i < n
    · rw [if_pos h1] at h
      have e : i.toNat = j := Option.some.inj h
      exact ⟨by rw [seqIndex_of h0 h1, e], by omega, by omega, h1⟩
    · rw [if_neg h1] at h; cases h
  · rw [if_neg h0] at h
    by_cases h1 : -(n : Int) ≤ i
    · rw [if_pos h1] at h
      have e : (i + n).toNat = j := Option.some.inj h
      exact ⟨by rw [seqIndex_neg (by omega) h1, e], by omega, h1, by omega⟩
    · rw [if_neg h1] at h; cases h
theorem atI_get {α : Type} {xs : List α} {i : Int} {v : α} (h : atI xs i = some v) : ∃ j, seqIndex? i xs.length = some j ∧ xs[j]? = some v ∧ j < xs.length ∧ -(xs.length : Int) ≤ i ∧ i < xs.length := by
  unfold atI at h
  cases e : ixN xs.length i with
  | none => rw [e] at h; cases h
  | some j =>
    rw [e] at h
    obtain ⟨h1, h2, h3, h4⟩ := ixN_seq e
    exact ⟨j, h1, h, h2, h3, h4⟩
theorem atI_nat {α : Type} {xs : List α} {j : Nat} {v : α} (h : xs[j]? = some v) : atI xs (j : Int) = some v := by
  have hj : j < xs.length := (List.getElem?_eq_some_iff.mp h).1
  have e : ixN xs.length (j : Int) = some j := by
    unfold ixN
    rw [if_pos (by omega), if_pos (by omega)]; simp
  unfold atI; rw [e]; exact h

/-! ### what may be subscripted -/
/-- what stands as an index of a plain subscript -/
def PlainIx (b : Expr) : Prop := ∀ o i, subscripted b false o i = operate [o, i] (getItem o i)
/-- a subscript by values -/
def IxR (X : Cx) (r : R2) : Prop :=
  ∀ (value slice : Expr) (pins : List (Addr × Obj)) (s : Shared) (σ : St) (H : Hp) (x y : V) (v u : Value) (Q : VK), Inv X pins σ H s → RelV x v → RelV y u → r x y H Q →
    subscripted slice false v u = operate [v, u] (getItem v u) → wpAny (model X.prog X.w) X.A (subscriptTail value slice v u) (EP X pins σ Q) X.xe s
/-- a call of a builtin's method by values: the receiver, the arguments -/
def MtR (X : Cx) (id : String) (r : V → List V → Hp → VK → Prop) : Prop :=
  ∀ (pins : List (Addr × Obj)) (s : Shared) (σ : St) (H : Hp) (x : V) (xs : List V) (v : Value) (us : List Value) (Q : VK), Inv X pins σ H s → RelV x v → Vals xs us → r x xs H Q →
    wpAny (model X.prog X.w) X.A (call (.builtin id) (v :: us)) (EP X pins σ Q) X.xe s
section
variable {X : Cx} {a b : Expr} {ta tb : TE} {pos : Pos}
/-- a[b] -/
theorem pe_ix {r : R2} (hr : IxR X r) (ha : PE X a ta) (hb : PE X b tb) (hs : PlainIx b) : PE X (.Subscript a b pos) (tOp r ta tb) := by
  intro pins s σ H Q I h
  exact Subscript_ (binT ha hb I h fun v u s2 x y H2 I2 rx ry q => hr a b pins s2 σ H2 x y v u Q I2 rx ry q (hs _ _))

def rIxL (K : PySem.W.Frag) : R2 := fun x y H Q => ∃ p xs i v, x = .ref p ∧ y = .int i ∧ SqL K H p xs ∧ atI xs i = some v ∧ Q v H
def rIxT (K : PySem.W.Frag) : R2 := fun x y H Q => ∃ p xs i v, x = .ref p ∧ y = .int i ∧ SqT K H p xs ∧ atI xs i = some v ∧ Q v H
theorem ix_list : IxR X (rIxL X.K) := by
  intro value slice pins s σ H x y v u Q I rx ry h hs
  obtain ⟨p, xs, i, z, rfl, rfl, hq, he, q⟩ := h
  cases rx
  obtain ⟨t, rfl⟩ := ry
  obtain ⟨its, r, pl, hz⟩ := I.list hq
  obtain ⟨j, h1, h2, h3, h4, h5⟩ := atI_get he
  obtain ⟨w, ew, rw'⟩ := r.get h2
  have hl := r.length
  have hn := line63
  have fin : EP X pins σ Q w s := ⟨z, H, I, rw', q⟩
  by_cases h0 : 0 ≤ i
  · have hj : i.toNat = j := by
      rw [seqIndex_of h0 h5] at h1
      exact Option.some.inj h1
    exact item_listR pl.isList h0 (by omega) (by rw [hj]; simpa using ew) fin hs
  · have hj : (i + (its.toArray.size : Int)).toNat = j := by
      rw [seqIndex_neg (by omega) h4] at h1
      rw [List.size_toArray, ← hl]
      exact Option.some.inj h1
    exact subscriptTail_builtinR (x := w) pl.isList.typeIs slot_list_getitem.lookup
      (wpAny_getItem_list_neg (Q := fun r s' => r = w ∧ EP X pins σ Q r s') pl.isList (by omega) (by rw [List.size_toArray] <;> omega) (by omega) (by rw [hj]; simpa using ew) ⟨rfl, fin⟩) hs
theorem ix_tup : IxR X (rIxT X.K) := by
  intro value slice pins s σ H x y v u Q I rx ry h hs
  obtain ⟨p, xs, i, z, rfl, rfl, hq, he, q⟩ := h
  cases rx
  obtain ⟨t, rfl⟩ := ry
  obtain ⟨its, r, pl, hz⟩ := I.tuple hq
  obtain ⟨j, h1, h2, h3, h4, h5⟩ := atI_get he
  obtain ⟨w, ew, rw'⟩ := r.get h2
  have hl := r.length
  have hn := line63
  have fin : EP X pins σ Q w s := ⟨z, H, I, rw', q⟩
  exact subscriptTail_builtinR (x := w) pl.typeIs slot_tuple_getitem.lookup
    (getItem_tuple (j := j) (Q := fun r s' => r = w ∧ EP X pins σ Q r s') pl (by omega) (by omega) (by rw [List.size_toArray, ← hl]; exact h1) (by simpa using ew) ⟨rfl, fin⟩) hs

/-! ### xs[i] = v, any sign -/
/-- the list's object behind a store -/
theorem mapSeq_set (its : List Value) (n j : Nat) (u : Value) : Obj.mapSeq (·.setIfInBounds j u) { cls := .type "list", data := .seq its.toArray n } = { cls := .type "list", data := .seq (its.set j u).toArray n } := by
  simp [Obj.mapSeq]
theorem Inv.lst {pins : List (Addr × Obj)} {σ : St} {H : Hp} {s : Shared} {p : Addr} {xs : List V} (I : Inv X pins σ H s) (h : H p = some (.lst xs)) :
    ∃ (its : List Value) (n : Nat), Vals xs its ∧ s.heap.get? p = some { cls := .type "list", data := .seq its.toArray n } ∧ xs.length ≤ sizeLine := by
  obtain ⟨z, its, n, r, e⟩ := I.hok p _ h
  exact ⟨its, n, r, e, z⟩
/-- the list at p is written by an update of its object -/
theorem Inv.lstUpd {pins : List (Addr × Obj)} {σ : St} {H : Hp} {s : Shared} {p : Addr} {xs ys : List V} {its its' : List Value} {n n' : Nat} {f : Obj → Obj} (I : Inv X pins σ H s) (h : H p = some (.lst xs))
    (ho : s.heap.get? p = some { cls := .type "list", data := .seq its.toArray n }) (hf : f { cls := .type "list", data := .seq its.toArray n } = { cls := .type "list", data := .seq its'.toArray n' }) (r : Vals ys its') (hz : ys.length ≤ sizeLine) (t : Nat) :
    Inv X pins σ (upd H p (.lst ys)) { s with heap := s.heap.update p f, toks := t } := by
  have e : (s.heap.update p f).get? p = some { cls := .type "list", data := .seq its'.toArray n' } := by
    rw [Heap.get?_update_self f ho (by rw [hf] <;> rfl), hf]
  refine I.write (x := p) (e := p) (by rw [h]; trivial) (.inl rfl) (fun b u hb q => (Heap.get?_update_other _ _ (Ne.symm hb)).trans q) ⟨_, e⟩ ?_
  exact ⟨hz, its', n', r, e⟩
def rSetL : V → V → V → Hp → (Hp → Prop) → Prop := fun o i v H Q => ∃ p xs k j, o = .ref p ∧ i = .int k ∧ H p = some (.lst xs) ∧ ixN xs.length k = some j ∧ Q (upd H p (.lst (xs.set j v)))
theorem set_list : PSet X rSetL := by
  intro pins s σ H o i v ov iv u Q I ro ri rv h
  obtain ⟨p, xs, k, j, rfl, rfl, hp, hj, q⟩ := h
  cases ro
  obtain ⟨t, rfl⟩ := ri
  obtain ⟨its, n, r, ho, hz⟩ := I.lst hp
  obtain ⟨h1, h2, h3, h4⟩ := ixN_seq hj
  have hl := r.length
  have hn := line63
  have I' : Inv X pins σ (upd H p (.lst (xs.set j v))) { s with heap := s.heap.update p (Obj.mapSeq (·.setIfInBounds j u)) } :=
    I.lstUpd hp ho (mapSeq_set its n j u) (r.set rv j) (by rw [List.length_set]; exact hz) s.toks
  by_cases h0 : 0 ≤ k
  · have hk : k.toNat = j := by
      rw [seqIndex_of h0 h4] at h1
      exact Option.some.inj h1
    exact PySem.W.ki_setAt ho h0 (by omega) (by rw [List.size_toArray, ← hl]; exact h4) (by rw [hk]; exact ⟨_, I', q⟩)
  · have hk : (k + (its.toArray.size : Int)).toNat = j := by
      rw [seqIndex_neg (by omega) h3] at h1
      rw [List.size_toArray, ← hl]
      exact Option.some.inj h1
    exact PySem.W.ki_setBack ho (by omega) (by rw [List.size_toArray, ← hl]; exact h3) (by omega) (by rw [hk]; exact ⟨_, I', q⟩)

/-! ### slices -/
theorem slice_bounds (lo hi : Option Int) (n : Nat) : (sliceBounds lo hi none n).1 = ((HT.sIx n 0 lo : Nat) : Int) ∧ (sliceBounds lo hi none n).2.1 = ((HT.sIx n n hi : Nat) : Int) ∧ (sliceBounds lo hi none n).2.2 = 1 := by
  refine ⟨?_, ?_, rfl⟩
  · cases lo with
    | none => simp [sliceBounds, HT.sIx]
    | some i =>
      simp only [sliceBounds, HT.sIx, Option.getD_none, show (1 : Int) > 0 by decide, if_true]
      by_cases h : i < 0
      · simp only [h, if_true] <;> omega
      · simp only [h, if_false] <;> omega
  · cases hi with
    | none => simp [sliceBounds, HT.sIx]
    | some i =>
      simp only [sliceBounds, HT.sIx, Option.getD_none, show (1 : Int) > 0 by decide, if_true]
      by_cases h : i < 0
      · simp only [h, if_true] <;> omega
      · simp only [h, if_false] <;> omega
theorem slicePick_cut (its : List Value) (lo hi : Option Int) : slicePick its.toArray lo hi none = ((its.drop (HT.sIx its.length 0 lo)).take (HT.sIx its.length its.length hi - HT.sIx its.length 0 lo)).toArray := by
  obtain ⟨h1, h2, h3⟩ := slice_bounds lo hi its.toArray.size
  unfold slicePick
  rw [h1, h2, h3]
  simp only [sliceRange_one, pick_run, List.size_toArray] <;> rfl
/-- xs[lo:hi] of a list: a new list -/
def rSlL (K : PySem.W.Frag) : V → Option Int → Option Int → Hp → VK → Prop := fun x lo hi H Q => ∃ a xs, x = .ref a ∧ SqL K H a xs ∧ ∀ p, H p = none → Q (.ref p) (upd H p (.lst (cutV xs lo hi)))
theorem sl_list : SlR X (rSlL X.K) := by
  intro pins s σ H x v vl vu lo hi sl Q I rx hs pl pu h
  obtain ⟨a, xs, rfl, hx, q⟩ := h
  cases rx
  obtain ⟨its, r, ht, hz⟩ := I.list hx
  have hlen := r.length
  refine ⟨"list", _, slot_list_getitem.lookup, ht.isList.typeIs, ?_⟩
  refine wpAny_getItem_list_slice ht.isList hs pl pu .none (by simp) ?_ (by rw [List.size_toArray] <;> omega)
  rw [slicePick_cut, ← hlen]
  refine ⟨.ref s.heap.objs.size, _, I.laid (t' := s.toks) (o := .lst (cutV xs lo hi)) (fun b ob q => Heap.get?_push_of_some _ q) (Nat.le_refl _) ?_, rfl, q _ (I.hok.fresh (Nat.le_refl _))⟩
  exact ⟨Nat.le_trans (cutV_length xs lo hi) hz, _, 0, (r.drop (HT.sIx xs.length 0 lo)).take (HT.sIx xs.length xs.length hi - HT.sIx xs.length 0 lo), Heap.get?_push_size _ rfl⟩

/-! ### in, not in: flat items -/

/-! ### len, list(x), tuple(x) of any list or tuple that is read -/
theorem call_len_seq : CallR X (.builtin "len") (fun xs H Q => ∃ p ys, xs = [.ref p] ∧ (SqL X.K H p ys ∨ SqT X.K H p ys) ∧ Q (.int ys.length) H) := by
  intro pins s σ H xs us Q I r h
  obtain ⟨p, ys, rfl, hq, q⟩ := h
  obtain ⟨u, rfl, rx⟩ := vals1 r
  cases rx
  have hn := line63
  rcases hq with hq | hq
  · obtain ⟨its, r', pl, hz⟩ := I.list hq
    have hlen := r'.length
    exact Calls.call_len_list pl.isList (by simp only [List.size_toArray] <;> omega) ⟨.int ys.length, H, I.tok _, ⟨s.toks + 1, by rw [List.size_toArray, hlen]⟩, q⟩
  · obtain ⟨its, r', pl, hz⟩ := I.tuple hq
    have hlen := r'.length
    exact len_tuple pl (by simp only [List.size_toArray] <;> omega) ⟨.int ys.length, H, I.tok _, ⟨s.toks + 1, by rw [List.size_toArray, hlen]⟩, q⟩

/-! ### the call of a builtin's method: o.m(..) -/
/-- the value is of that builtin type -/
def tyV (K : PySem.W.Frag) (T : String) (x : V) (H : Hp) : Prop := match x with
  | .str _ => T = "str"
  | .int _ => T = "int"
  | .ref p => (T = "list" ∧ ∃ xs, SqL K H p xs) ∨ (T = "tuple" ∧ ∃ o, K.lookup p = some o ∧ o.cls = .type "tuple" ∧ o.dict = none) ∨
      (T = "dict" ∧ ((∃ kvs, H p = some (.dK kvs)) ∨ ∃ kvs, H p = some (.dT kvs))) ∨ (T = "set" ∧ ∃ S n, H p = some (.set S n))
  | _ => False
theorem tyV_is {pins : List (Addr × Obj)} {σ : St} {H : Hp} {s : Shared} {T : String} {x : V} {v : Value} (I : Inv X pins σ H s) (r : RelV x v) (ty : tyV X.K T x H) :
    s.TypeIs v T ∧ ∀ a, v = .ref a → ∃ ob, s.heap.get? a = some ob ∧ ob.dict = none := by
  cases x with
  | str z =>
    obtain ⟨t, rfl⟩ := r
    cases (show T = "str" from ty)
    exact ⟨typeIs_str s z t, fun _ e => nomatch e⟩
  | int i =>
    obtain ⟨t, rfl⟩ := r
    cases (show T = "int" from ty)
    exact ⟨typeIs_int s i t, fun _ e => nomatch e⟩
  | ref p =>
    cases r
    rcases ty with ⟨rfl, xs, hq⟩ | ⟨rfl, o, hk, hc, hd⟩ | ⟨rfl, hk⟩ | ⟨rfl, S, n, hk⟩
    · obtain ⟨its, _, pl, _⟩ := I.list hq
      refine ⟨pl.isList.typeIs, fun a e => ?_⟩
      cases e
      obtain ⟨o, n, e, c, hd, _⟩ := pl
      exact ⟨o, e, hd⟩
    · refine ⟨⟨o, I.kIn p o hk, hc⟩, fun a e => ?_⟩
      cases e
      exact ⟨o, I.kIn _ o hk, hd⟩
    · have z : ∃ o, s.heap.get? p = some o ∧ o.ExactDict := by
        rcases hk with ⟨kvs, hk⟩ | ⟨kvs, hk⟩
        · obtain ⟨_, _, _, _, o, _, _, e, ex, _⟩ := I.hok p _ hk
          exact ⟨o, e, ex⟩
        · obtain ⟨_, _, _, _, o, _, _, e, ex, _⟩ := I.hok p _ hk
          exact ⟨o, e, ex⟩
      obtain ⟨o, e, ex⟩ := z
      refine ⟨⟨o, e, ex.1⟩, fun a e2 => ?_⟩
      cases e2
      exact ⟨o, e, ex.2.1⟩
    · obtain ⟨o, _, _, _, e, ex, _⟩ := I.hok p _ hk
      refine ⟨⟨o, e, ex.1⟩, fun a e2 => ?_⟩
      cases e2
      exact ⟨o, e, ex.2.1⟩
  | _ => exact False.elim ty
def tBM (K : PySem.W.Frag) (T : String) (r : V → List V → Hp → VK → Prop) (to : TE) (t : TA) : TE := fun σ H Q => to σ H fun x H1 => tyV K T x H1 ∧ t σ H1 fun xs H2 => r x xs H2 Q
variable {o e : Expr} {es : List Expr} {to : TE} {t : TA} {name : Str} {apos cpos : Pos} {T id : String} {r : V → List V → Hp → VK → Prop}
theorem pe_bm (pa : PlainAttrs T) (slot : Slot T name id) (hty : typeOf (.builtin id) = pure (.type "method_descriptor")) (hm : MtR X id r) (ho : PE X o to) (ha : PA X (e :: es) t)
    (hbase : attributeBase o name X.env (eval o X.env) = eval o X.env := by rfl)
    (hfew : ((backTo cpos (starEach (e :: es) X.env)).all (fun x => !x.1) && (backToKw cpos (keywordEach [] X.env)).all (fun x => x.1.isSome)
      && decide ((e :: es).length + ([] : List Keyword).length + (if ([] : List Keyword).isEmpty then 0 else 1) < 30)) = true := by rfl)
    (hline : (apos.endLine == cpos.line) = true := by rfl) (hs : starEach (e :: es) X.env = (false, eval e X.env) :: starEach es X.env := by rfl) (hplain : (backTo cpos (starEach es X.env)).any (·.1) = false := by rfl) :
    PE X (.Call (.Attribute o name apos) (e :: es) [] cpos) (tBM X.K T r to t) := by
  intro pins s σ H Q I h
  refine wpAny_Call_method_late hbase hfew hline rfl (thn (ho pins s σ H _ I h) fun v s1 ⟨x, H1, I1, r1, ty, q1⟩ => ?_)
  obtain ⟨h1, h2⟩ := tyV_is I1 r1 ty
  refine ⟨T, id, pa, slot, hty, h1, h2, ?_⟩
  have hA := ha cpos pins s1 σ H1 _ I1 q1
  rw [hs] at hA ⊢
  refine Calls.callWith_builtin (by show (false || (backTo cpos (starEach es X.env)).any (·.1)) = false; rw [hplain] <;> rfl) (Calls.evalArgs_plain ?_)
  exact thn hA fun us s2 ⟨vs, H2, I2, r2, q2⟩ => hm pins s2 σ H2 x vs v us Q I2 r1 r2 q2
/- xs.append(e), list.index on a module's tuple .. are MtR facts of 06m -/
end
end L2

namespace L2
open PySem PySem.Spec PyProof.Rows

def MtM (X : Cx) (id : String) (r : V → List V → Hp → VK → Prop) : Prop :=
  ∀ (pins : List (Addr × Obj)) (s : Shared) (σ : St) (H : Hp) (x : V) (xs : List V) (v : Value) (us : List Value) (Q : VK), Inv X pins σ H s → RelV x v → Vals xs us → r x xs H Q →
    wpAny (model X.prog X.w) X.A (call (.builtin id) (v :: us)) (EP X pins σ Q) X.xe s

/-! ### lists of values -/
theorem Vals.one : ∀ {x : V} {us : List Value}, Vals [x] us → ∃ u, us = [u] ∧ RelV x u
  | _, _, .cons r .nil => ⟨_, rfl, r⟩
theorem Vals.rep {xs : List V} {us : List Value} (h : Vals xs us) : ∀ k : Nat, Vals (List.replicate k xs).flatten (List.replicate k us).flatten
  | 0 => .nil
  | k + 1 => by
    rw [List.replicate_succ, List.replicate_succ, List.flatten_cons, List.flatten_cons]
    exact Vals.append h (Vals.rep h k)
theorem foldl_rep (its : List Value) : ∀ (k : Nat) (acc : List Value),
    List.foldl (fun x1 x2 => x1 ++ x2) acc.toArray (List.replicate k its.toArray) = (acc ++ (List.replicate k its).flatten).toArray
  | 0, acc => by simp
  | k + 1, acc => by
    have e : acc.toArray ++ its.toArray = (acc ++ its).toArray := by simp
    have e2 : (acc ++ its) ++ (List.replicate k its).flatten = acc ++ (List.replicate (k + 1) its).flatten := by
      rw [List.replicate_succ, List.flatten_cons, List.append_assoc]
    rw [← e2, ← foldl_rep its k (acc ++ its), ← e, List.replicate_succ, List.foldl_cons]

section
variable {X : Cx} {pins : List (Addr × Obj)} {σ : St} {H : Hp} {s : Shared} {l b : Addr} {xs ys zs : List V}

/-! ### the two steps: a tracked list is rewritten, a new list is laid -/
theorem Inv.lset {its its' : List Value} {n : Nat} {f : Array Value → Array Value} {t' : Nat} (I : Inv X pins σ H s) (hH : H l = some (.lst xs))
    (e : s.heap.get? l = some { cls := .type "list", data := .seq its.toArray n }) (hf : f its.toArray = its'.toArray) (hv : Vals ys its') (hz : ys.length ≤ sizeLine) :
    Inv X pins σ (upd H l (.lst ys)) { s with heap := s.heap.update l (Obj.mapSeq f), toks := t' } := by
  have q := PySem.IsL.update e f
  rw [hf] at q
  refine I.write (x := l) (e := l) (by rw [hH]; exact trivial) (.inl rfl) (fun b' u hb hu => (Heap.get?_update_other s.heap (Obj.mapSeq f) (Ne.symm hb)).trans hu) ⟨_, q⟩ ?_
  exact ⟨hz, its', _, hv, q⟩
theorem Inv.lnew {its : List Value} {t' : Nat} (I : Inv X pins σ H s) (hv : Vals ys its) (hz : ys.length ≤ sizeLine) :
    Inv X pins σ (upd H s.heap.objs.size (.lst ys)) { s with heap := s.heap.push { cls := .type "list", data := .seq its.toArray }, toks := t' } :=
  I.laid (fun _ _ q => Heap.get?_push_of_some _ q) (Nat.le_refl _) ⟨hz, its, 0, hv, Heap.get?_push_size _ rfl⟩
theorem Inv.fresh (I : Inv X pins σ H s) : H s.heap.objs.size = none := I.hok.fresh (Nat.le_refl _)
theorem Inv.lstM (I : Inv X pins σ H s) (hH : H l = some (.lst xs)) : xs.length ≤ sizeLine ∧ ∃ (its : List Value) (n : Nat), Vals xs its ∧ xs.length = its.length ∧ s.heap.get? l = some { cls := .type "list", data := .seq its.toArray n } := by
  obtain ⟨z, its, n, r, e⟩ := I.hok l _ hH
  exact ⟨z, its, n, r, r.length, e⟩

theorem notLongL {n : Nat} (h : n ≤ sizeLine) : Builtin.List.listTooLong n = false := by
  unfold Builtin.List.listTooLong
  exact decide_eq_false (by omega)
end

section
variable {X : Cx}

/-! ### methods -/
def rAppend : V → List V → Hp → VK → Prop := fun x vs H Q => ∃ l xs y, x = .ref l ∧ vs = [y] ∧ H l = some (.lst xs) ∧ xs.length < sizeLine ∧ Q .non (upd H l (.lst (xs ++ [y])))
theorem mt_append : MtM X "list.append" rAppend := by
  intro pins s σ H x vs v us Q I rx rv h
  obtain ⟨l, xs, y, rfl, rfl, hH, hz, q⟩ := h
  cases rx
  obtain ⟨u, rfl, ru⟩ := rv.one
  obtain ⟨z, its, n, r, hl, e⟩ := I.lstM hH
  refine call_meets F.slot_list_append ⟨_, e, rfl⟩ F.entry_list_append (F.args_list_append_2 _ _) (PySem.list_append l its.toArray n u (by rw [List.size_toArray]; omega)) ⟨e, ?_⟩
  refine ⟨.non, _, I.lset (its' := its ++ [u]) hH e (by simp) (r.append (.cons ru .nil)) ?_, rfl, q⟩
  rw [List.length_append, List.length_singleton]
  omega

def rExtend : V → List V → Hp → VK → Prop := fun x vs H Q => ∃ l b xs zs, x = .ref l ∧ vs = [.ref b] ∧ H l = some (.lst xs) ∧ H b = some (.lst zs) ∧ xs.length + zs.length ≤ sizeLine ∧ Q .non (upd H l (.lst (xs ++ zs)))
theorem mt_extend : MtM X "list.extend" rExtend := by
  intro pins s σ H x vs v us Q I rx rv h
  obtain ⟨l, b, xs, zs, rfl, rfl, hH, hB, hz, q⟩ := h
  cases rx
  obtain ⟨u, rfl, ru⟩ := rv.one
  cases ru
  obtain ⟨z, its, n, r, hl, e⟩ := I.lstM hH
  obtain ⟨z2, its2, n2, r2, hl2, e2⟩ := I.lstM hB
  have hsz : its.toArray.size + its2.toArray.size ≤ sizeLine := by rw [List.size_toArray, List.size_toArray]; omega
  have hlong : ¬ (!its.toArray.isEmpty && Builtin.List.listTooLong (its.toArray.size + its2.toArray.size)) = true := by
    rw [notLongL hsz, Bool.and_false]
    exact Bool.false_ne_true
  refine call_meets F.slot_list_extend ⟨_, e, rfl⟩ F.entry_list_extend (F.args_list_extend_2 _ _)
    (AutoSeq1.list_extend_list_list_0 l its.toArray n b its2.toArray n2 hlong (by rw [List.size_toArray]; omega) (by omega)) ⟨e, e2, ?_⟩
  refine ⟨.non, _, I.lset (its' := its ++ its2) hH e (by simp) (r.append r2) ?_, rfl, q⟩
  rw [List.length_append]
  omega





/-! ### list + list, list += list, list * int -/
def rCat : R2 := fun x y H Q => ∃ l b xs zs, x = .ref l ∧ y = .ref b ∧ H l = some (.lst xs) ∧ H b = some (.lst zs) ∧ xs.length + zs.length ≤ sizeLine ∧ ∀ p, H p = none → Q (.ref p) (upd H p (.lst (xs ++ zs)))
theorem op_cat : OpR X (binaryOp .Add) rCat := by
  intro pins s σ H x y v u Q I rx ry h
  obtain ⟨l, b, xs, zs, rfl, rfl, hH, hB, hz, q⟩ := h
  cases rx
  cases ry
  obtain ⟨z, its, n, r, hl, e⟩ := I.lstM hH
  obtain ⟨z2, its2, n2, r2, hl2, e2⟩ := I.lstM hB
  refine PySem.P.add_list e e2 ?_ (by rw [List.size_toArray, List.size_toArray]; omega)
  have ea : its.toArray ++ its2.toArray = (its ++ its2).toArray := by simp
  rw [ea]
  exact ⟨.ref _, _, I.lnew (t' := s.toks) (r.append r2) (by rw [List.length_append]; omega), rfl, q _ I.fresh⟩
/-- a list times an int (a negative one is nothing) -/
def rRep : R2 := fun x y H Q => ∃ l k xs, x = .ref l ∧ y = .int k ∧ H l = some (.lst xs) ∧ -(2 ^ 63) ≤ k ∧ k < 2 ^ 63 ∧ xs.length * k.toNat ≤ sizeLine ∧
  ∀ p, H p = none → Q (.ref p) (upd H p (.lst (List.replicate k.toNat xs).flatten))
theorem len_rep {α : Type} (xs : List α) (k : Nat) : (List.replicate k xs).flatten.length = k * xs.length := by
  induction k with
  | zero => simp
  | succ k ih => rw [List.replicate_succ, List.flatten_cons, List.length_append, ih, Nat.succ_mul, Nat.add_comm]
theorem op_rep : OpR X (binaryOp .Mult) rRep := by
  intro pins s σ H x y v u Q I rx ry h
  obtain ⟨l, k, xs, rfl, rfl, hH, h1, h2, hz, q⟩ := h
  cases rx
  obtain ⟨t, rfl⟩ := ry
  obtain ⟨z, its, n, r, hl, e⟩ := I.lstM hH
  have hlen : its.toArray.size * k.toNat ≤ sizeLine := by rw [List.size_toArray, ← hl]; exact hz
  have hcap : ¬ its.toArray.size * k.toNat > (2 ^ 63 - 1) / 8 := by
    have : (sizeLine : Nat) ≤ (2 ^ 63 - 1) / 8 := by decide
    omega
  have hfit : ¬ (!Builtin.List.listFitsIndex k) = true := by
    rw [fitsIndex_both h1 h2]
    exact Bool.false_ne_true
  have hlong : ¬ Builtin.List.listTooLong (its.toArray.size * k.toNat) = true := by
    rw [notLongL hlen]
    exact Bool.false_ne_true
  have hnew : List.foldl (fun x1 x2 => x1 ++ x2) #[] (List.replicate (if its.toArray.isEmpty = true then 0 else k.toNat) its.toArray) = (List.replicate k.toNat its).flatten.toArray := by
    have f0 : ∀ m : Nat, List.foldl (fun x1 x2 => x1 ++ x2) #[] (List.replicate m its.toArray) = (List.replicate m its).flatten.toArray := fun m => by
      have := foldl_rep its m []
      rw [List.nil_append] at this
      exact this
    rw [f0]
    cases its with
    | nil => simp
    | cons a r' => rw [if_neg (by simp)]
  refine wpAny_binaryOp_repeat_ref (T := "list") (U := "int") (by decide) ⟨_, e, rfl⟩ (fun s' => typeIs_int s' k t) noFill_list_mul F.fills_int_mul F.slot_int_rmul repeat_list F.slot_int_index.lookup
    (call_meets F.slot_int_rmul (typeIs_int s k t) F.entry_int_rmul (F.args_int_rmul_2 _ _) (int___rmul___int_list k t l its.toArray n)
      ⟨e, rfl, ⟨_, e, rfl⟩, call_meets F.slot_list_mul ⟨_, e, rfl⟩ F.entry_list_mul (F.args_list_mul_2 _ _) (AutoListH.list___mul___list_int_3 l its.toArray n k t hfit hcap hlong) ⟨e, ?_⟩⟩)
  rw [hnew]
  exact ⟨.ref _, _, I.lnew (t' := s.toks) (r.rep k.toNat) (by rw [len_rep, Nat.mul_comm]; exact hz), rfl, q _ I.fresh⟩

/-! ### del xs[i] -/
end

/-! ### xs[a:b] = ys -/
section
variable {prog : Program} {w : World} {A : Around} {E : Value → Shared → Prop} {s : Shared}
end

section
variable {X : Cx}
end
end L2

namespace L2
open PySem PySem.Spec PyProof.Rows

theorem Vals.ints : ∀ {ns : List Int} {us : List Value}, Vals (ns.map V.int) us → IntsAre us ns
  | [], us, h => by
    rw [List.map_nil] at h
    cases h
    exact IntsAre.nil
  | n :: ns, us, h => by
    rw [List.map_cons] at h
    cases h with
    | cons r t =>
      obtain ⟨k, rfl⟩ := r
      exact IntsAre.cons n k (Vals.ints t)
theorem vals_of_ints : ∀ {us : List Value} {ns : List Int}, IntsAre us ns → Vals (ns.map V.int) us
  | _, _, .nil => by rw [List.map_nil]; exact Paired.nil
  | _, _, .cons n t h => by rw [List.map_cons]; exact Paired.cons (show RelV (V.int n) (Value.int n t) from ⟨t, rfl⟩) (vals_of_ints h)
theorem Vals.bls : ∀ {bs : List Bool} {us : List Value}, Vals (bs.map V.bl) us → us = bs.map Value.bool
  | [], us, h => by
    rw [List.map_nil] at h
    cases h
    rfl
  | b :: bs, us, h => by
    rw [List.map_cons] at h
    cases h with
    | cons r t =>
      cases r
      rw [Vals.bls t, List.map_cons]
theorem Vals.ref1 {a : Addr} {us : List Value} (r : Vals [V.ref a] us) : us = [Value.ref a] := by
  cases r with
  | cons r t =>
    cases t
    cases r
    rfl

/-! ### the library's walks over a list of ints, kept objects alone -/
section
variable {prog : Program} {w : World} {A : Around} {E : Value → Shared → Prop} {s : Shared} {l : Addr} {its : List Value} {ns : List Int} {Q : Value → Shared → Prop}
theorem sum_raw (hh : A.handled = none) (hl : s.heap.IsList l its.toArray) (hi : IntsAre its ns)
    (h : ∀ h' tk t', (∀ b o, s.heap.get? b = some o → h'.get? b = some o) → Q (.int ns.sum t') { s with heap := h', toks := tk }) : wpAny (model prog w) A (call (.builtin "sum") [.ref l]) Q E s := by
  obtain ⟨xs, e⟩ := hi.allInts.items
  have hn : numsOf (intItems xs).toList = ns := by rw [← e]; exact hi.numsOf
  rw [nums_intItems] at hn
  rw [e] at hl
  refine PySem.sum_intListG hh hl fun h' tk t' hk => ?_
  have := h h' tk t' hk
  rw [preSum_eq, List.take_of_length_le (by simp), hn]; exact this
theorem max_raw (hh : A.handled = none) (hl : s.heap.IsList l its.toArray) (hi : IntsAre its ns) (hne : 0 < ns.length)
    (h : ∀ h' tk M t', (∀ b o, s.heap.get? b = some o → h'.get? b = some o) → M ∈ ns → (∀ a, a ∈ ns → a ≤ M) → Q (.int M t') { s with heap := h', toks := tk }) : wpAny (model prog w) A (call (.builtin "max") [.ref l]) Q E s := by
  obtain ⟨xs, e⟩ := hi.allInts.items
  have hn : numsOf (intItems xs).toList = ns := by rw [← e]; exact hi.numsOf
  rw [nums_intItems] at hn
  subst hn
  rw [e] at hl
  have hsz : 0 < xs.size := by simpa using hne
  refine PySem.max_intList hh hl hsz fun v h' tk hv hk => ?_
  obtain ⟨t, rfl⟩ := intItems_at hv
  obtain ⟨h1, h2⟩ := argBest_gt (numAt xs) (xs.size - 1)
  refine h h' tk _ t hk ?_ fun a ha => ?_
  · rw [numAt_eq]; exact PySem.getD_mem (by rw [List.length_map, Array.length_toList]; omega)
  · obtain ⟨j, hj, rfl⟩ := mem_getD ha
    rw [List.length_map, Array.length_toList] at hj
    rw [← numAt_eq]; exact h2 j (by omega)
theorem min_raw (hh : A.handled = none) (hl : s.heap.IsList l its.toArray) (hi : IntsAre its ns) (hne : 0 < ns.length)
    (h : ∀ h' tk M t', (∀ b o, s.heap.get? b = some o → h'.get? b = some o) → M ∈ ns → (∀ a, a ∈ ns → M ≤ a) → Q (.int M t') { s with heap := h', toks := tk }) : wpAny (model prog w) A (call (.builtin "min") [.ref l]) Q E s := by
  obtain ⟨xs, e⟩ := hi.allInts.items
  have hn : numsOf (intItems xs).toList = ns := by rw [← e]; exact hi.numsOf
  rw [nums_intItems] at hn
  subst hn
  rw [e] at hl
  have hsz : 0 < xs.size := by simpa using hne
  refine PySem.min_intList hh hl hsz fun v h' tk hv hk => ?_
  obtain ⟨t, rfl⟩ := intItems_at hv
  obtain ⟨h1, h2⟩ := argBest_lt (numAt xs) (xs.size - 1)
  refine h h' tk _ t hk ?_ fun a ha => ?_
  · rw [numAt_eq]; exact PySem.getD_mem (by rw [List.length_map, Array.length_toList]; omega)
  · obtain ⟨j, hj, rfl⟩ := mem_getD ha
    rw [List.length_map, Array.length_toList] at hj
    rw [← numAt_eq]; exact h2 j (by omega)
end

/-! ### the calls, by values (CallR of 03t; MtR of 06l) -/
section
variable {X : Cx}
/-- sum(xs) of a list of ints -/
def rSum (K : PySem.W.Frag) : List V → Hp → VK → Prop := fun vs H Q => ∃ (a : Addr) (ns : List Int), vs = [V.ref a] ∧ SqL K H a (ns.map V.int) ∧ Q (.int ns.sum) H
def rMin (K : PySem.W.Frag) : List V → Hp → VK → Prop := fun vs H Q => ∃ (a : Addr) (ns : List Int), vs = [V.ref a] ∧ SqL K H a (ns.map V.int) ∧ 0 < ns.length ∧ ∀ m, m ∈ ns → (∀ y, y ∈ ns → m ≤ y) → Q (.int m) H
theorem cr_sum (hc : X.calm = true) : CallR X (.builtin "sum") (rSum X.K) := by
  intro pins s σ H vs us Q I r h
  obtain ⟨a, ns, rfl, hs, q⟩ := h
  obtain ⟨its, rv, hl, _⟩ := I.list hs
  rw [Vals.ref1 r]
  exact sum_raw (I.ok.hd hc) hl.isList rv.ints fun h' tk t' hk => ⟨.int _, H, I.kept hk, ⟨_, rfl⟩, q⟩
theorem cr_min (hc : X.calm = true) : CallR X (.builtin "min") (rMin X.K) := by
  intro pins s σ H vs us Q I r h
  obtain ⟨a, ns, rfl, hs, hne, q⟩ := h
  obtain ⟨its, rv, hl, _⟩ := I.list hs
  rw [Vals.ref1 r]
  exact min_raw (I.ok.hd hc) hl.isList rv.ints hne fun h' tk m t' hk h1 h2 => ⟨.int _, H, I.kept hk, ⟨_, rfl⟩, q m h1 h2⟩

/-! sorted, sort (fewer than 64 items: the library's own bound) -/
end

/-! ### list.index, flat items -/
section
variable {X : Cx}
end

/-! ### type(x) of an own instance; is, is not of a module's class -/
section
variable {X : Cx}
end

/-! ### any(xs), all(xs) of a list of bools -/
theorem iter_any {prog : Program} {w : World} {A : Around} {E : Value → Shared → Prop} {s : Shared} {l : Addr} {items : Array Value} {Q : Value → Shared → Prop} (hl : s.heap.IsList l items)
    (h : ∀ s₂ : Shared, s₂ = { s with heap := s.heap.push { cls := .type "list_iterator", data := .fields #[.ref l, .int 0 0] } } →
      (s₂.heap.IsListIter s.heap.objs.size l 0 ∧ s₂.heap.IsList l items) → l ≠ s.heap.objs.size → Q (.ref s.heap.objs.size) s₂) : wpAny (model prog w) A (pyIter (.ref l)) Q E s := by
  have hlt : l < s.heap.objs.size := by obtain ⟨_, e, _⟩ := hl; exact Heap.lt_size e
  exact wpAny_pyIter_list hl (h _ rfl ⟨⟨_, Heap.get?_push_size _ rfl, rfl, rfl⟩, hl.push _⟩ (Nat.ne_of_lt hlt))
theorem truth_bools {prog : Program} {w : World} {A : Around} {bs : List Bool} {its : List Value} (e : its = bs.map Value.bool) :
    TruthOf prog w A (fun i v => its.toArray[i]? = some v) (fun i => bs.getD i false) := fun i v s Q E hv hq => by
  have hv' : its[i]? = some v := by simpa using hv
  rw [e, List.getElem?_map] at hv'
  obtain ⟨b, hb, rfl⟩ := Option.map_eq_some_iff.mp hv'
  have hg : bs.getD i false = b := by rw [List.getD_eq_getElem?_getD, hb] <;> rfl
  have hq' : Q (bs.getD i false) s := hq
  rw [hg] at hq'
  exact wpAny_truthy_bool hq'
theorem any_range : ∀ bs : List Bool, (List.range bs.length).any (fun i => bs.getD i false) = bs.any id
  | [] => rfl
  | b :: bs => by
    rw [List.length_cons, List.range_succ_eq_map, List.any_cons, List.any_map, List.any_cons, ← any_range bs]
    all_goals rfl
theorem all_range : ∀ bs : List Bool, (List.range bs.length).all (fun i => bs.getD i false) = bs.all id
  | [] => rfl
  | b :: bs => by
    rw [List.length_cons, List.range_succ_eq_map, List.all_cons, List.all_map, List.all_cons, ← all_range bs]
    all_goals rfl
section
variable {X : Cx}
def rAll (K : PySem.W.Frag) : List V → Hp → VK → Prop := fun vs H Q => ∃ (a : Addr) (bs : List Bool), vs = [V.ref a] ∧ SqL K H a (bs.map V.bl) ∧ Q (.bl (bs.all id)) H
theorem cr_all (hc : X.calm = true) : CallR X (.builtin "all") (rAll X.K) := by
  intro pins s σ H vs us Q I r h
  obtain ⟨a, bs, rfl, hs, q⟩ := h
  obtain ⟨its, rv, hl, _⟩ := I.list hs
  rw [Vals.ref1 r]
  have hb := rv.bls
  refine call_all_walk (iter_any hl.isList fun s₂ e2 st hne => ?_)
  subst e2
  refine ⟨_, _, _, _, _, _, _, rfl, Walks.list (A := X.A.in1) (I.ok.hd hc) _ a hne its.toArray, st, truth_bools hb, fun h' tk hk => ?_⟩
  refine ⟨.bl _, H, I.kept fun b o eo => hk b o (fun hmem => ?_) (Heap.get?_push_of_some _ eo), ?_, q⟩
  · rcases List.mem_cons.mp hmem with e1 | hmem
    · exact absurd (e1 ▸ Heap.lt_size eo) (Nat.lt_irrefl _)
    · cases hmem
  · show Value.bool _ = Value.bool _
    rw [← all_range, hb, List.size_toArray, List.length_map]
end

/-! ### == and != of data at any depth: none, bools, ints, texts, lists, tuples -/
section
variable {X : Cx} {pins : List (Addr × Obj)} {σ : St} {H : Hp} {s : Shared}
end
section
variable {X : Cx}
end
end L2

namespace L2
open PySem PySem.Spec PyProof.Rows
abbrev CellAt (h : Heap) (c : Addr) (v : Option Value) : Prop := h.IsCell c v
def relS (scope sc : Scope) : Scope :=
  { scope with names := scope.names.map fun (n, k) => if (k == .free && sc.kind == .function && sc.names.lookup n == some .cell) then (n, .cell) else (n, k) }

def cloFrom (cells : List (Str × Addr)) : List (Str × NameKind) → List (Str × Addr) → List (Str × Addr)
  | [], acc => acc
  | (n, k) :: r, acc => if k == .free then cloFrom cells r ((n, (cells.lookup n).getD 0) :: acc) else cloFrom cells r acc

theorem closure_loop (env : Env) (f : Str × NameKind → List (Str × Addr) → Sem (ForInStep (List (Str × Addr))))
    (hf : ∀ n k c, f (n, k) c = if k == .free then (do let a ← cellOf env n; pure (.yield ((n, a) :: c))) else pure (.yield c)) :
    ∀ (names : List (Str × NameKind)) (acc : List (Str × Addr)), (∀ y ∈ names, y.2 = .free → ∃ c, env.cells.lookup y.1 = some c) → forIn names acc f = pure (cloFrom env.cells names acc)
  | [], acc, _ => by rw [List.forIn_nil]; rfl
  | (n, k) :: r, acc, h => by
    rw [List.forIn_cons, hf]
    have ih := fun acc => closure_loop env f hf r acc fun y hy => h y (List.mem_cons_of_mem _ hy)
    unfold cloFrom
    by_cases hk : (k == NameKind.free) = true
    · rw [if_pos hk, if_pos hk]
      obtain ⟨c, hc⟩ := h (n, k) List.mem_cons_self (by simpa using hk)
      have e : cellOf env n = pure c := by unfold cellOf; rw [hc]
      rw [e]
      have e2 : (env.cells.lookup n).getD 0 = c := by rw [hc]; rfl
      rw [e2]
      exact ih _
    · rw [if_neg hk, if_neg hk]
      exact ih _
theorem closure_ok {scope : Scope} {env : Env} (h : ∀ y ∈ scope.names, y.2 = .free → ∃ c, env.cells.lookup y.1 = some c) : closureFor scope env = pure (cloFrom env.cells scope.names []) := by
  simp only [closureFor]
  rw [closure_loop env _ (fun n k c => rfl) scope.names [] h]
  rfl

theorem mem_lookup {α : Type} : ∀ {l : List (Str × α)} {n : Str} {c : α}, (n, c) ∈ l → ∃ c', l.lookup n = some c'
  | (k, v) :: r, n, c, h => by
    rw [List.lookup_cons]
    cases hb : n == k with
    | true => exact ⟨_, rfl⟩
    | false =>
      rcases List.mem_cons.mp h with e | h
      · cases e; simp at hb
      · exact mem_lookup h

theorem cloFrom_mem {cells : List (Str × Addr)} : ∀ {names : List (Str × NameKind)} {acc : List (Str × Addr)} {n : Str} {c : Addr}, (n, c) ∈ cloFrom cells names acc → (n, c) ∈ acc ∨ ((n, .free) ∈ names ∧ c = (cells.lookup n).getD 0)
  | [], _, _, _, h => .inl h
  | (m, k) :: r, acc, n, c, h => by
    unfold cloFrom at h
    split at h
    · rename_i hk
      have hk : k = .free := by simpa using hk
      rcases cloFrom_mem h with h | ⟨h1, h2⟩
      · rcases List.mem_cons.mp h with e | h
        · cases e; exact .inr ⟨hk ▸ List.mem_cons_self, rfl⟩
        · exact .inl h
      · exact .inr ⟨List.mem_cons_of_mem _ h1, h2⟩
    · rcases cloFrom_mem h with h | ⟨h1, h2⟩
      · exact .inl h
      · exact .inr ⟨List.mem_cons_of_mem _ h1, h2⟩
theorem cloFrom_acc {cells : List (Str × Addr)} : ∀ {names : List (Str × NameKind)} {acc : List (Str × Addr)} {p : Str × Addr}, p ∈ acc → p ∈ cloFrom cells names acc
  | [], _, _, h => h
  | (m, k) :: r, acc, p, h => by
    unfold cloFrom
    split
    · exact cloFrom_acc (List.mem_cons_of_mem _ h)
    · exact cloFrom_acc h
theorem cloFrom_has {cells : List (Str × Addr)} : ∀ {names : List (Str × NameKind)} {acc : List (Str × Addr)} {n : Str}, (n, .free) ∈ names → (n, (cells.lookup n).getD 0) ∈ cloFrom cells names acc
  | (m, k) :: r, acc, n, h => by
    unfold cloFrom
    rcases List.mem_cons.mp h with e | h
    · cases e
      exact cloFrom_acc List.mem_cons_self
    · split
      · exact cloFrom_has h
      · exact cloFrom_has h

theorem cells_mem : ∀ {names : List (Str × NameKind)} {h : Heap} {acc : List (Str × Addr)} {x : Str} {c : Addr}, (x, c) ∈ cellsFrom h.objs.size names acc →
    (x, c) ∈ acc ∨ ((x, .cell) ∈ names ∧ h.objs.size ≤ c ∧ CellAt (pushCells h names) c none)
  | [], _, _, _, _, h => .inl h
  | (n, k) :: r, h, acc, x, c, hm => by
    unfold cellsFrom at hm
    unfold pushCells
    split at hm
    · rename_i hk
      rw [if_pos hk]
      have hk : k = .cell := by simpa using hk
      rw [← Heap.size_push h { cls := .type "cell", data := .cell none }] at hm
      rcases cells_mem hm with hm | ⟨h1, h2, h3⟩
      · rcases List.mem_cons.mp hm with e | hm
        · cases e
          exact .inr ⟨hk ▸ List.mem_cons_self, Nat.le_refl _, _, pushCells_keeps r _ _ _ (Heap.get?_push_size _ rfl), rfl⟩
        · exact .inl hm
      · rw [Heap.size_push] at h2
        exact .inr ⟨List.mem_cons_of_mem _ h1, Nat.le_of_succ_le h2, h3⟩
    · rename_i hk
      rw [if_neg hk]
      rcases cells_mem hm with hm | ⟨h1, h2, h3⟩
      · exact .inl hm
      · exact .inr ⟨List.mem_cons_of_mem _ h1, h2, h3⟩
theorem cells_acc : ∀ {names : List (Str × NameKind)} {n : Nat} {acc : List (Str × Addr)} {p : Str × Addr}, p ∈ acc → p ∈ cellsFrom n names acc
  | [], _, _, _, h => h
  | (m, k) :: r, n, acc, p, h => by
    unfold cellsFrom
    split
    · exact cells_acc (List.mem_cons_of_mem _ h)
    · exact cells_acc h
theorem cells_has : ∀ {names : List (Str × NameKind)} {n : Nat} {acc : List (Str × Addr)} {x : Str}, (x, .cell) ∈ names → ∃ c, (x, c) ∈ cellsFrom n names acc
  | (m, k) :: r, n, acc, x, h => by
    unfold cellsFrom
    rcases List.mem_cons.mp h with e | h
    · cases e
      exact ⟨n, cells_acc List.mem_cons_self⟩
    · split
      · exact cells_has h
      · exact cells_has h
theorem cells_inj : ∀ {names : List (Str × NameKind)} {h : Heap} {acc : List (Str × Addr)} {x y : Str} {c : Addr}, (∀ p ∈ acc, p.2 < h.objs.size) → (∀ x y c, (x, c) ∈ acc → (y, c) ∈ acc → x = y) →
    (x, c) ∈ cellsFrom h.objs.size names acc → (y, c) ∈ cellsFrom h.objs.size names acc → x = y
  | [], _, _, _, _, _, _, hi, h1, h2 => hi _ _ _ h1 h2
  | (n, k) :: r, h, acc, x, y, c, hl, hi, h1, h2 => by
    unfold cellsFrom at h1 h2
    split at h1
    · rename_i hk
      rw [if_pos hk] at h2
      rw [← Heap.size_push h { cls := .type "cell", data := .cell none }] at h1 h2
      refine cells_inj (h := h.push _) (fun p hp => ?_) (fun x y c a b => ?_) h1 h2
      · rw [Heap.size_push]
        rcases List.mem_cons.mp hp with rfl | hp
        · exact Nat.lt_succ_self _
        · exact Nat.lt_succ_of_lt (hl p hp)
      · rcases List.mem_cons.mp a with e | a <;> rcases List.mem_cons.mp b with e' | b
        · cases e; cases e'; rfl
        · cases e; exact absurd (hl _ b) (Nat.lt_irrefl _)
        · cases e'; exact absurd (hl _ a) (Nat.lt_irrefl _)
        · exact hi _ _ _ a b
    · rename_i hk
      rw [if_neg hk] at h2
      exact cells_inj hl hi h1 h2

theorem newEnv_comp {M : Model} {A : Around} {E : Value → Shared → Prop} {s : Shared} {scope : Scope} {globals : Addr} {closure : List (Str × Addr)} {qual : Str} {func : Option Addr} {code : Value} {around : Env} {builtins : Addr} {Q : Env → Shared → Prop}
    (h : Q (newEnv scope s.heap.objs.size globals (cellsFrom (s.heap.objs.size + 1) scope.names closure) qual func code (some around) builtins)
      { s with heap := pushCells (s.heap.push { cls := .type "dict", data := .dict #[] }) scope.names }) :
    wpAny M A (newFunctionEnv scope globals closure [] qual func code (some around) builtins) Q E s := by
  simp only [newFunctionEnv, Option.isSome_some, if_true]
  refine wpAny_bind (wpAny_alloc ?_)
  refine wpAny_bind (wpAny_layCells _ (fun n k c => rfl) scope.names closure _ _ ?_)
  rw [show ({ s with heap := s.heap.push { cls := .type "dict", data := .dict #[] } } : Shared).heap.objs.size = s.heap.objs.size + 1 from Heap.size_push ..]
  rw [List.forIn_nil]
  exact wpAny_bind (wpAny_pure (wpAny_pure h))

/-- every name of the written scope, in the scope that runs -/
theorem lookup_relS {sc : Scope} : ∀ {names : List (Str × NameKind)} {x : Str} {k : NameKind},
    (names.map fun (n, k) => if (k == NameKind.free && sc.kind == .function && sc.names.lookup n == some .cell) then (n, NameKind.cell) else (n, k)).lookup x = some k →
    ∃ k', names.lookup x = some k' ∧ (k = k' ∨ (k' = .free ∧ k = .cell))
  | [], _, _, h => by simp at h
  | (n, k₀) :: r, x, k, h => by
    have ih := @lookup_relS sc r x k
    have h' : List.lookup x ((if (k₀ == NameKind.free && sc.kind == .function && sc.names.lookup n == some .cell) = true then (n, NameKind.cell) else (n, k₀)) :: (r.map _)) = some k := h
    cases hx : x == n with
    | true =>
      simp only [List.lookup_cons, hx]
      by_cases hc : (k₀ == NameKind.free && sc.kind == .function && sc.names.lookup n == some .cell) = true
      · rw [if_pos hc] at h'
        simp only [List.lookup_cons, hx] at h'
        cases h'
        simp only [Bool.and_eq_true, beq_iff_eq] at hc
        exact ⟨k₀, rfl, .inr ⟨hc.1.1, rfl⟩⟩
      · rw [if_neg hc] at h'
        simp only [List.lookup_cons, hx] at h'
        cases h'
        exact ⟨_, rfl, .inl rfl⟩
    | false =>
      simp only [List.lookup_cons, hx]
      by_cases hc : (k₀ == NameKind.free && sc.kind == .function && sc.names.lookup n == some .cell) = true
      · rw [if_pos hc] at h'
        simp only [List.lookup_cons, hx] at h'
        exact ih h'
      · rw [if_neg hc] at h'
        simp only [List.lookup_cons, hx] at h'
        exact ih h'



/-- the names of a comprehension's block: its own (with their places in N), or captured -/
structure BlkOk (N : List Str) (sc scope : Scope) (own : List (Str × Nat)) : Prop where
  kind : scope.kind = .function
  uniq : ∀ y ∈ scope.names, scope.names.lookup y.1 = some y.2
  ix : ∀ p ∈ own, N[p.2]? = some p.1
  free : ∀ y ∈ scope.names, y.2 = .free → sc.names.lookup y.1 = some .cell ∨ sc.names.lookup y.1 = some .free
  own : ∀ y ∈ scope.names, y.2 = .local ∨ y.2 = .cell → y.1 ∈ own.map (·.1) ∨ y.1 ∉ N
/-- the slots of the block's own names forgotten -/
def wipe (σ : St) : List Nat → St
  | [] => σ
  | v :: vs => (wipe σ vs).set v none
theorem wipe_length (σ : St) : ∀ vs : List Nat, (wipe σ vs).length = σ.length
  | [] => rfl
  | v :: vs => by unfold wipe; rw [List.length_set, wipe_length σ vs]
theorem wipe_some {σ : St} {i : Nat} {x : V} : ∀ {vs : List Nat}, (wipe σ vs)[i]? = some (some x) → σ[i]? = some (some x) ∧ i ∉ vs
  | [], h => ⟨h, by simp⟩
  | v :: vs, h => by
    unfold wipe at h
    by_cases hi : v = i
    · subst hi
      by_cases hv : v < (wipe σ vs).length
      · rw [List.getElem?_set_self hv] at h; cases h
      · rw [List.getElem?_eq_none (by simpa using hv)] at h; cases h
    · rw [List.getElem?_set_ne hi] at h
      obtain ⟨h1, h2⟩ := wipe_some h
      exact ⟨h1, by simp only [List.mem_cons, not_or]; exact ⟨fun e => hi e.symm, h2⟩⟩

/-- the context of a block that starts at s, its iterator's objects at fp -/
abbrev Cx.blk (X : Cx) (s : Shared) (H : Hp) (scope : Scope) (cenv : Env) (fp : List Addr) : Cx := { X with s_0 := s, H_0 := H, env := cenv, outer := X.stack, ex := fp, fn := fun x => scope.names.lookup x == some .cell, pn := [], xe := fun _ _ => False }
section
variable {X : Cx} {pins : List (Addr × Obj)} {σ : St} {H : Hp} {s : Shared}
theorem block_start {scope : Scope} {own : List (Str × Nat)} {fp : List Addr} (I : Inv X pins σ H s) (ok : BlkOk X.N X.env.scope scope own) (hN : X.N.Nodup) (hfp : ∀ b ∈ fp, FpOk X pins H b ∧ b < s.heap.objs.size) :
    Inv (X.blk s H scope (compEnvC scope (cellsFrom (s.heap.objs.size + 1) scope.names (cloFrom X.env.cells scope.names [])) s.heap.objs.size X.env) fp) [] (wipe σ (own.map (·.2))) H { s with heap := pushCells (s.heap.push { cls := .type "dict", data := .dict #[] }) scope.names } := by
  have hfree : ∀ y ∈ scope.names, y.2 = .free → ∃ c, X.env.cells.lookup y.1 = some c := fun y hy e => by
    rcases ok.free y hy e with k | k
    · exact I.ok.has _ (.inl k)
    · exact I.ok.has _ (.inr k)
  generalize hcenv : compEnvC scope (cellsFrom (s.heap.objs.size + 1) scope.names (cloFrom X.env.cells scope.names [])) s.heap.objs.size X.env = cenv
  have kp : ∀ b o, s.heap.get? b = some o → (pushCells (s.heap.push { cls := .type "dict", data := .dict #[] }) scope.names).get? b = some o := fun b o e => pushCells_keeps _ _ _ _ (Heap.get?_push_of_some _ e)
  have hL : cenv.locals = s.heap.objs.size := by rw [← hcenv]; rfl
  have hcl : cenv.cells = cellsFrom (s.heap.objs.size + 1) scope.names (cloFrom X.env.cells scope.names []) := by rw [← hcenv]; rfl
  have hsc : cenv.scope = relS scope X.env.scope := by rw [← hcenv]; rfl
  rw [← Heap.size_push s.heap { cls := .type "dict", data := .dict #[] }] at hcl
  have cm : ∀ {y c}, (y, c) ∈ cloFrom X.env.cells scope.names [] → X.env.cells.lookup y = some c ∧ c < s.heap.objs.size := fun {y c} hm => by
    rcases cloFrom_mem hm with hm | ⟨h1, rfl⟩
    · cases hm
    · obtain ⟨c, hc⟩ := hfree _ h1 rfl
      rw [hc]
      obtain ⟨w, z⟩ := I.cell _ _ hc
      exact ⟨rfl, z.lt⟩
  have mem : ∀ {y c}, cenv.cells.lookup y = some c → (X.env.cells.lookup y = some c ∧ c < s.heap.objs.size) ∨ (s.heap.objs.size + 1 ≤ c ∧ CellAt (pushCells (s.heap.push { cls := .type "dict", data := .dict #[] }) scope.names) c none) := fun {y c} e => by
    rw [hcl] at e
    rcases cells_mem (PySem.mem_of_lookup e) with hm | ⟨_, h2, h3⟩
    · exact .inl (cm hm)
    · rw [Heap.size_push] at h2; exact .inr ⟨h2, h3⟩
  have look : ∀ {y}, scope.names.lookup y = some .free → ∃ c, cenv.cells.lookup y = some c ∧ X.env.cells.lookup y = some c := fun {y} hl => by
    have hy : (y, NameKind.free) ∈ scope.names := PySem.mem_of_lookup hl
    obtain ⟨c', e'⟩ := mem_lookup (cells_acc (names := scope.names) (n := (s.heap.push { cls := .type "dict", data := .dict #[] }).objs.size) (cloFrom_has (cells := X.env.cells) (acc := []) hy))
    rw [← hcl] at e'
    refine ⟨c', e', ?_⟩
    rw [hcl] at e'
    rcases cells_mem (PySem.mem_of_lookup e') with hm | ⟨h1, _, _⟩
    · exact (cm hm).1
    · have := ok.uniq _ h1
      rw [hl] at this; cases this
  have okB : (X.blk s H scope cenv fp).Ok := by
    refine ⟨I.ok.mod, by show cenv.scope.kind = _; rw [hsc]; exact ok.kind, by show cenv.globals = _; rw [← hcenv]; exact I.ok.glob, by show cenv.builtins = _; rw [← hcenv]; exact I.ok.blt, by show s.heap.objs.size ≤ cenv.locals; rw [hL]; exact Nat.le_refl _,
      fun y z c e1 e2 => ?_, fun y hy => ?_, fun y c z e => ?_, I.ok.hd, I.ok.frames, .inl rfl, fun b hb => ⟨?_, fun y c e z => ?_⟩, I.bs, Nat.le_trans I.ok.bsz I.sz, fun b o e hb => ?_, fun b hb z => ?_, I.stack, I.stkFree⟩
    · have e1 : cenv.cells.lookup y = some c := e1
      have e2 : cenv.cells.lookup z = some c := e2
      rw [hcl] at e1 e2
      refine cells_inj (fun p hp => ?_) (fun y z c a b => I.ok.inj y z c (cm a).1 (cm b).1) (PySem.mem_of_lookup e1) (PySem.mem_of_lookup e2)
      rw [Heap.size_push]
      exact Nat.lt_succ_of_lt (cm (y := p.1) (c := p.2) hp).2
    · show ∃ c, cenv.cells.lookup y = some c
      have key : ∀ k, cenv.kindOf y = some k → (k = .cell ∨ k = .free) → ∃ c, cenv.cells.lookup y = some c := fun k hk hk' => by
        unfold Env.kindOf at hk
        rw [hsc] at hk
        obtain ⟨k', e, r⟩ := lookup_relS hk
        have : k' = .cell ∨ k' = .free := by
          rcases r with rfl | ⟨rfl, _⟩
          · exact hk'
          · exact .inr rfl
        rcases this with rfl | rfl
        · obtain ⟨c, hm⟩ := cells_has (n := (s.heap.push { cls := .type "dict", data := .dict #[] }).objs.size) (acc := cloFrom X.env.cells scope.names []) (PySem.mem_of_lookup e)
          obtain ⟨c', e'⟩ := mem_lookup hm
          exact ⟨c', by rw [hcl]; exact e'⟩
        · obtain ⟨c, h1, _⟩ := look e
          exact ⟨c, h1⟩
      rcases hy with hy | hy
      · exact key _ hy (.inl rfl)
      · exact key _ hy (.inr rfl)
    · have z : (scope.names.lookup y == some NameKind.cell) = true := z
      have z : scope.names.lookup y = some .cell := by simpa using z
      have e : cenv.cells.lookup y = some c := e
      rw [hcl] at e
      rcases cells_mem (PySem.mem_of_lookup e) with hm | ⟨_, h2, _⟩
      · rcases cloFrom_mem hm with hm | ⟨h1, _⟩
        · cases hm
        · have q := ok.uniq _ h1
          rw [z] at q; cases q
      · rw [Heap.size_push] at h2
        exact Nat.le_of_succ_le h2
    · show b ≠ cenv.locals
      rw [hL]; exact Nat.ne_of_lt (hfp b hb).2
    · have e : cenv.cells.lookup y = some c := e
      rcases mem e with ⟨h1, _⟩ | ⟨h1, _⟩
      · exact (hfp b hb).1.2.2.2.2.1 y c h1 z
      · have h2 : s.heap.objs.size + 1 ≤ b := by rw [← z]; exact h1
        exact absurd (Nat.lt_of_lt_of_le (hfp b hb).2 (Nat.le_of_succ_le h2)) (Nat.lt_irrefl _)
    · rcases (hfp b hb).1.2.2.2.1 with z | z
      · exact I.ok.noex b o e z
      · exact absurd (Nat.lt_of_lt_of_le (Heap.lt_size e) (Nat.le_trans I.ok.bsz z)) (Nat.lt_irrefl _)
    · rcases List.mem_cons.mp (I.stkSub b z) with z | z
      · exact (hfp b hb).1.2.1 z
      · exact (hfp b hb).1.2.2.1 z
  refine ⟨okB, rfl, I.bare, Un.kept kp, ⟨fun _ => none, ?_, fun i y av e1 e2 e3 => ?_⟩, fun y c e => ?_, ?_, fun y c e => ?_, fun p hp => ?_, I.hok.kept kp, by rw [wipe_length]; exact I.len⟩
  · show Heap.Ns _ cenv.locals _
    rw [hL]
    exact Heap.Ns.keeps (Heap.Ns.new ..) fun b o e => pushCells_keeps _ _ _ _ e
  · obtain ⟨e2, hne⟩ := wipe_some e2
    have hfr : scope.names.lookup y = some .free ∧ (cenv.kindOf y = some .cell ∨ cenv.kindOf y = some .free) := by
      have key : ∀ k, cenv.scope.names.lookup y = some k → k = .local ∨ k = .cell ∨ k = .free → scope.names.lookup y = some .free ∧ (cenv.kindOf y = some .cell ∨ cenv.kindOf y = some .free) := fun k hk hk' => by
        have hk0 := hk
        rw [hsc] at hk
        obtain ⟨k', e, r⟩ := lookup_relS hk
        have no : ¬ (k' = .local ∨ k' = .cell) := fun hh => by
          rcases ok.own _ (PySem.mem_of_lookup e) hh with e' | e'
          · obtain ⟨p, hp, hpy⟩ := List.mem_map.mp e'
            have e3 := ok.ix p hp
            have : p.1 = y := hpy
            rw [this] at e3
            exact hne (List.mem_map.mpr ⟨p, hp, nodup_ix hN e3 e1⟩)
          · exact e' (List.mem_of_getElem? e1)
        rcases r with rfl | ⟨rfl, rfl⟩
        · rcases hk' with rfl | rfl | rfl
          · exact absurd (.inl rfl) no
          · exact absurd (.inr rfl) no
          · exact ⟨e, .inr hk0⟩
        · exact ⟨e, .inl hk0⟩
      have e3 : Vis cenv.scope y := e3
      rcases e3 with e3 | e3 | e3
      · exact key _ e3 (.inl rfl)
      · exact key _ e3 (.inr (.inl rfl))
      · exact key _ e3 (.inr (.inr rfl))
    obtain ⟨m, hn, hl⟩ := I.loc
    have hvis : Vis X.env.scope y := (ok.free _ (PySem.mem_of_lookup hfr.1) rfl).elim (fun k => .inr (.inl k)) (fun k => .inr (.inr k))
    obtain ⟨w, r, q⟩ := hl i y av e1 e2 hvis
    refine ⟨w, r, .inr ⟨hfr.2, ?_⟩⟩
    obtain ⟨c, h1, h2⟩ := look hfr.1
    rcases q with ⟨k, _⟩ | ⟨_, c', e', z⟩
    · have k : X.env.scope.names.lookup y = some .local := k
      rcases ok.free _ (PySem.mem_of_lookup hfr.1) rfl with k' | k' <;> rw [show X.env.scope.names.lookup y = _ from k'] at k <;> cases k
    · rw [h2] at e'; cases e'
      exact ⟨c, h1, z.keeps kp⟩
  · have e : cenv.cells.lookup y = some c := e
    rcases mem e with ⟨h1, _⟩ | ⟨_, z⟩
    · obtain ⟨w, z⟩ := I.cell y c h1
      exact ⟨w, z.keeps kp⟩
    · exact ⟨_, z⟩
  · show H cenv.locals = none
    rw [hL]; exact I.hok.fresh (Nat.le_refl _)
  · have e : cenv.cells.lookup y = some c := e
    rcases mem e with ⟨h1, _⟩ | ⟨h1, _⟩
    · exact I.freeC y c h1
    · exact I.hok.fresh (Nat.le_of_succ_le h1)
  · exact absurd (show p ∈ ([] : List (Addr × Obj)) ++ [] from hp) (by simp)

/-- an item appended to a tracked list -/
theorem app_ok {E : Value → Shared → Prop} {D : Addr} {xs : List V} {y : V} {v : Value} {Q : Value → Shared → Prop} (I : Inv X pins σ H s) (hD : H D = some (.lst xs)) (hz : xs.length < sizeLine) (r : RelV y v)
    (h : ∀ s', Inv X pins σ (upd H D (.lst (xs ++ [y]))) s' → Q .none s') : wpAny (model X.prog X.w) X.A (call (.builtin "list.append") [.ref D, v]) Q E s := by
  obtain ⟨hz', its, n, ri, e⟩ := I.hok D _ hD
  have hl := ri.length
  refine append_at (hsz := by rw [List.size_toArray]; omega) e fun h' sb ho' => ?_
  refine h { s with heap := h' } (I.write (t' := s.toks) (by rw [hD]; trivial) (.inl rfl) (fun b u hb q => (sb.2 b hb).trans q) ⟨_, ho'⟩ ⟨by rw [List.length_append]; exact hz, its ++ [v], n + 1, ri.append (.cons r .nil), ?_⟩)
  rw [ho']
  simp

/-- a clause's tests -/
def PTs (X : Cx) (ifs : List Expr) (t : TT) : Prop :=
  ∀ (pins : List (Addr × Obj)) (s : Shared) (σ : St) (H : Hp) (Q : Bool → Hp → Prop), Inv X pins σ H s → t σ H Q →
    wpAny (model X.prog X.w) X.A (forIn ifs true fun c r => if r = true then do let ok ← isTrue c X.env (eval c X.env); pure (ForInStep.yield ok) else pure (ForInStep.yield r)) (TP X pins σ Q) X.xe s
def tYes : TT := fun _ H Q => Q true H
theorem pts_nil : PTs X [] tYes := fun _ _ _ H _ I h => wpAny_tests_nil ⟨H, I, h⟩
theorem pts_one {c : Expr} {t : TT} (h : PT X c t) : PTs X [c] t := fun pins s σ H Q I hw => wpAny_tests_one (h pins s σ H Q I hw)
end

theorem thnF {α : Type} {t : Sem α} {Q Q' : α → Shared → Prop} {M : Model} {A : Around} {E : Value → Shared → Prop} {s : Shared} (h : wpAny M A t Q (fun _ _ => False) s) (hQ : ∀ a s, Q a s → Q' a s) : wpAny M A t Q' E s := wpAny_mono h hQ fun _ _ z => False.elim z

/-- the loop of a list comprehension's block, the target of any form (codeAny_compLoop_tests asks a target that no tuple goes to; statement and proof follow it, PyProof/CompMap.lean:41-61, with the step letOwnedTupleGo kept) -/
theorem compLoop_any {prog : Program} {w : World} {A : Around} {R : Result → Shared → Prop} {s : Shared} {elt target iter : Expr} {ifs : List Expr} {scope : Scope} {pos : Pos} {it acc : Value} {env : Env} (I : Nat → Shared → Prop)
    (turn : ∀ n s, I n s → wpAny (model prog w) A (pyNext it) (fun r s₁ => match r with
      | none => R (.ok .next) s₁
      | some v => wpAny (model prog w) A (letOwnedTupleGo target it v) (fun _ s₁' => wpAny (model prog w) A (assign target env v) (fun _ s₂ =>
          wpAny (model prog w) A (forIn ifs true fun c r => if r = true then do let ok ← isTrue c env (eval c env); pure (ForInStep.yield ok) else pure (ForInStep.yield r)) (fun ok s₃ =>
            if ok = true then wpAny (model prog w) A (eval elt env) (fun x s₄ =>
              wpAny (model prog w) A (call (.builtin "list.append") [acc, x]) (fun _ s₅ => ∃ m, m < n ∧ I m s₅) (notedBy (model prog w) A env fun e s' => R (.error e) s') s₄) (notedBy (model prog w) A env fun e s' => R (.error e) s') s₃
            else ∃ m, m < n ∧ I m s₃) (notedBy (model prog w) A env fun e s' => R (.error e) s') s₂) (notedBy (model prog w) A env fun e s' => R (.error e) s') s₁') (notedBy (model prog w) A env fun e s' => R (.error e) s') s₁) (notedBy (model prog w) A env fun e s' => R (.error e) s') s)
    (n : Nat) (h : I n s) :
    codeAny (model prog w) A (.compLoop (.ListComp elt [⟨target, iter, ifs, 0⟩] scope pos) 0 it acc env) R s := by
  refine codeAny_loop rfl I (fun n s hI => ?_) n h
  show wpAny _ A ((compTurn (.ListComp elt [⟨target, iter, ifs, 0⟩] scope pos) 0 it acc env).onRaise (fun x => do noteFrame x env; theTreesLotGoes x)) _ _ s
  refine wpAny_noted ?_
  rw [compTurn_list]
  refine wpAny_bind (wpAny_standAt (wpAny_bind (wpAny_mono (turn n s hI) (fun r s₁ h₁ => ?_) fun _ _ h' => h')))
  cases r with
  | none => exact wpAny_pure h₁
  | some v =>
    refine wpAny_bind (wpAny_mono h₁ (fun _ s₁' h₁' => ?_) fun _ _ h' => h')
    refine wpAny_bind (wpAny_mono h₁' (fun _ s₂ h₂ => wpAny_bind (wpAny_mono h₂ (fun ok s₃ h₃ => ?_) fun _ _ h' => h')) fun _ _ h' => h')
    cases ok with
    | false => exact wpAny_pure ⟨rfl, h₃⟩
    | true =>
      exact wpAny_bind (wpAny_bind (wpAny_mono h₃ (fun x s₄ h₄ => wpAny_bind (wpAny_mono h₄ (fun _ s₅ h₅ => wpAny_pure (wpAny_pure ⟨rfl, h₅⟩)) fun _ _ h' => h')) fun _ _ h' => h'))

section
variable {X : Cx}
/-- [elt for target in iter if ..]: D the new list; W by the turn and a measure, Nx what a turn is to reach -/
def tLc (wi : TI) (g : TG) (tt : TT) (te : TE) (vs : List Nat) : TE := fun σ H Q => wi σ H fun J H1 => ∀ D, H1 D = none → ∃ W : Nat → Nat → Hp → Prop, (∃ m, W 0 m (upd H1 D (.lst []))) ∧ ∀ i m H, W i m H →
  (J.stop i H ∧ Q (.ref D) H) ∨ (J.go i H ∧ ∃ Nx : Hp → Prop, (∀ H', Nx H' → ∃ m', m' < m ∧ W (i + 1) m' H') ∧ ∀ x H', J.yld i H x H' → g x (wipe σ vs) H' fun σ2 H2 => wipe σ2 vs = wipe σ vs ∧ tt σ2 H2 fun b H3 =>
    if b = true then te σ2 H3 fun y H4 => ∃ acc, H4 D = some (.lst acc) ∧ acc.length < sizeLine ∧ Nx (upd H4 D (.lst (acc ++ [y]))) else Nx H3)
theorem lc_core {pins : List (Addr × Obj)} {s : Shared} {σ : St} {H : Hp} {Q : VK} {elt tg iter : Expr} {ifs : List Expr} {scope : Scope} {own : List (Str × Nat)} {pos pos' : Pos} {wi : TI} {g : TG} {tt : TT} {te : TE} {use : Option (Value → Sem Unit)} {Qf : Value → Shared → Prop}
    (hc : X.calm = true) (hN : X.N.Nodup) (I : Inv X pins σ H s) (hi : PI X tg iter wi) (ok : BlkOk X.N X.env.scope scope own)
    (hg : ∀ (s : Shared) (H : Hp) (C : Addr) (cl : List (Str × Addr)) (fp : List Addr), PG (X.blk s H scope (compEnvC scope cl C X.env) fp) tg g) (ht : ∀ (s : Shared) (H : Hp) (C : Addr) (cl : List (Str × Addr)) (fp : List Addr), PTs (X.blk s H scope (compEnvC scope cl C X.env) fp) ifs tt)
    (he : ∀ (s : Shared) (H : Hp) (C : Addr) (cl : List (Str × Addr)) (fp : List Addr), PE (X.blk s H scope (compEnvC scope cl C X.env) fp) elt te) (hs : ∀ x, foldedSetIterable iter X.env x = pure x)
    (h : tLc wi g tt te (own.map (·.2)) σ H Q)
    (hRR : ∀ D C s' m H', Inv X pins σ H' s' → Q (.ref D) H' → s'.heap.Ns C m → FpOk X pins H' C → compPost (model X.prog X.w) X.A X.xe use Qf (.ref D) C (.ok .next) s') :
    wpAny (model X.prog X.w) X.A (comprehension (.ListComp elt [⟨tg, iter, ifs, 0⟩] scope pos) scope X.env pos' (newList []) false (eval iter X.env) use) Qf X.xe s := by
  have hfree : ∀ y ∈ scope.names, y.2 = .free → ∃ c, X.env.cells.lookup y.1 = some c := fun y hy e => by
    rcases ok.free y hy e with k | k
    · exact I.ok.has _ (.inl k)
    · exact I.ok.has _ (.inr k)
  refine wpAny_comprehension_free (use := use) rfl hs (closure_ok hfree) ok.kind (fun y hy e => by rw [ok.uniq y hy, e])
    (thn (hi pins s σ H _ I h) fun xv s1 hx => thn hx fun itv s2 h2 => ?_)
  obtain ⟨it, fp, tn, J, H2, e, I2, T, st2, f2, q⟩ := h2
  subst e
  refine wpAny_newObj_type (newEnv_comp ?_) (by show 0 ≤ sizeLine; decide)
  generalize hD : s2.heap.objs.size = D
  have hDn : H2 D = none := I2.hok.fresh (Nat.le_of_eq hD)
  obtain ⟨W, ⟨m0, w0⟩, turn⟩ := q D hDn
  -- the new list
  generalize hs3 : ({ s2 with heap := s2.heap.push { cls := .type "list", data := .seq ([] : List Value).toArray } } : Shared) = s3
  have I3 : Inv X pins σ (upd H2 D (.lst [])) s3 := by
    rw [← hs3]
    refine I2.laid (t' := s2.toks) (fun b o e => Heap.get?_push_of_some _ e) (Nat.le_of_eq hD) ⟨Nat.zero_le _, [], 0, .nil, ?_⟩
    rw [← hD]
    exact Heap.get?_push_size _ rfl
  have h3 : s3.heap = s2.heap.push { cls := .type "list", data := .seq ([] : List Value).toArray } := by rw [← hs3]
  have sz : ∀ b ∈ fp, b < s2.heap.objs.size := fun b hb => by
    obtain ⟨o, e, _⟩ := T.obj _ _ st2 b hb
    exact Heap.lt_size e
  have f3 : ∀ b ∈ fp, FpOk X pins (upd H2 D (.lst [])) b ∧ b < s3.heap.objs.size := fun b hb => by
    have hlt := sz b hb
    refine ⟨⟨?_, (f2 b hb).2⟩, by rw [h3, Heap.size_push]; exact Nat.lt_succ_of_lt hlt⟩
    rw [upd_ne (by rw [← hD]; exact Nat.ne_of_lt hlt)]
    exact (f2 b hb).1
  have st3 : tn 0 s3.heap := T.keep _ _ _ st2 fun b _ o e => by rw [h3]; exact Heap.get?_push_of_some _ e
  have I4 := block_start I3 ok hN f3
  have pg := hg s3 (upd H2 D (.lst [])) s3.heap.objs.size (cellsFrom (s3.heap.objs.size + 1) scope.names (cloFrom X.env.cells scope.names [])) fp
  have pt := ht s3 (upd H2 D (.lst [])) s3.heap.objs.size (cellsFrom (s3.heap.objs.size + 1) scope.names (cloFrom X.env.cells scope.names [])) fp
  have pe := he s3 (upd H2 D (.lst [])) s3.heap.objs.size (cellsFrom (s3.heap.objs.size + 1) scope.names (cloFrom X.env.cells scope.names [])) fp
  show codeAny _ _ (.compStart (.ListComp elt [⟨tg, iter, ifs, 0⟩] scope pos) 0 (.ref it) (.ref D) (compEnvC scope (cellsFrom (s3.heap.objs.size + 1) scope.names (cloFrom X.env.cells scope.names [])) s3.heap.objs.size X.env)) (compPost (model X.prog X.w) X.A X.xe use Qf (.ref D) s3.heap.objs.size) { s3 with heap := pushCells (s3.heap.push { cls := .type "dict", data := .dict #[] }) scope.names }
  have nfp : ∀ b ∈ fp, (upd H2 D (.lst [])) b = none := fun b hb => (f3 b hb).1.1
  generalize hce : compEnvC scope (cellsFrom (s3.heap.objs.size + 1) scope.names (cloFrom X.env.cells scope.names [])) s3.heap.objs.size X.env = ce at I4 pg pt pe ⊢
  have cL : ce.locals = s3.heap.objs.size := by subst hce; rfl
  generalize hH3 : upd H2 D (.lst []) = H3 at I3 I4 pg pt pe w0 nfp f3
  generalize hs4 : ({ s3 with heap := pushCells (s3.heap.push { cls := .type "dict", data := .dict #[] }) scope.names } : Shared) = s4 at I4 ⊢
  have st4 : tn 0 s4.heap := T.keep _ _ _ st3 fun b _ o e => by rw [← hs4]; exact pushCells_keeps _ _ _ _ (Heap.get?_push_of_some _ e)
  have stat : ∀ {σ' : St} {H' : Hp} {s' : Shared}, Inv (X.blk s3 H3 scope ce fp) [] σ' H' s' → (∀ b ∈ fp, H' b = none) → ∀ b ∈ fp, FpOk (X.blk s3 H3 scope ce fp) [] H' b := fun {σ' H' s'} I' hn b hb =>
    ⟨hn b hb, (I'.ok.exf b hb).1, I'.ok.exfs b hb, .inl hb, fun x c e => (I'.ok.exf b hb).2 x c e, fun p hp => absurd (show p ∈ ([] : List (Addr × Obj)) ++ [] from hp) (by simp)⟩
  have loop : codeAny (model X.prog X.w) X.A (.compLoop (.ListComp elt [⟨tg, iter, ifs, 0⟩] scope pos) 0 (.ref it) (.ref D) ce) (compPost (model X.prog X.w) X.A X.xe use Qf (.ref D) s3.heap.objs.size) s4 := by
    refine compLoop_any (fun n s' => ∃ i H', Inv (X.blk s3 H3 scope ce fp) [] (wipe σ (own.map (·.2))) H' s' ∧ tn i s'.heap ∧ (∀ b ∈ fp, H' b = none) ∧ W i n H') ?_ m0 ⟨0, H3, I4, st4, nfp, w0⟩
    rintro n s5 ⟨i, H5, I5, st5, n5, w5⟩
    rcases turn i n H5 w5 with ⟨stop, qq⟩ | ⟨go, Nx, hNx, step⟩
    · have td := T.done (X.blk s3 H3 scope ce fp) rfl rfl rfl hc i [] s5 _ H5 (fun _ _ => False) I5 (stat I5 n5) st5 stop
      refine thnF td fun r s6 ⟨hr, I6⟩ => ?_
      subst hr
      -- back in the def's context
      have I7 : Inv X pins σ H5 s6 := I3.call' (ch := fp) I6.os I6.base I6.hok I6.bare fun b hb => ⟨(f3 b hb).1.2.2.2.1, (f3 b hb).1.2.1, (f3 b hb).1.2.2.2.2.1, (f3 b hb).1.2.2.2.2.2⟩
      have nC : H5 s3.heap.objs.size = none := by
        have z : H5 ce.locals = none := I6.free
        rw [cL] at z
        exact z
      obtain ⟨m, hn, _⟩ := I6.loc
      have hn : s6.heap.Ns ce.locals m := hn
      rw [cL] at hn
      exact hRR D s3.heap.objs.size s6 m H5 I7 qq hn (I3.fpOk (Nat.le_refl _) nC)
    · have ti := T.item (X.blk s3 H3 scope ce fp) rfl rfl rfl hc i [] s5 _ H5 (fun _ _ => False) I5 (stat I5 n5) st5 go
      refine thnF ti fun r s6 ⟨u, hr, h6⟩ => ?_
      subst hr
      refine thnF h6 fun _ s7 ⟨x, H7, I7, r7, y7, st7, n7⟩ => ?_
      have I7' := I7.pinned (stat I7 n7) (T.obj _ _ st7)
      refine thnF (pg _ s7 _ H7 x u _ I7' r7 (step x H7 y7)) fun _ s8 ⟨σ8, H8, I8, hw8, q8⟩ => ?_
      refine thnF (pt _ s8 σ8 H8 _ I8 q8) fun b s9 ⟨H9, I9, q9⟩ => ?_
      -- the turn's end
      have fin : ∀ {s' : Shared} {H' : Hp}, Inv (X.blk s3 H3 scope ce fp) ([] ++ pinsAt fp s7.heap) σ8 H' s' → Nx H' → ∃ m, m < n ∧ ∃ i H', Inv (X.blk s3 H3 scope ce fp) [] (wipe σ (own.map (·.2))) H' s' ∧ tn i s'.heap ∧ (∀ b ∈ fp, H' b = none) ∧ W i m H' := fun {s' H'} I' nx => by
        obtain ⟨m', hm, w'⟩ := hNx H' nx
        have pin' : ∀ b ∈ fp, ∀ o, s7.heap.get? b = some o → s'.heap.get? b = some o ∧ H' b = none := fun b hb o e =>
          let z := I'.pin (b, o) (List.mem_append_right _ (List.mem_append_right _ (mem_pinsAt hb e)))
          ⟨z.1, z.2.1⟩
        have hl : (wipe σ (own.map (·.2))).length = σ8.length := by rw [← hw8, wipe_length]
        refine ⟨m', hm, i + 1, H', (I'.unpinned (pins := [])).weak hl (fun j v e => ?_), T.keep _ _ _ st7 fun b hb o e => (pin' b hb o e).1, fun b hb => ?_, w'⟩
        · rw [← hw8] at e
          exact (wipe_some e).1
        · obtain ⟨o, e, _⟩ := T.obj _ _ st7 b hb
          exact (pin' b hb o e).2
      cases b with
      | false =>
        simp only [Bool.false_eq_true, if_false] at q9 ⊢
        exact fin I9 q9
      | true =>
        simp only [if_true] at q9 ⊢
        refine thnF (pe _ s9 σ8 H9 _ I9 q9) fun z s10 ⟨yv, H10, I10, r10, acc, hD10, hz10, nx⟩ => ?_
        exact app_ok (X := X.blk s3 H3 scope ce fp) I10 hD10 hz10 r10 fun s11 I11 => fin I11 nx
  exact codeAny_compStart_list loop (T.self X.A 0 _ _ _ st4 loop)
/-- as a value -/
theorem pe_lc {elt tg iter : Expr} {ifs : List Expr} {scope : Scope} {own : List (Str × Nat)} {pos : Pos} {wi : TI} {g : TG} {tt : TT} {te : TE} (hc : X.calm = true) (hN : X.N.Nodup) (hi : PI X tg iter wi) (ok : BlkOk X.N X.env.scope scope own)
    (hg : ∀ (s : Shared) (H : Hp) (C : Addr) (cl : List (Str × Addr)) (fp : List Addr), PG (X.blk s H scope (compEnvC scope cl C X.env) fp) tg g) (ht : ∀ (s : Shared) (H : Hp) (C : Addr) (cl : List (Str × Addr)) (fp : List Addr), PTs (X.blk s H scope (compEnvC scope cl C X.env) fp) ifs tt)
    (he : ∀ (s : Shared) (H : Hp) (C : Addr) (cl : List (Str × Addr)) (fp : List Addr), PE (X.blk s H scope (compEnvC scope cl C X.env) fp) elt te) (hs : ∀ x, foldedSetIterable iter X.env x = pure x := by intro _; rfl) :
    PE X (.ListComp elt [⟨tg, iter, ifs, 0⟩] scope pos) (tLc wi g tt te (own.map (·.2))) := by
  intro pins s σ H Q I h
  rw [eval_ListComp]
  refine lc_core hc hN I hi ok hg ht he hs h fun D C s' m H' I' q hn f => ⟨m, hn, fun h'' sb => ?_⟩
  obtain ⟨f0, f1, f2, f3, f4, f5⟩ := f
  exact ⟨.ref D, H', I'.turned (t' := s'.toks) (fun b o hb e => (sb.2 b hb).trans e) f0 f1 f3 f4 f5, rfl, q⟩
/-- name = [..] on one line, the name a local -/
theorem ps_setLc {i : Nat} {y : Str} {py : Pos} {elt tg iter : Expr} {ifs : List Expr} {scope : Scope} {own : List (Str × Nat)} {pos spos : Pos} {wi : TI} {g : TG} {tt : TT} {te : TE} (hc : X.calm = true) (hN : X.N.Nodup) (hy : X.N[i]? = some y) (hyl : X.env.scope.names.lookup y = some .local)
    (hsw : swapsWith (.ListComp elt [⟨tg, iter, ifs, 0⟩] scope pos) (some (.Name y py)) spos.line X.env = pure true) (hi : PI X tg iter wi) (ok : BlkOk X.N X.env.scope scope own)
    (hg : ∀ (s : Shared) (H : Hp) (C : Addr) (cl : List (Str × Addr)) (fp : List Addr), PG (X.blk s H scope (compEnvC scope cl C X.env) fp) tg g) (ht : ∀ (s : Shared) (H : Hp) (C : Addr) (cl : List (Str × Addr)) (fp : List Addr), PTs (X.blk s H scope (compEnvC scope cl C X.env) fp) ifs tt)
    (he : ∀ (s : Shared) (H : Hp) (C : Addr) (cl : List (Str × Addr)) (fp : List Addr), PE (X.blk s H scope (compEnvC scope cl C X.env) fp) elt te) (hs : ∀ x, foldedSetIterable iter X.env x = pure x := by intro _; rfl) :
    PS X (.Assign [.Name y py] (.ListComp elt [⟨tg, iter, ifs, 0⟩] scope pos) spos) (tAsg (tLc wi g tt te (own.map (·.2))) (gName i)) := by
  intro pins s σ H D I h
  rw [exec_Assign_Name_used _ _ _ _ hsw]
  refine wpAny_bind (wpAny_standAt (wpAny_bind ?_))
  show wpAny _ X.A (do let _ ← comprehension (.ListComp elt [⟨tg, iter, ifs, 0⟩] scope pos) scope X.env (firstIterPos [⟨tg, iter, ifs, 0⟩] pos) (newList []) false (eval iter X.env) (some (assign (.Name y py) X.env))) _ _ s
  have h : tLc wi g tt te (own.map (·.2)) σ H (fun x H1 => gName i x σ H1 D.nx) := h
  refine wpAny_bind (thn (lc_core (Qf := fun _ s' => SP X pins D .next s') hc hN I hi ok hg ht he hs h fun L C s' m H' I' q hn f => ?_) fun _ s' hq => wpAny_pure (wpAny_pure hq))
  show wpAny _ _ (assign (.Name y py) X.env (.ref L)) _ _ _
  refine wpAny_assign_Name (store_ok2 (v := V.ref L) I' hN hy (.inl hyl) rfl (fun s2 I2 ⟨a, sb, ha⟩ => ?_) (.inr hyl))
  obtain ⟨f0, f1, f2, f3, f4, f5⟩ := f
  have haC : C ≠ a := by
    rcases ha with z | z
    · rw [z]; exact f1
    · exact fun e => f4 y a z e.symm
  refine ⟨m, hn.sameBut sb haC, fun h3 sb3 => ?_⟩
  exact ⟨_, H', I2.turned (t' := s2.toks) (fun b o hb e => (sb3.2 b hb).trans e) f0 f1 f3 f4 f5, q⟩
end

/-! ### the forms one uses -/
/-- over a range: Pv by the turn and the heap (the new list at D within) -/
theorem lc_range {lo : Int} {n : Nat} {g : TG} {tt : TT} {te : TE} {vs : List Nat} {σ : St} {H1 : Hp} {D : Addr} {Qd : Hp → Prop} (Pv : Nat → Hp → Prop) (h0 : Pv 0 (upd H1 D (.lst [])))
    (hs : ∀ i H, i < n → Pv i H → g (.int (lo + i)) (wipe σ vs) H fun σ2 H2 => wipe σ2 vs = wipe σ vs ∧ tt σ2 H2 fun b H3 =>
      if b = true then te σ2 H3 fun y H4 => ∃ acc, H4 D = some (.lst acc) ∧ acc.length < sizeLine ∧ Pv (i + 1) (upd H4 D (.lst (acc ++ [y]))) else Pv (i + 1) H3) (hd : ∀ H, Pv n H → Qd H) :
    ∃ W : Nat → Nat → Hp → Prop, (∃ m, W 0 m (upd H1 D (.lst []))) ∧ ∀ i m H, W i m H →
      ((Itr lo n).stop i H ∧ Qd H) ∨ ((Itr lo n).go i H ∧ ∃ Nx : Hp → Prop, (∀ H', Nx H' → ∃ m', m' < m ∧ W (i + 1) m' H') ∧ ∀ x H', (Itr lo n).yld i H x H' → g x (wipe σ vs) H' fun σ2 H2 => wipe σ2 vs = wipe σ vs ∧ tt σ2 H2 fun b H3 =>
        if b = true then te σ2 H3 fun y H4 => ∃ acc, H4 D = some (.lst acc) ∧ acc.length < sizeLine ∧ Nx (upd H4 D (.lst (acc ++ [y]))) else Nx H3) := by
  refine ⟨fun i m H => m = n - i ∧ i ≤ n ∧ Pv i H, ⟨n, by simp, Nat.zero_le _, h0⟩, ?_⟩
  rintro i m H ⟨rfl, hi, p⟩
  by_cases hlt : i < n
  · refine .inr ⟨hlt, Pv (i + 1), fun H' p' => ⟨n - (i + 1), by omega, rfl, hlt, p'⟩, fun x H' y => ?_⟩
    obtain ⟨e, y⟩ := y
    subst e y
    exact hs i _ hlt p
  · have e : i = n := by omega
    subst e
    exact .inl ⟨Nat.le_refl _, hd H p⟩
/-- over a list that the block leaves as it is -/
theorem lc_list {K : PySem.W.Frag} {a : Addr} {xs : List V} {g : TG} {tt : TT} {te : TE} {vs : List Nat} {σ : St} {H1 : Hp} {D : Addr} {Qd : Hp → Prop} (Pv : Nat → Hp → Prop) (h0 : Pv 0 (upd H1 D (.lst []))) (hl : ∀ i H, i ≤ xs.length → Pv i H → SqL K H a xs)
    (hs : ∀ i x H, xs[i]? = some x → Pv i H → g x (wipe σ vs) H fun σ2 H2 => wipe σ2 vs = wipe σ vs ∧ tt σ2 H2 fun b H3 =>
      if b = true then te σ2 H3 fun y H4 => ∃ acc, H4 D = some (.lst acc) ∧ acc.length < sizeLine ∧ Pv (i + 1) (upd H4 D (.lst (acc ++ [y]))) else Pv (i + 1) H3) (hd : ∀ H, Pv xs.length H → Qd H) :
    ∃ W : Nat → Nat → Hp → Prop, (∃ m, W 0 m (upd H1 D (.lst []))) ∧ ∀ i m H, W i m H →
      ((Itl K a).stop i H ∧ Qd H) ∨ ((Itl K a).go i H ∧ ∃ Nx : Hp → Prop, (∀ H', Nx H' → ∃ m', m' < m ∧ W (i + 1) m' H') ∧ ∀ x H', (Itl K a).yld i H x H' → g x (wipe σ vs) H' fun σ2 H2 => wipe σ2 vs = wipe σ vs ∧ tt σ2 H2 fun b H3 =>
        if b = true then te σ2 H3 fun y H4 => ∃ acc, H4 D = some (.lst acc) ∧ acc.length < sizeLine ∧ Nx (upd H4 D (.lst (acc ++ [y]))) else Nx H3) := by
  refine ⟨fun i m H => m = xs.length - i ∧ i ≤ xs.length ∧ Pv i H, ⟨xs.length, by simp, Nat.zero_le _, h0⟩, ?_⟩
  rintro i m H ⟨rfl, hi, p⟩
  have q := hl i H hi p
  by_cases hlt : i < xs.length
  · refine .inr ⟨⟨xs, xs[i], q, by simp [hlt]⟩, Pv (i + 1), fun H' p' => ⟨xs.length - (i + 1), by omega, rfl, hlt, p'⟩, fun x H' y => ?_⟩
    obtain ⟨e, y⟩ := y
    subst e
    exact hs i x _ (y xs q) p
  · have e : i = xs.length := by omega
    subst e
    exact .inl ⟨⟨xs, q, Nat.le_refl _⟩, hd H p⟩
def blkC (N : List Str) (sc scope : Scope) (own : List (Str × Nat)) : Bool :=
  (match scope.kind with | .function => true | _ => false) && (scope.names.all fun y => decide (scope.names.lookup y.1 = some y.2)) && (own.all fun p => decide (N[p.2]? = some p.1)) &&
    (scope.names.all fun y => match y.2 with
      | .free => (match sc.names.lookup y.1 with | some .cell => true | some .free => true | _ => false)
      | .local => decide (y.1 ∈ own.map (·.1)) || decide (y.1 ∉ N)
      | .cell => decide (y.1 ∈ own.map (·.1)) || decide (y.1 ∉ N)
      | _ => true)
theorem blkOk_by {N : List Str} {sc scope : Scope} {own : List (Str × Nat)} (h : blkC N sc scope own = true) : BlkOk N sc scope own := by
  unfold blkC at h
  simp only [Bool.and_eq_true, List.all_eq_true, decide_eq_true_eq] at h
  obtain ⟨⟨⟨h1, h2⟩, h3⟩, h4⟩ := h
  refine ⟨?_, h2, h3, fun y hy e => ?_, fun y hy e => ?_⟩
  · split at h1
    · assumption
    · cases h1
  · have q := h4 y hy
    simp only [e] at q
    split at q <;> first | exact .inl (by assumption) | exact .inr (by assumption) | cases q
  · have q := h4 y hy
    rcases e with e | e <;> (simp only [e, Bool.or_eq_true, decide_eq_true_eq] at q; exact q)
end L2

namespace L2
open PySem PySem.Spec PyProof.Rows


section
variable {prog : Program} {w : World} {A : Around} {R : Result → Shared → Prop} {s : Shared} {elt t0 i0 t1 i1 : Expr} {ifs0 ifs1 : List Expr} {scope : Scope} {pos : Pos} {it acc : Value} {env : Env}
end

section
variable {X : Cx}
end
end L2

namespace L2
open PySem PySem.Spec PyProof.Rows

/-! ### lists of pairs as tables -/
section
variable {κ : Type} [DecidableEq κ]
def valV (kvs : List (κ × V)) (k : κ) : Option V := (kvs.find? fun kv => decide (kv.1 = k)).map (·.2)
/-- in its place, or at the end -/
def putK (kvs : List (κ × V)) (k : κ) (v : V) : List (κ × V) :=
  if (kvs.any fun kv => decide (kv.1 = k)) = true then kvs.map (fun kv => if kv.1 = k then (kv.1, v) else kv) else kvs ++ [(k, v)]

theorem valV_pos {p : κ × V} {r : List (κ × V)} {k : κ} (e : p.1 = k) : valV (p :: r) k = some p.2 := by simp [valV, List.find?_cons, e]
theorem valV_neg {p : κ × V} {r : List (κ × V)} {k : κ} (e : ¬ p.1 = k) : valV (p :: r) k = valV r k := by simp [valV, List.find?_cons, e]
theorem valV_any (k : κ) : ∀ kvs : List (κ × V), (kvs.any fun kv => decide (kv.1 = k)) = (valV kvs k).isSome
  | [] => rfl
  | p :: r => by
    rw [List.any_cons]
    by_cases e : p.1 = k
    · simp only [valV_pos e, decide_eq_true e, Bool.true_or, Option.isSome_some]
    · rw [valV_neg e, decide_eq_false e, Bool.false_or]; exact valV_any k r
theorem valV_map (k j : κ) (y : V) : ∀ kvs : List (κ × V), valV (kvs.map fun kv => if kv.1 = k then (kv.1, y) else kv) j = (valV kvs j).map fun x => if j = k then y else x
  | [] => rfl
  | p :: r => by
    have ih := valV_map k j y r
    rw [List.map_cons]
    by_cases h : p.1 = k
    · rw [if_pos h]
      by_cases e : p.1 = j
      · rw [valV_pos (p := (p.1, y)) e, valV_pos e, Option.map_some, if_pos (e.symm.trans h)]
      · rw [valV_neg (p := (p.1, y)) e, valV_neg e, ih]
    · rw [if_neg h]
      by_cases e : p.1 = j
      · rw [valV_pos (p := p) e, valV_pos e, Option.map_some, if_neg (fun z => h (e.trans z))]
      · rw [valV_neg (p := p) e, valV_neg e, ih]
theorem valV_snoc (k j : κ) (y : V) : ∀ kvs : List (κ × V), valV kvs k = none → valV (kvs ++ [(k, y)]) j = if j = k then some y else valV kvs j
  | [], _ => by
    by_cases e : k = j
    · rw [if_pos e.symm]; exact valV_pos (p := (k, y)) e
    · rw [if_neg (fun z => e z.symm)]; exact valV_neg (p := (k, y)) e
  | p :: r, hn => by
    rw [List.cons_append]
    have hk : ¬ p.1 = k := fun z => by rw [valV_pos z] at hn; cases hn
    rw [valV_neg hk] at hn
    have ih := valV_snoc k j y r hn
    by_cases e : p.1 = j
    · rw [valV_pos e, valV_pos e, if_neg (fun z => hk (e.trans z))]
    · rw [valV_neg e, valV_neg e, ih]
theorem valV_put (kvs : List (κ × V)) (k j : κ) (y : V) : valV (putK kvs k y) j = if j = k then some y else valV kvs j := by
  unfold putK
  by_cases a : (kvs.any fun kv => decide (kv.1 = k)) = true
  · rw [if_pos a, valV_map]
    rw [valV_any] at a
    by_cases e : j = k
    · obtain ⟨x, hx⟩ := Option.isSome_iff_exists.mp a
      rw [if_pos e, e, hx, Option.map_some, if_pos rfl]
    · rw [if_neg e]
      cases valV kvs j with
      | none => rfl
      | some x => rw [Option.map_some, if_neg e]
  · rw [if_neg a]
    refine valV_snoc k j y kvs ?_
    rw [valV_any] at a
    cases q : valV kvs k with
    | none => rfl
    | some x => rw [q] at a; exact (a rfl).elim
theorem length_putK (kvs : List (κ × V)) (k : κ) (v : V) : (putK kvs k v).length ≤ kvs.length + 1 := by
  unfold putK
  split
  · rw [List.length_map]; omega
  · rw [List.length_append, List.length_cons, List.length_nil]; omega

theorem RelO.isSome_eq {o : Option V} {u : Option Value} (r : RelO o u) : o.isSome = u.isSome := by
  cases o with
  | none => cases u with
    | none => rfl
    | some _ => exact (show False from r).elim
  | some _ => cases u with
    | none => exact (show False from r).elim
    | some _ => rfl
theorem RelO.getD {o : Option V} {u : Option Value} {d : V} {d' : Value} (r : RelO o u) (rd : RelV d d') : RelV (o.getD d) (u.getD d') := by
  cases o with
  | none => cases u with
    | none => exact rd
    | some _ => exact (show False from r).elim
  | some _ => cases u with
    | none => exact (show False from r).elim
    | some _ => exact r

/-- raw tables of the same keys -/
theorem KV.val {kvs : List (κ × V)} {vs : List (κ × Value)} (r : KV kvs vs) (k : κ) : RelO (valV kvs k) (valueAt vs k) := by
  unfold KV at r
  induction r with
  | nil => exact True.intro
  | @cons p q ps qs h t ih =>
    obtain ⟨h1, h2⟩ := h
    by_cases e : p.1 = k
    · have e' : q.1 = k := h1.symm.trans e
      have b : valueAt (q :: qs) k = some q.2 := by simp [valueAt, List.find?_cons, e']
      rw [valV_pos e, b]; exact h2
    · have e' : ¬ q.1 = k := fun z => e (h1.trans z)
      have b : valueAt (q :: qs) k = valueAt qs k := by simp [valueAt, List.find?_cons, e']
      rw [valV_neg e, b]; exact ih
theorem KV.any {kvs : List (κ × V)} {vs : List (κ × Value)} (r : KV kvs vs) (k : κ) : (kvs.any fun kv => decide (kv.1 = k)) = vs.any fun kv => decide (kv.1 = k) := by
  unfold KV at r
  induction r with
  | nil => rfl
  | cons h t ih => rw [List.any_cons, List.any_cons, ih, h.1]
theorem KV.repl {kvs : List (κ × V)} {vs : List (κ × Value)} (r : KV kvs vs) (k : κ) {y : V} {u : Value} (ry : RelV y u) :
    KV (kvs.map fun kv => if kv.1 = k then (kv.1, y) else kv) (vs.map fun kv => if kv.1 = k then (kv.1, u) else kv) := by
  unfold KV at r ⊢
  induction r with
  | nil => exact .nil
  | @cons p q ps qs h t ih =>
    rw [List.map_cons, List.map_cons]
    refine .cons ?_ ih
    obtain ⟨h1, h2⟩ := h
    by_cases e : p.1 = k
    · rw [if_pos e, if_pos (h1.symm.trans e)]; exact ⟨h1, ry⟩
    · rw [if_neg e, if_neg (fun z => e (h1.trans z))]; exact ⟨h1, h2⟩
theorem KV.put {kvs : List (κ × V)} {vs : List (κ × Value)} (r : KV kvs vs) (k : κ) {y : V} {u : Value} (ry : RelV y u) : KV (putK kvs k y) (stored vs k u) := by
  unfold putK stored
  rw [r.any k]
  by_cases e : (vs.any fun kv => decide (kv.1 = k)) = true
  · rw [if_pos e, if_pos e]; exact r.repl k ry
  · rw [if_neg e, if_neg e]; exact Paired.snoc r ⟨rfl, ry⟩
theorem KV.length {kvs : List (κ × V)} {vs : List (κ × Value)} (r : KV kvs vs) : kvs.length = vs.length := Paired.length r
end


/-! ### a tracked dict, its keys ints and texts or tuples of these -/
theorem kV_is {P : Program} {w : World} {k : Key} {u : Value} (r : RelV (kV k) u) : (mixKind P w).is k u = true := by
  cases k with
  | inl i => obtain ⟨t, e⟩ := (show ∃ t, u = Value.int i t from r); subst e; exact mixKind_int P w i t
  | inr x => obtain ⟨t, e⟩ := (show ∃ t, u = Value.str x t from r); subst e; exact mixKind_str P w x t
theorem items_are {P : Program} {w : World} : ∀ {ks : List Key} {us : List Value}, Vals (ks.map kV) us → ItemsAre (mixKind P w) ks us
  | [], _, r => by rw [List.map_nil] at r; cases r; exact .nil
  | k :: ks, _, r => by
    rw [List.map_cons] at r
    cases r with
    | cons h t => exact .cons (kV_is h) (items_are t)

/-- raw entries of a dict with tuple keys -/
abbrev KT (H : Hp) : List (List Key × V) → List (List Key × Addr × Value) → Prop := Paired fun p q => p.1 = q.1 ∧ H q.2.1 = some (.tup (p.1.map kV)) ∧ RelV p.2 q.2.2
theorem KT.val {H : Hp} {kvs : List (List Key × V)} {xs : List (List Key × Addr × Value)} (r : KT H kvs xs) (k : List Key) : RelO (valV kvs k) ((atKey xs k).map (·.2)) := by
  induction r with
  | nil => exact True.intro
  | @cons p q ps qs h t ih =>
    obtain ⟨h1, _, h2⟩ := h
    by_cases e : p.1 = k
    · have e' : q.1 = k := h1.symm.trans e
      have b : atKey (q :: qs) k = some q.2 := by simp [atKey, List.find?_cons, e']
      rw [valV_pos e, b]; exact h2
    · have e' : ¬ q.1 = k := fun z => e (h1.trans z)
      have b : atKey (q :: qs) k = atKey qs k := by simp [atKey, List.find?_cons, e']
      rw [valV_neg e, b]; exact ih
theorem KT.repl {H : Hp} {kvs : List (List Key × V)} {xs : List (List Key × Addr × Value)} (r : KT H kvs xs) (k : List Key) {y : V} {u : Value} (ry : RelV y u) :
    KT H (kvs.map fun kv => if kv.1 = k then (kv.1, y) else kv) (xs.map (putAt k u)) := by
  induction r with
  | nil => exact .nil
  | @cons p q ps qs h t ih =>
    rw [List.map_cons, List.map_cons]
    refine .cons ?_ ih
    obtain ⟨h1, h2, h3⟩ := h
    unfold putAt
    by_cases e : p.1 = k
    · rw [if_pos e, if_pos (h1.symm.trans e)]; exact ⟨h1, h2, ry⟩
    · rw [if_neg e, if_neg (fun z => e (h1.trans z))]; exact ⟨h1, h2, h3⟩
theorem KT.put {H : Hp} {kvs : List (List Key × V)} {xs : List (List Key × Addr × Value)} (r : KT H kvs xs) (k : List Key) {b : Addr} {y : V} {u : Value} (hb : H b = some (.tup (k.map kV))) (ry : RelV y u) :
    KT H (putK kvs k y) (storedH xs k b u) := by
  have e : (kvs.any fun kv => decide (kv.1 = k)) = (atKey xs k).isSome := by
    rw [valV_any, (r.val k).isSome_eq, Option.isSome_map]
  unfold putK storedH
  rw [e]
  by_cases q : (atKey xs k).isSome = true
  · rw [if_pos q, if_pos q]; exact r.repl k ry
  · rw [if_neg q, if_neg q]; exact Paired.snoc r ⟨rfl, hb, ry⟩
theorem KT.keeps {H H' : Hp} {kvs : List (List Key × V)} {xs : List (List Key × Addr × Value)} (r : KT H kvs xs) (ht : ∀ b ys, H b = some (.tup ys) → H' b = some (.tup ys)) : KT H' kvs xs :=
  Paired.mapP r fun _ _ z => ⟨z.1, ht _ _ z.2.1, z.2.2⟩

section
variable {P : Program} {w : World} {H : Hp} {h : Heap} {a : Addr}
theorem rd_of {u : HO} (ok : HOk P w H h) (e : Rd H a u) : ObjOk P w H h a u := e.ok ok
theorem dk_rd {kvs : List (Key × V)} (ok : HOk P w H h) (e : Rd H a (.dK kvs)) : kvs.length ≤ sizeLine ∧ (a == sysModules) = false ∧ ∃ vs, KV kvs vs ∧ h.DictOf (mixKind P w) a vs :=
  show ObjOk P w H h a (.dK kvs) from rd_of ok e
theorem dk_of {kvs : List (Key × V)} (ok : HOk P w H h) (e : H a = some (.dK kvs)) : kvs.length ≤ sizeLine ∧ (a == sysModules) = false ∧ ∃ vs, KV kvs vs ∧ h.DictOf (mixKind P w) a vs := dk_rd ok (.inl e)
/-- a tracked tuple of ints and texts is a key -/
theorem key_of {ks : List Key} (ok : HOk P w H h) (e : H a = some (.tup (ks.map kV))) : (tupleKind (mixKind P w)).is h ks a := by
  obtain ⟨_, its, r, o, h1, h2, n, h3⟩ := (show ObjOk P w H h a (.tup (ks.map kV)) from ok a _ e)
  exact ⟨o, its.toArray, n, h1, h2, h3, by simpa using items_are r⟩
theorem dt_rd {kvs : List (List Key × V)} (ok : HOk P w H h) (e : Rd H a (.dT kvs)) : kvs.length ≤ sizeLine ∧ (a == sysModules) = false ∧
    ∃ xs, KT H kvs xs ∧ h.DictOfH (tupleKind (mixKind P w)) a xs := by
  obtain ⟨z, y, xs, r, o, es, ep, h1, h2, h3, h4, h5⟩ := (show ObjOk P w H h a (.dT kvs) from rd_of ok e)
  refine ⟨z, y, xs, r, o, es, ep, h1, h2, h3, h4, fun x hx => ?_, h5⟩
  have all : ∀ {l : List (List Key × V)} {m : List (List Key × Addr × Value)}, KT H l m → ∀ x ∈ m, (tupleKind (mixKind P w)).is h x.1 x.2.1 := by
    intro l m q
    induction q with
    | nil => intro x hx; exact nomatch hx
    | @cons p q ps qs hq t ih =>
      intro x hx
      rcases List.mem_cons.mp hx with e | hx
      · subst e
        exact key_of ok (by rw [← hq.1]; exact hq.2.1)
      · exact ih x hx
  exact all r x hx
theorem dt_of {kvs : List (List Key × V)} (ok : HOk P w H h) (e : H a = some (.dT kvs)) : kvs.length ≤ sizeLine ∧ (a == sysModules) = false ∧
    ∃ xs, KT H kvs xs ∧ h.DictOfH (tupleKind (mixKind P w)) a xs := dt_rd ok (.inl e)
end

/-- what the dict at a holds at the key y -/
def DGet (H : Hp) (a : Addr) (y : V) (r : Option V) : Prop :=
  (∃ kvs k, Rd H a (.dK kvs) ∧ y = kV k ∧ r = valV kvs k) ∨ ∃ kvs k b, Rd H a (.dT kvs) ∧ y = .ref b ∧ H b = some (.tup (k.map kV)) ∧ r = valV kvs k
/-- the heap behind a[y] = v -/
def DPut (H : Hp) (a : Addr) (y v : V) (H' : Hp) : Prop :=
  (∃ kvs k, H a = some (.dK kvs) ∧ y = kV k ∧ kvs.length < sizeLine ∧ H' = upd H a (.dK (putK kvs k v))) ∨
  ∃ kvs k b, H a = some (.dT kvs) ∧ y = .ref b ∧ H b = some (.tup (k.map kV)) ∧ kvs.length < sizeLine ∧ H' = upd H a (.dT (putK kvs k v))
theorem DGet.t {H : Hp} {a b : Addr} {kvs : List (List Key × V)} {k : List Key} (e : H a = some (.dT kvs)) (eb : H b = some (.tup (k.map kV))) : DGet H a (.ref b) (valV kvs k) := .inr ⟨kvs, k, b, .inl e, rfl, eb, rfl⟩
theorem DPut.t {H : Hp} {a b : Addr} {kvs : List (List Key × V)} {k : List Key} {v : V} (e : H a = some (.dT kvs)) (eb : H b = some (.tup (k.map kV))) (hl : kvs.length < sizeLine) :
    DPut H a (.ref b) v (upd H a (.dT (putK kvs k v))) := .inr ⟨kvs, k, b, e, rfl, eb, hl, rfl⟩


section
variable {X : Cx} {pins : List (Addr × Obj)} {σ : St} {H : Hp} {s : Shared} {a : Addr} {y v : V} {u r : Value} {o : Option V} {A : Around} {E : Value → Shared → Prop}

theorem Inv.big (I : Inv X pins σ H s) : sysModules < s.heap.objs.size := by
  have h : mainGlobals < s.heap.objs.size := (I.mod.glob.keeps I.bk).lt
  exact Nat.lt_trans (by decide) h

/-- a dict's object is replaced -/
theorem d_write {h' : Heap} {t' : Nat} {ob : HO} (I : Inv X pins σ H s) (mu : Mut (H a)) (hs : Heap.SameBut a s.heap h') (he : ∃ q, h'.get? a = some q) (new : ObjOk X.prog X.w (upd H a ob) h' a ob) :
    Inv X pins σ (upd H a ob) { s with heap := h', toks := t' } :=
  I.write (x := a) (e := a) mu (.inl rfl) (fun b q hb z => (hs.2 b hb).trans z) he new
theorem dk_new {P : Program} {w : World} {H' : Hp} {h' : Heap} {kvs : List (Key × V)} {vs : List (Key × Value)} (z : kvs.length ≤ sizeLine) (hd : (a == sysModules) = false) (rel : KV kvs vs) (dd : h'.DictOf (mixKind P w) a vs) :
    ObjOk P w H' h' a (.dK kvs) := ⟨z, hd, vs, rel, dd⟩
/-- d[y] = v -/
theorem d_setItem {H' : Hp} {Q : Unit → Shared → Prop} (hu : A.units + 1 < cLine) (I : Inv X pins σ H s) (g : DPut H a y v H') (ry : RelV y u) (rv : RelV v r) (h : ∀ s', Inv X pins σ H' s' → Q () s') :
    wpAny (model X.prog X.w) A (setItem (.ref a) u r) Q E s := by
  rcases g with ⟨kvs, k, e, ey, l, eH⟩ | ⟨kvs, k, b, e, ey, eb, l, eH⟩
  · subst ey eH
    obtain ⟨z, hd, vs, rel, dd⟩ := dk_of I.hok e
    have hz : vs.length ≤ sizeLine := by rw [← rel.length]; exact z
    have hl : (putK kvs k v).length ≤ sizeLine := by have := length_putK kvs k v; omega
    refine wpAny_setItem_pairs (hsz := hz) (kV_is ry) dd fun h' dd' hs => h _ ?_
    have he : ∃ q, h'.get? a = some q := let ⟨q, _, _, hq, _⟩ := dd'; ⟨q, hq⟩
    exact d_write I (by rw [e]; exact True.intro) hs he (dk_new hl hd (rel.put k rv) dd')
  · subst ey eH
    cases (show u = Value.ref b from ry)
    obtain ⟨z, hd, xs, rel, dd⟩ := dt_of I.hok e
    have hz : xs.length ≤ sizeLine := by rw [← Paired.length rel]; exact z
    have hl : (putK kvs k v).length ≤ sizeLine := by have := length_putK kvs k v; omega
    refine wpAny_setItem_heap (hsz := hz) (tupleKind_room_in1 hu) (key_of I.hok eb) dd fun h' dd' hs => h _ ?_
    obtain ⟨q, es, ep, hq, h2, h3, h4, _, h5⟩ := dd'
    refine d_write I (by rw [e]; exact True.intro) hs ⟨q, hq⟩ ⟨hl, hd, _, (rel.put k eb rv).keeps fun c ys ec => ?_, q, es, ep, hq, h2, h3, h4, h5⟩
    rw [upd_ne (ne_of ec e (fun z => nomatch z))]
    exact ec
end

section
variable {X : Cx} {pins : List (Addr × Obj)} {σ : St} {H : Hp} {s : Shared} {a : Addr} {kvs : List (Key × V)} {k : Key} {u : Value} {A : Around} {E : Value → Shared → Prop}
end


/-! ### readings and rules -/


/-- d[y] = v -/
def sDPut (td ty tv : TE) : TS := fun D σ H => tv σ H fun v H1 => td σ H1 fun x H2 => ty σ H2 fun y H3 => ∃ a H4, x = .ref a ∧ DPut H3 a y v H4 ∧ D.nx σ H4

section
variable {X : Cx} {o i e value : Expr} {pos pos' tpos : Pos} {td ty tv : TE}
theorem ps_dput (hu : X.A.units + 1 < cLine) (ho : PE X o td) (hi : PE X i ty) (hv : PE X value tv) (hs : swapsWith value (some (.Subscript o i pos')) pos.line X.env = pure false) :
    PS X (.Assign [.Subscript o i pos'] value pos) (sDPut td ty tv) := by
  intro pins s σ H D I h
  refine wpAny_Assign_Subscript (thn (hv pins s σ H _ I h) fun r s1 ⟨v, H1, I1, rv, q1⟩ => thn (ho pins s1 σ H1 _ I1 q1) fun u s2 ⟨x, H2, I2, rx, q2⟩ => thn (hi pins s2 σ H2 _ I2 q2) fun iv s3 ⟨y, H3, I3, ry, a, H4, ex, g, q3⟩ => ?_) hs
  subst ex
  obtain rfl : u = Value.ref a := rx
  exact d_setItem hu I3 g ry rv fun s4 I4 => ⟨σ, H4, I4, q3⟩
end


/-! ### displays -/
theorem dt_empty {P : Program} {w : World} {H : Hp} (h : Heap) (hb : sysModules < h.objs.size) : ObjOk P w H (h.push { cls := .type "dict", data := .dict #[] }) h.objs.size (.dT []) :=
  ⟨Nat.zero_le _, beq_eq_false_iff_ne.mpr (Ne.symm (Nat.ne_of_lt hb)), [], .nil, _, #[], 0, Heap.get?_push_size _ rfl, ⟨rfl, rfl, rfl⟩, rfl, rfl, List.nodup_nil⟩
def tDNewT : TE := fun _ H Q => ∀ p, H p = none → Q (.ref p) (upd H p (.dT []))
section
variable {X : Cx} {pos : Pos}
theorem pe_dnewT : PE X (.Dict [] [] pos) tDNewT := fun pins s σ H Q I h =>
  wpAny_Dict_empty ⟨.ref s.heap.objs.size, _, I.laid (a := s.heap.objs.size) (o := .dT []) (t' := s.toks) (fun _ _ q => Heap.get?_push_of_some _ q) (Nat.le_refl _) (dt_empty s.heap I.big), rfl, h _ (I.hok.fresh (Nat.le_refl _))⟩
end




/-! ### methods -/
structure M2 (X : Cx) (o : Expr) (m : Str) (apos : Pos) (e f : Expr) (cpos : Pos) : Prop where
  base : attributeBase o m X.env (eval o X.env) = eval o X.env
  few : ((backTo cpos (starEach [e, f] X.env)).all (fun x => !x.1) && (backToKw cpos (keywordEach [] X.env)).all (fun x => x.1.isSome)
    && decide (([e, f] : List Expr).length + ([] : List Keyword).length + (if ([] : List Keyword).isEmpty then 0 else 1) < 30)) = true
  line : (apos.endLine == cpos.line) = true
  trees : backTo cpos (starEach [e, f] X.env) = [(false, eval e X.env), (false, eval f X.env)]

/-- a is a dict, whatever its keys -/
def IsD (H : Hp) (a : Addr) : Prop := (∃ kvs, Rd H a (.dK kvs)) ∨ ∃ kvs, Rd H a (.dT kvs)
theorem isD_at {X : Cx} {pins : List (Addr × Obj)} {σ : St} {H : Hp} {s : Shared} {a : Addr} (I : Inv X pins σ H s) (d : IsD H a) :
    s.TypeIs (.ref a) "dict" ∧ (∀ b, Value.ref a = .ref b → ∃ ob, s.heap.get? b = some ob ∧ ob.dict = none) ∧ (a == sysModules) = false := by
  rcases d with ⟨kvs, e⟩ | ⟨kvs, e⟩
  · obtain ⟨_, hd, vs, _, dd⟩ := dk_rd I.hok e
    refine ⟨dd.typeIs, fun b q => ?_, hd⟩
    cases q
    obtain ⟨ob, _, _, h1, h2, _⟩ := dd
    exact ⟨ob, h1, h2.2.1⟩
  · obtain ⟨_, hd, xs, _, dd⟩ := dt_rd I.hok e
    refine ⟨dd.typeIs, fun b q => ?_, hd⟩
    cases q
    obtain ⟨ob, _, _, h1, h2, _⟩ := dd
    exact ⟨ob, h1, h2.2.1⟩

section
variable {X : Cx} {pins : List (Addr × Obj)} {σ : St} {H : Hp} {s : Shared} {a : Addr} {y d : V} {u r : Value} {o : Option V} {A : Around} {E : Value → Shared → Prop}
/-- d.get(y, x) -/
theorem d_get2 {Q : Value → Shared → Prop} (hu : A.units + 1 < cLine) (I : Inv X pins σ H s) (g : DGet H a y o) (ry : RelV y u) (rd : RelV d r) (h : ∀ w' s', Inv X pins σ H s' → RelV (o.getD d) w' → Q w' s') :
    wpAny (model X.prog X.w) A (call (.builtin "dict.get") [.ref a, u, r]) Q E s := by
  rcases g with ⟨kvs, k, e, ey, l⟩ | ⟨kvs, k, b, e, ey, eb, l⟩
  · subst ey
    obtain ⟨z, hd, vs, rel, dd⟩ := dk_rd I.hok e
    refine call_meetsIn PySem.F.slot_dict_get dd.typeIs PySem.F.entry_dict_get (PySem.F.args_dict_get_3 _ _ _) (meets_dict_get_default (mixKind X.prog X.w) a (kV_is ry) hd r) ⟨_, dd.mapOf, h _ _ (I.tok _) ?_⟩
    rw [l]
    exact (rel.val k).getD rd
  · subst ey
    cases (show u = Value.ref b from ry)
    obtain ⟨z, hd, xs, rel, dd⟩ := dt_rd I.hok e
    refine call_meetsIn PySem.F.slot_dict_get dd.typeIs PySem.F.entry_dict_get (PySem.F.args_dict_get_3 _ _ _) (meetsH_dict_get_default (tupleKind (mixKind X.prog X.w)) a b hd r) ⟨tupleKind_room_in1 hu, k, xs, key_of I.hok eb, dd, h _ _ (I.tok _) ?_⟩
    rw [l]
    exact (rel.val k).getD rd
end

def tDGet2 (td ty tx : TE) : TE := fun σ H Q => td σ H fun x H1 => ∃ a, x = .ref a ∧ IsD H1 a ∧ ty σ H1 fun y H2 => tx σ H2 fun z H3 => ∃ o, DGet H3 a y o ∧ Q (o.getD z) H3
section
variable {X : Cx} {o e f : Expr} {apos cpos : Pos} {td ty tx : TE}
theorem pe_dget2 (hu : X.A.units + 1 < cLine) (ho : PE X o td) (he : PE X e ty) (hf : PE X f tx) (m : M2 X o "get" apos e f cpos) : PE X (.Call (.Attribute o "get" apos) [e, f] [] cpos) (tDGet2 td ty tx) := by
  intro pins s σ H Q I h
  refine wpAny_Call_method m.base m.few m.line PySem.F.plainAttrs_dict PySem.F.slot_dict_get PySem.F.type_dict_get (thn (ho pins s σ H _ I h) fun u s1 ⟨x, H1, I1, rx, a, ex, d, q1⟩ => ?_)
  subst ex
  obtain rfl : u = Value.ref a := rx
  obtain ⟨t1, t2, _⟩ := isD_at I1 d
  refine ⟨t1, t2, ?_⟩
  rw [m.trees]
  refine Calls.callWith_builtin rfl (Calls.evalArgs_plain (Calls.spliced_cons (thn (he pins s1 σ H1 _ I1 q1) fun iv s2 ⟨y, H2, I2, ry, q2⟩ =>
    Calls.spliced_cons (thn (hf pins s2 σ H2 _ I2 q2) fun fv s3 ⟨z, H3, I3, rz, ov, g, q3⟩ => Calls.spliced_nil ?_))))
  exact d_get2 hu I3 g ry rz fun w' s4 I4 rw' => ⟨_, H3, I4, rw', q3⟩
end

/-! ### dict(d): a copy -/
section
variable {X : Cx} {pins : List (Addr × Obj)} {σ : St} {H : Hp} {s : Shared} {a : Addr} {kvs : List (Key × V)} {A : Around} {E : Value → Shared → Prop}
end


section
variable {X : Cx} {pins : List (Addr × Obj)} {σ : St} {H : Hp} {s : Shared} {a : Addr} {y : V} {u : Value} {A : Around} {E : Value → Shared → Prop}
end
end L2

namespace L2
open PySem PySem.Spec PyProof.Rows


section
variable {prog : Program} {w : World} {A : Around} {E : Value → Shared → Prop}


end

section
variable {X : Cx}
end
end L2

namespace L2
open PySem PySem.Spec PyProof.Rows


section
variable {X : Cx} {pins : List (Addr × Obj)} {σ : St} {H : Hp} {s : Shared} {h' : Heap}

/-! ### locking a thing while a statement runs -/
end
section
variable {X : Cx}

/-! ### one iterator just laid -/
end

/-! ### range with a step -/
section
variable {X : Cx} {tg : Expr}
end

/-! ### reversed(list) -/
section
variable {X : Cx} {tg : Expr}
end

/-! ### a str -/

/-! ### a dict's keys: any dict's entries -/
section
variable {prog : Program} {w : World} {A : Around} {E : Value → Shared → Prop} {s : Shared}
end

/-! ### a locked dict -/
section
variable {X : Cx} {pins : List (Addr × Obj)} {σ : St} {H : Hp} {s : Shared} {d : Addr} {o : Obj}
end

section
variable {P : Program} {w : World} {K : PySem.W.Frag} {tg : Expr} {d : Addr} {o : Obj} {es : Array DictEntry} {ep : Nat}
end

/-! ### for k in d, d.keys(), d.values(), d.items() -/
section
variable {X : Cx} {tg e : Expr} {td : TE} {apos cpos : Pos}
end

/-! ### enumerate(list) -/
/-! ### zip(list, list) -/
end L2

section 
namespace Bits
open PySem PyProof.Rows








end Bits
end 

section 
namespace TL
open PySem PySem.Builtin PySem.Builtin.Str PySem.StrLaws


/-! ### the list functions -/




/-! ### the model's split and partition are these -/




/-! ### computing spl and par -/


/-! ### digits -/

/-! ### words: x.split() -/
end TL
end 

namespace L2
open PySem PySem.Spec PyProof.Rows




section
variable {X : Cx} {pins : List (Addr × Obj)} {σ : St} {H : Hp} {s : Shared} {Q : VK}
end

section
variable {X : Cx}





/-! ### of a text alone -/

/-! ### of a text and a text -/

end

section
variable {X : Cx} {o e : Expr} {to te : TE}

end
end L2

namespace L2
open PySem PySem.Spec PyProof.Rows

section
variable {X : Cx}
end

/-! ### slices of a text -/


end L2

namespace Att
open PySem PySem.W PySem.Calls PyProof.Rows

/-! ### the script -/



/-! ### the attachment: holds_open's last premise (the goal 'hc' behind k_head) from a wpAny of the law's body -/



/-! ### rules over ANY heap (no ledger) from facts about the written part K: the library's own take a ledger (News) for what they write -/
section
variable {prog : Program} {w : World} {A : Around} {E : Value → Shared → Prop} {s : Shared} {K : Frag}





/-! the whole heap as the ledger: makes every rule that writes through a ledger a rule over any heap -/

end
end Att

namespace L2
open PySem PySem.Spec PyProof.Rows

theorem vals_ints : ∀ {vs : List Value} {ns : List Int}, IntsAre vs ns → Vals (ns.map V.int) vs
  | _, _, .nil => .nil
  | _, _, .cons n t h => .cons ⟨t, rfl⟩ (vals_ints h)

/-- nothing is tracked but the script, known to the object (or it is an object of the module) -/
def Only (H : Hp) : Prop := ∀ b, H b = none ∨ ∃ o xs, H b = some (.frz o (.lst xs))

/-- THE HEAD: the law's promise, at the heap behind the top. F, the promise of the law's def, may use that base is part of the heap (so K.In base, base.Ns mainGlobals mg stand in Mod) -/
theorem law_call {P : Program} {w : World} {K : PySem.W.Frag} {mg mb : Str → Option Value} {CX : CXT} {k : Nat} {fa a : Addr} {fd : FuncData} {x : Str} {sp : Sp} {s₁ : Shared} {vs : List Value} {ns : List Int}
    (KX : K.In s₁.heap) (hns : s₁.heap.Ns mainGlobals mg) (hb : s₁.heap.Ns builtinsNs mb) (hbb : ∀ x : Str, x ≠ "__name__" → mb x = bootBuiltins x) (hlim : s₁.heap.NoLimit) (hg : s₁.gens = #[])
    (ha : s₁.heap.get? a = some { cls := .type "list", data := .seq vs.toArray }) (hi : IntsAre vs ns) (hl : ns.length ≤ sizeLine) (hr : Room k callerA)
    (F : ∀ base : Heap, K.In base → base.Ns mainGlobals mg → FnOk P w K mg base CX k fa fd [x] sp) (hbind : ∀ (s : Shared) (u : Value), BindsTo s fd ⟨[u], []⟩ [(x, u)])
    (hsp : ∀ H : Hp, Only H → SqL K H a (ns.map V.int) → sp [.ref a] H (fun v _ => v = .bl true) fun _ _ _ => False)
    (hCX : ∀ H e s', CX [] H s₁ (fun _ _ _ => False) e s' → False) :
    codeAny (model P w) callerA (.call (.ref fa) ⟨[.ref a], []⟩) (fun r s' => r = .ok (.ret (.bool true)) ∧ OldK s₁.heap s'.heap ∧ s'.os = s₁.os ∧ AllBare s'.gens) s₁ := by
  have rv := vals_ints hi
  have lenV := hi.length
  -- from an abstract heap in which nothing but the script may be tracked
  have core : ∀ H : Hp, Only H → SqL K H a (ns.map V.int) → HOk P w H s₁.heap → (∀ b, H b ≠ none → b = a) → (H a ≠ none → K.lookup a = none) →
      codeAny (model P w) callerA (.call (.ref fa) ⟨[.ref a], []⟩) (fun r s' => r = .ok (.ret (.bool true)) ∧ OldK s₁.heap s'.heap ∧ s'.os = s₁.os ∧ AllBare s'.gens) s₁ := by
    intro H hO hS hok hA hK
    have base_of : ∀ {b : Addr} {o : Obj}, s₁.heap.get? b = some o → H b = none → (hidT s₁.heap H).get? b = some o := fun e n => hidT_get e n
    have noA : ∀ {b : Addr} {o : Obj} {es : Array DictEntry} {ep : Nat}, s₁.heap.get? b = some o → o.data = .dict es ep → H b = none := fun {b o es ep} e d => by
      cases q : H b with
      | none => rfl
      | some u =>
        have e' : b = a := hA b (by rw [q]; simp)
        subst e'
        rw [ha] at e; cases e
        have d' : Data.seq vs.toArray _ = Data.dict es ep := d
        cases d'
    have nsK : ∀ {b : Addr} {m : Str → Option Value}, s₁.heap.Ns b m → (hidT s₁.heap H).Ns b m := fun {b m} ⟨o, es, ep, e, d, r⟩ => ⟨o, es, ep, base_of e (noA e d), d, r⟩
    have hKb : K.In (hidT s₁.heap H) := fun b o e => base_of (KX b o e) (by
      cases q : H b with
      | none => rfl
      | some u =>
        have e' : b = a := hA b (by rw [q]; simp)
        subst e'
        rw [hK (by rw [q]; simp)] at e; cases e)
    have hM : Mod K mg (hidT s₁.heap H) := ⟨hKb, nsK hns, ⟨mb, nsK hb, hbb⟩, let ⟨mc, h1, h2⟩ := hlim; ⟨mc, nsK h1, h2⟩⟩
    have e0 : Env0 P w K mg (hidT s₁.heap H) callerA [] s₁ H := ⟨rfl, hM, fun b o e => of_hidT e, Nat.le_of_eq (hidT_size _ _), trivial, fun b hb => absurd (show b ∈ ([] : List Addr) from hb) (by simp), hok, .of_eq hg⟩
    refine codeAny_mono ((F _ hKb (nsK hns)).run callerA [] s₁ H ⟨[.ref a], []⟩ [.ref a] [.ref a] _ _ hr e0 (hbind s₁ (.ref a)) (.cons rfl .nil) (hsp H hO hS)) fun r s' h => ?_
    cases r with
    | error e => exact (hCX H e s' h).elim
    | ok fl =>
      cases fl with
      | next => exact False.elim h
      | brk => exact False.elim h
      | cont => exact False.elim h
      | ret u =>
        obtain ⟨v, H', os, bare, un, hok', r', q⟩ := h
        have q' : v = .bl true := q
        subst q'
        obtain rfl : u = Value.bool true := r'
        refine ⟨rfl, OldK.of_keep fun b o e => ?_, os, bare⟩
        cases q : H b with
        | none => exact un.keep b o e q (by intro z; exact absurd (show b ∈ ([] : List Addr) from z) (by simp)) (by simp)
        | some u =>
          rcases hO b with z | ⟨ob, xs, z⟩
          · rw [q] at z; cases z
          · have z2 := un.frzs b ob _ z
            obtain ⟨e1, _⟩ := hok b _ z
            obtain ⟨e2, _⟩ := hok' b _ z2
            rw [e] at e1; cases e1
            exact e2
  cases hk : K.lookup a with
  | some o =>
    -- the script is one of the module's own objects
    have e := KX a o hk
    rw [ha] at e
    cases e
    refine core (fun _ => none) (fun _ => .inl rfl) (.inr ⟨_, vs.toArray, _, hk, rfl, rfl, rfl, by rw [List.size_toArray, lenV]; exact hl, by simpa using rv⟩) (fun b u z => by have z' : (none : Option HO) = some u := z; cases z') (fun b z => absurd rfl z) fun z => absurd rfl z
  | none =>
    refine core (fun b => if b = a then some (.frz { cls := .type "list", data := .seq vs.toArray } (.lst (ns.map V.int))) else none) (fun b => ?_) (.inl (.inr ⟨{ cls := .type "list", data := .seq vs.toArray }, if_pos rfl⟩)) (fun b u z => ?_) (fun b z => ?_) fun _ => hk
    · by_cases hb : b = a
      · exact .inr ⟨_, _, if_pos hb⟩
      · exact .inl (if_neg hb)
    · by_cases hb : b = a
      · have z' := (if_pos hb).symm.trans z
        cases z'
        subst hb
        exact ⟨ha, by rw [List.length_map]; exact hl, vs, _, rv, ha⟩
      · have z' := (if_neg hb).symm.trans z
        cases z'
    · by_cases hb : b = a
      · exact hb
      · exact absurd (if_neg hb) z
end L2

namespace L2
open PySem PySem.Spec PyProof.Rows


end L2

/- THE LAST THEOREM (shape; LID, My.* are yours):
   My.Adr: a structure of the addresses that your layer names (classes, functions); My.Txt K t: a structure (Prop) of the equations over K;
   My.txt_mk : {K} {implicit addresses ..} (e1 : nsIn K mainGlobals "law" = some (some (.ref f))) (e2 : K.lookup f = some ⟨oc, od, .func (fnOf "law" "law" params body scope dV kV doc pm an cdv ct), sl⟩) (e3 : codeIn K cdv "law" = true) .. : ∃ t, My.Txt K t

set_option maxRecDepth 100000 in
set_option maxHeartbeats 0 in
theorem PySem.Challenge.cw_LID_holds : PySem.Challenge.rw_LID.Holds := by
  w_on; o_law; k_head; (case hw => w_witness2)
  k_fill
  refine L2.walk_of (l := PySem.Challenge.rw_LID) (n := 63) (k := 40) (x := "script") (CX := fun w => ..) (sp := fun _ => My.sp_law) rfl (by decide) rfl ⟨rfl, by decide, by decide⟩ (fun w h Y => PySem.W.kIn_of Y) ?F ?S ?C
  case F =>
    intro w mg fa h KX G hmg
    have T : ∃ t, My.Txt (L2.KOf KX) t := by
      dsimp only [L2.KOf]                          -- K must stand as «<heap const> w.params» for k_is
      refine' My.txt_mk ?e1 ?e2 ?e3 ..
      (case e1 => PySem.W.k_is)                    -- in the order: a name -> its address -> its object -> its parts
      (case e2 => PySem.W.k_is)
      ..
    obtain ⟨t, T⟩ := T
    have e0 := hmg.symm.trans (PySem.W.mg_of KX G T.law)
    cases e0                                       -- fa is the law's own address
    exact ⟨_, fun s u => .of_eq rfl, fun base kb nb => My.law_fn T kb nb⟩     -- if «.of_eq rfl» comes too early: refine' ⟨_, ?b, fun base kb nb => My.law_fn T kb nb⟩; exact fun s u => .of_eq rfl
  case S => exact fun w H a ns hl hO hS => ..
  case C => exact ..
(the tactic k_is has no namespace: write k_is) -/

/-! SHORT WORDS over the layer: a def of the text, its body, what a loop and a test want. -/
namespace L2
open PySem PySem.Spec PyProof.Rows

/-! ### the text by places -/
/-- the j-th statement of a class's body -/
def inClass (s : Stmt) (j : Nat) : Stmt := match s with
  | .ClassDef _ _ _ body _ _ _ _ _ _ _ => body.getD j (.Pass ⟨0, 0, 0, 0⟩)
  | _ => .Pass ⟨0, 0, 0, 0⟩
def defArgs (s : Stmt) : Arguments := match s with
  | .FunctionDef _ a _ _ _ _ _ _ _ _ => a
  | _ => { posonlyargs := [], args := [], vararg := none, kwonlyargs := [], kw_defaults := [], kwarg := none, defaults := [] }
def defBody (s : Stmt) : List Stmt := match s with
  | .FunctionDef _ _ b _ _ _ _ _ _ _ => b
  | _ => []
def defScope (s : Stmt) : Scope := match s with
  | .FunctionDef _ _ _ _ _ _ sc _ _ _ => sc
  | _ => { kind := .function, names := [], isGenerator := false, isCoroutine := false }

/-! ### no exception leaves a def -/
abbrev CX0 : CXT := fun _ _ _ _ _ _ => False
abbrev E0 : XK := fun _ _ _ => False
theorem pass0 {X : Cx} : Passes CX0 X E0 := fun _ _ _ _ _ _ _ h => h.elim

/-! ### a def (or method) of the text as it stands behind the top -/
structure Fun (K : PySem.W.Frag) (x qual : Str) (st : Stmt) (f : Addr) (fd : FuncData) : Prop where
  ex : ∃ (oc : Value) (od : Option Addr) (kV doc pm : Value) (an : Option Addr) (cdv ct : Value) (osl : Array (Option Value)),
    fd = PySem.W.fnOf x qual (defArgs st) (defBody st) (defScope st) .none kV doc pm an cdv ct ∧ K.lookup f = some ⟨oc, od, .func fd, osl⟩ ∧ PySem.W.codeIn K cdv qual = true
  kp : PySem.W.keepIn K (.ref f) = true
section
variable {P : Program} {w : World} {K : PySem.W.Frag} {mg : Str → Option Value} {base : Heap}
/-- THE RULE for a def: its body as a term of rules, and the reading of that term -/
theorem Fun.ok {x qual : Str} {st : Stmt} {f : Addr} {fd : FuncData} {N ps : List Str} {k : Nat} {sp : Sp} (F : Fun K x qual st f fd) (S : FnScope N ps (defScope st)) (len : ∀ vs H Q E, sp vs H Q E → vs.length = ps.length)
    (hbody : ∀ (cdv : Value) (A : Around) (outer : List Env) (s : Shared) (H : Hp) (vs : List V) (Q : VK) (E : XK), Room k (A.deeper (envOfC qual (defScope st) s.heap.objs.size f cdv)) → sp vs H Q E →
      ∃ t, PSs (cxOf CX0 P w K mg base N qual (defScope st) f cdv A outer s H E).nox (defBody st) t ∧ t { nx := fun _ H' => Q .non H', rt := Q } (start N vs) H) : FnOk P w K mg base CX0 (k + 1) f fd ps sp := by
  obtain ⟨oc, od, kV, doc, pm, an, cdv, ct, osl, rfl, lk, hcd⟩ := F.ex
  refine fn_of lk hcd S len fun A outer s H vs Q E hr hsp => ?_
  obtain ⟨t, h, q⟩ := hbody cdv A outer s H vs Q E hr hsp
  exact ⟨t, h.nox, q⟩
/-- how its arguments bind (no defaults): h is «fun _ _ _ _ _ _ us hl => match us, hl with | [_, _], _ => rfl», one _ a parameter -/
theorem Fun.binds {x qual : Str} {st : Stmt} {f : Addr} {fd : FuncData} {ps : List Str} (F : Fun K x qual st f fd)
    (h : ∀ (kV doc pm : Value) (an : Option Addr) (cdv ct : Value) (us : List Value), us.length = ps.length → bindArgs (PySem.W.fnOf x qual (defArgs st) (defBody st) (defScope st) .none kV doc pm an cdv ct) ⟨us, []⟩ = pure (ps.zip us)) : Binds K fd ps [] := by
  obtain ⟨oc, od, kV, doc, pm, an, cdv, ct, osl, rfl, lk, hcd⟩ := F.ex
  exact .all (h kV doc pm an cdv ct)
theorem fun_mk {x qual : Str} {st : Stmt} {f : Addr} {oc : Value} {od an : Option Addr} {osl : Array (Option Value)} {kV doc pm cdv ct : Value} (l : K.lookup f = some ⟨oc, od, .func (PySem.W.fnOf x qual (defArgs st) (defBody st) (defScope st) .none kV doc pm an cdv ct), osl⟩)
    (c : PySem.W.codeIn K cdv qual = true) (k : PySem.W.keepIn K (.ref f) = true) : Fun K x qual st f (PySem.W.fnOf x qual (defArgs st) (defBody st) (defScope st) .none kV doc pm an cdv ct) := ⟨⟨oc, od, kV, doc, pm, an, cdv, ct, osl, rfl, l, c⟩, k⟩
end
theorem hu_of {A : Around} {k : Nat} (hr : Room k A) : A.units + 1 < cLine := Nat.lt_of_le_of_lt (Nat.add_le_add_left (by decide : 1 ≤ 64) _) hr.units

/-! ### expressions in short: the name that stands in the i-th slot -/
section
variable {X : Cx}
theorem pv (i : Nat) {x : Str} {pos : Pos} (hN : X.N[i]? = some x := by rfl) (hv : Vis X.env.scope x := by first | exact Or.inl rfl | exact Or.inr (Or.inl rfl) | exact Or.inr (Or.inr rfl)) (hd : (x == ("__debug__" : Str)) = false := by decide)
    (hcd : (x == ("__classdict__" : Str)) = false := by decide) : PE X (.Name x pos) (tVar i) := pe_var hN hv hd hcd
end

/-! ### tests -/
theorem iteF {A B : Prop} (h : B) : if false = true then A else B := by
  rw [if_neg Bool.false_ne_true]
  exact h
theorem iteT {A B : Prop} (h : A) : if true = true then A else B := by
  rw [if_pos rfl]
  exact h

/-! ### heaps -/
/-- all that was tracked is as it was -/
def Same (H H' : Hp) : Prop := ∀ b o, H b = some o → H' b = some o
theorem Same.refl (H : Hp) : Same H H := fun _ _ h => h
theorem Same.trans {H H1 H2 : Hp} (a : Same H H1) (b : Same H1 H2) : Same H H2 := fun c o h => b c o (a c o h)
theorem Same.free {H H' : Hp} (e : Same H H') {l : Addr} (h : H' l = Option.none) : H l = Option.none := by
  cases q : H l with
  | none => rfl
  | some o =>
    rw [e l o q] at h
    cases h
theorem Same.seq {K : PySem.W.Frag} {H H' : Hp} {a : Addr} {xs : List V} (e : Same H H') (h : SqL K H a xs) : SqL K H' a xs := by
  rcases h with (h | ⟨o, h⟩) | h
  · exact .inl (.inl (e _ _ h))
  · exact .inl (.inr ⟨o, e _ _ h⟩)
  · exact .inr h

/-! ### a dict's pairs: keys that differ -/
section
variable {κ : Type} [DecidableEq κ]
theorem nd_snoc : ∀ {l : List κ} {k : κ}, l.Nodup → ¬ k ∈ l → (l ++ [k]).Nodup
  | [], k, _, _ => by simp
  | a :: r, k, h, hk => by
    obtain ⟨h1, h2⟩ := List.nodup_cons.mp h
    show (a :: (r ++ [k])).Nodup
    refine List.nodup_cons.mpr ⟨fun m => ?_, nd_snoc h2 fun m => hk (List.mem_cons.mpr (Or.inr m))⟩
    rcases List.mem_append.mp m with q | q
    · exact h1 q
    · exact hk (List.mem_cons.mpr (Or.inl (List.mem_singleton.mp q).symm))
end
/-! ### lists -/
theorem at_of {xs : List V} {z : Int} {j : Nat} {v : V} (e : z = (j : Int)) (h : xs[j]? = some v) : atI xs z = some v := by
  rw [e]
  exact atI_nat h
/-- a new instance and its __init__ leave all that was tracked as it was -/
theorem Same.made {H H1 : Hp} {x dx C : Addr} (nx : H x = Option.none) (nd : H dx = Option.none) (k : ∀ b o, (upd (upd H dx (.own x)) x (.ins C dx [])) b = some o → b ≠ x → H1 b = some o) : Same H H1 := fun b o e =>
  k b o (by rw [upd_ne (ne_of_none e nx), upd_ne (ne_of_none e nd)]; exact e) (ne_of_none e nx)
end L2

namespace L2
open PySem PySem.Spec PyProof.Rows
open PySem.W (WData Codec OpenSpec Well WellAll ReadsW ReadsAllW)
/-! ### an answer as data -/
mutual
/-- x stands for the datum d, lists and tuples all the way -/
inductive Dw (K : PySem.W.Frag) (H : Hp) : V → WData → Prop
  | non : Dw K H .non .none
  | bl (b : Bool) : Dw K H (.bl b) (.bool b)
  | int (i : Int) : Dw K H (.int i) (.int i)
  | str (x : Str) : Dw K H (.str x) (.str x)
  | byt (b : Array UInt8) : Dw K H (.byt b) (.bytes b.toList)
  | lst {a : Addr} {xs : List V} {ds : List WData} : SqL K H a xs → DwAll K H xs ds → Dw K H (.ref a) (.list ds)
  | tup {a : Addr} {xs : List V} {ds : List WData} : SqT K H a xs → DwAll K H xs ds → Dw K H (.ref a) (.tuple ds)
inductive DwAll (K : PySem.W.Frag) (H : Hp) : List V → List WData → Prop
  | nil : DwAll K H [] []
  | cons {v : V} {vs : List V} {d : WData} {ds : List WData} : Dw K H v d → DwAll K H vs ds → DwAll K H (v :: vs) (d :: ds)
end
theorem dw_ints {K : PySem.W.Frag} {H : Hp} : ∀ ns : List Int, DwAll K H (ns.map V.int) (ns.map WData.int)
  | [] => .nil
  | n :: r => .cons (.int n) (dw_ints r)
theorem ints_dw {K : PySem.W.Frag} {H : Hp} : ∀ (ns : List Int) (xs : List V), DwAll K H xs (ns.map WData.int) → xs = ns.map V.int
  | [], xs, h => by
    cases h
    rfl
  | n :: r, xs, h => by
    cases h with
    | cons h1 h2 =>
      cases h1
      rw [ints_dw r _ h2] <;> rfl
section
variable {P : Program} {w : World} {K : PySem.W.Frag} {H : Hp} {h : Heap} {R : PySem.W.WRecords} {cl : Str → Option Addr}
theorem sqL_at {a : Addr} {xs : List V} (hok : HOk P w H h) (KX : K.In h) (q : SqL K H a xs) : ∃ (its : List Value) (o : Obj) (n : Nat), Vals xs its ∧ h.get? a = some o ∧ o.cls = .type "list" ∧ o.data = .seq its.toArray n := by
  rcases q with q | ⟨o, its, n, e, hc, _, hd, _, hv⟩
  · obtain ⟨_, its, n, hv, e⟩ := (show ObjOk P w H h a (.lst xs) from q.ok hok)
    exact ⟨its, _, n, hv, e, rfl, rfl⟩
  · exact ⟨its.toList, o, n, hv, KX _ _ e, hc, by simp [hd]⟩
theorem sqT_at {a : Addr} {xs : List V} (hok : HOk P w H h) (KX : K.In h) (q : SqT K H a xs) : ∃ (its : List Value) (o : Obj) (n : Nat), Vals xs its ∧ h.get? a = some o ∧ o.cls = .type "tuple" ∧ o.data = .seq its.toArray n := by
  rcases q with q | ⟨o, its, n, e, hc, hd, _, hv⟩
  · obtain ⟨_, its, hv, o, e, hc, n, hd⟩ := (show ObjOk P w H h a (.tup xs) from q.ok hok)
    exact ⟨its, o, n, hv, e, hc, hd⟩
  · exact ⟨its.toList, o, n, hv, KX _ _ e, hc, by simp [hd]⟩
mutual
theorem Dw.reads (hok : HOk P w H h) (KX : K.In h) : ∀ (d : WData) (v : V) (u : Value), Dw K H v d → RelV v u → ∃ as, ReadsW R cl h u d as
  | .none, _, _, x, r => by
    cases x
    cases r
    exact ⟨_, ReadsW.none⟩
  | .bool b, _, _, x, r => by
    cases x
    cases r
    exact ⟨_, ReadsW.bool b⟩
  | .int i, _, _, x, r => by
    cases x
    obtain ⟨t, rfl⟩ := r
    exact ⟨_, ReadsW.int i t⟩
  | .str s, _, _, x, r => by
    cases x
    obtain ⟨t, rfl⟩ := r
    exact ⟨_, ReadsW.str s t⟩
  | .bytes b, _, _, x, r => by
    cases x
    obtain ⟨t, rfl⟩ := r
    exact ⟨_, ReadsW.bytes _ t⟩
  | .list ds, _, _, x, r => by
    cases x with
    | lst hs ha =>
      cases r
      obtain ⟨its, o, n, rv, ho, hc, hd⟩ := sqL_at hok KX hs
      obtain ⟨as, hr⟩ := Dw.readsAll hok KX ds _ its ha rv
      exact ⟨_, ReadsW.list ho hc hd hr⟩
  | .tuple ds, _, _, x, r => by
    cases x with
    | tup hs ha =>
      cases r
      obtain ⟨its, o, n, rv, ho, hc, hd⟩ := sqT_at hok KX hs
      obtain ⟨as, hr⟩ := Dw.readsAll hok KX ds _ its ha rv
      exact ⟨_, ReadsW.tuple ho hc hd hr⟩
  | .float _, _, _, x, _ => by cases x
  | .dict _, _, _, x, _ => by cases x
  | .bytearray _, _, _, x, _ => by cases x
  | .set _, _, _, x, _ => by cases x
  | .frozenset _, _, _, x, _ => by cases x
  | .obj _ _, _, _, x, _ => by cases x
theorem Dw.readsAll (hok : HOk P w H h) (KX : K.In h) : ∀ (ds : List WData) (vs : List V) (us : List Value), DwAll K H vs ds → Vals vs us → ∃ as, ReadsAllW R cl h us ds as
  | [], _, _, x, r => by
    cases x
    cases r
    exact ⟨_, ReadsAllW.nil⟩
  | d :: ds, _, _, x, r => by
    cases x with
    | cons h1 h2 =>
      cases r with
      | cons r1 r2 =>
        obtain ⟨as, q1⟩ := Dw.reads hok KX d _ _ h1 r1
        obtain ⟨bs, q2⟩ := Dw.readsAll hok KX ds _ _ h2 r2
        exact ⟨_, ReadsAllW.cons q1 q2⟩
end
end
/-! ### the arguments -/
mutual
/-- data that a codec tells -/
def plW : WData → Bool
  | .none => true
  | .bool _ => true
  | .int _ => true
  | .str _ => true
  | .bytes _ => true
  | .list xs => plWs xs
  | .tuple xs => plWs xs
  | _ => false
def plWs : List WData → Bool
  | [] => true
  | x :: r => plW x && plWs r
end
theorem plWs_map {α : Type} {f : α → WData} (h : ∀ a, plW (f a) = true) : ∀ l : List α, plWs (l.map f) = true
  | [] => rfl
  | x :: r => by
    show (plW (f x) && plWs (r.map f)) = true
    rw [h x, plWs_map h r] <;> rfl
theorem pl_enc : ∀ (c : Codec) (a : c.denote), plW (c.enc a) = true
  | .unit, _ => rfl
  | .bool, _ => rfl
  | .int _ _, _ => rfl
  | .nat _ _, _ => rfl
  | .u8, _ => rfl
  | .bytes _ _, _ => rfl
  | .text _ _ _ _, _ => rfl
  | .list _ _ c, a => plWs_map (fun x => pl_enc c x) a
  | .pair c d, a => by
    show (plW (c.enc a.1) && (plW (d.enc a.2) && true)) = true
    rw [pl_enc c a.1, pl_enc d a.2] <;> rfl
  | .triple c d e, a => by
    show (plW (c.enc a.1) && (plW (d.enc a.2.1) && (plW (e.enc a.2.2) && true))) = true
    rw [pl_enc c a.1, pl_enc d a.2.1, pl_enc e a.2.2] <;> rfl
  | .option c, none => rfl
  | .option c, some x => pl_enc c x
theorem pl_encAll : ∀ (cs : List Codec) (a : Codec.denoteAll cs), plWs (Codec.encAll cs a) = true
  | [], _ => rfl
  | c :: cs, a => by
    show (plW (c.enc a.1) && plWs (Codec.encAll cs a.2)) = true
    rw [pl_enc c a.1, pl_encAll cs a.2] <;> rfl
theorem weight_mem : ∀ {xs : List WData} {d : WData}, d ∈ xs → d.weight ≤ WData.weightAll xs
  | [], d, h => absurd h (by simp)
  | x :: r, d, h => by
    show d.weight ≤ x.weight + 1 + WData.weightAll r
    rcases List.mem_cons.mp h with e | m
    · rw [e]
      omega
    · have z := weight_mem m
      omega
def toV : Value → V
  | .none => .non
  | .bool b => .bl b
  | .int i _ => .int i
  | .str x _ => .str x
  | .bytes b _ => .byt b
  | .ref a => .ref a
  | _ => .non
/-- a value of the arguments, its objects among A -/
def OkU (A : List Addr) : Value → Prop
  | .none => True
  | .bool _ => True
  | .int _ _ => True
  | .str _ _ => True
  | .bytes _ _ => True
  | .ref a => a ∈ A
  | _ => False
theorem OkU.mono {A B : List Addr} (h : ∀ a ∈ A, a ∈ B) : ∀ {u : Value}, OkU A u → OkU B u := fun {u} x => by
  cases u with
  | ref a => exact h a x
  | none => trivial
  | bool b => trivial
  | int i t => trivial
  | str s t => trivial
  | bytes b t => trivial
  | _ => exact False.elim x
theorem relV_toV {A : List Addr} {u : Value} (x : OkU A u) : RelV (toV u) u := by
  cases u with
  | ref a => rfl
  | none => rfl
  | bool b => rfl
  | int i t => exact ⟨t, rfl⟩
  | str s t => exact ⟨t, rfl⟩
  | bytes b t => exact ⟨t, rfl⟩
  | _ => exact False.elim x
theorem vals_toV {A : List Addr} : ∀ {vs : List Value}, (∀ u ∈ vs, OkU A u) → Vals (vs.map toV) vs
  | [], _ => .nil
  | u :: r, h => .cons (relV_toV (h u (List.mem_cons_self ..))) (vals_toV fun x hx => h x (List.mem_cons_of_mem _ hx))
/-- an object of the arguments -/
def ArgOb (h : Heap) (A : List Addr) (a : Addr) : Prop := ∃ vs : List Value, vs.length ≤ sizeLine ∧ (∀ u ∈ vs, OkU A u) ∧
  (h.get? a = some { cls := .type "list", data := .seq vs.toArray } ∨ h.get? a = some { cls := .type "tuple", data := .seq vs.toArray })
theorem ArgOb.mono {h : Heap} {A B : List Addr} {a : Addr} (k : ∀ a ∈ A, a ∈ B) (x : ArgOb h A a) : ArgOb h B a := by
  obtain ⟨vs, h1, h2, h3⟩ := x
  exact ⟨vs, h1, fun u hu => (h2 u hu).mono k, h3⟩
theorem wellAll_len {P : Params} {h : Heap} : ∀ {vs : List Value} {ds : List WData}, WellAll P h vs ds → vs.length = ds.length
  | _, _, .nil => rfl
  | _, _, .cons _ b => by
    show _ + 1 = _ + 1
    rw [wellAll_len b]
theorem well_list {P : Params} {h : Heap} {v : Value} {ds : List WData} (x : Well P h v (.list ds)) : ∃ (a : Addr) (vs : List Value), v = .ref a ∧ h.get? a = some { cls := .type "list", data := .seq vs.toArray } ∧ WellAll P h vs ds := by
  cases x with
  | list ho hall => exact ⟨_, _, rfl, ho, hall⟩
theorem well_tuple {P : Params} {h : Heap} {v : Value} {ds : List WData} (x : Well P h v (.tuple ds)) : ∃ (a : Addr) (vs : List Value), v = .ref a ∧ h.get? a = some { cls := .type "tuple", data := .seq vs.toArray } ∧ WellAll P h vs ds := by
  cases x with
  | tuple ho hall => exact ⟨_, _, rfl, ho, hall⟩
theorem well_cons {P : Params} {h : Heap} {us : List Value} {d : WData} {ds : List WData} (x : WellAll P h us (d :: ds)) : ∃ (v : Value) (vs : List Value), us = v :: vs ∧ Well P h v d ∧ WellAll P h vs ds := by
  cases x with
  | cons a b => exact ⟨_, _, rfl, a, b⟩
theorem line_of {n : Nat} (h : n ≤ 1048576) : n ≤ sizeLine := Nat.le_trans h (by decide)
section
variable {P : Params} {h : Heap}
mutual
theorem area_one : ∀ (d : WData) (v : Value), Well P h v d → plW d = true → d.weight ≤ 1048576 → ∃ A : List Addr, OkU A v ∧ ∀ a ∈ A, ArgOb h A a
  | .none, _, x, _, _ => by
    cases x
    exact ⟨[], trivial, fun a m => absurd m (by simp)⟩
  | .bool b, _, x, _, _ => by
    cases x
    exact ⟨[], trivial, fun a m => absurd m (by simp)⟩
  | .int i, _, x, _, _ => by
    cases x
    exact ⟨[], trivial, fun a m => absurd m (by simp)⟩
  | .str s, _, x, _, _ => by
    cases x
    exact ⟨[], trivial, fun a m => absurd m (by simp)⟩
  | .bytes b, _, x, _, _ => by
    cases x
    exact ⟨[], trivial, fun a m => absurd m (by simp)⟩
  | .list ds, _, x, p, z => by
    obtain ⟨a, vs, rfl, ho, hall⟩ := well_list x
    have z2 : WData.weightAll ds ≤ 1048576 := z
    obtain ⟨A, h1, h2⟩ := area_all ds _ hall p fun d hd => Nat.le_trans (weight_mem hd) z2
    have k : ∀ b ∈ A, b ∈ a :: A := fun b hb => List.mem_cons_of_mem _ hb
    refine ⟨a :: A, List.mem_cons_self .., fun b hb => ?_⟩
    rcases List.mem_cons.mp hb with e | m
    · rw [e]
      exact ⟨vs, line_of (by rw [wellAll_len hall]; exact Nat.le_trans (PySem.W.length_le_weightAllW ds) z2), fun u hu => (h1 u hu).mono k, .inl ho⟩
    · exact (h2 b m).mono k
  | .tuple ds, _, x, p, z => by
    obtain ⟨a, vs, rfl, ho, hall⟩ := well_tuple x
    have z2 : WData.weightAll ds ≤ 1048576 := z
    obtain ⟨A, h1, h2⟩ := area_all ds _ hall p fun d hd => Nat.le_trans (weight_mem hd) z2
    have k : ∀ b ∈ A, b ∈ a :: A := fun b hb => List.mem_cons_of_mem _ hb
    refine ⟨a :: A, List.mem_cons_self .., fun b hb => ?_⟩
    rcases List.mem_cons.mp hb with e | m
    · rw [e]
      exact ⟨vs, line_of (by rw [wellAll_len hall]; exact Nat.le_trans (PySem.W.length_le_weightAllW ds) z2), fun u hu => (h1 u hu).mono k, .inr ho⟩
    · exact (h2 b m).mono k
  | .float _, _, _, p, _ => Bool.noConfusion (show false = true from p)
  | .dict _, _, _, p, _ => Bool.noConfusion (show false = true from p)
  | .bytearray _, _, _, p, _ => Bool.noConfusion (show false = true from p)
  | .set _, _, _, p, _ => Bool.noConfusion (show false = true from p)
  | .frozenset _, _, _, p, _ => Bool.noConfusion (show false = true from p)
  | .obj _ _, _, _, p, _ => Bool.noConfusion (show false = true from p)
theorem area_all : ∀ (ds : List WData) (vs : List Value), WellAll P h vs ds → plWs ds = true → (∀ d ∈ ds, d.weight ≤ 1048576) → ∃ A : List Addr, (∀ u ∈ vs, OkU A u) ∧ ∀ a ∈ A, ArgOb h A a
  | [], _, x, _, _ => by
    cases x
    exact ⟨[], fun u m => absurd m (by simp), fun a m => absurd m (by simp)⟩
  | d :: ds, _, x, p, z => by
    obtain ⟨v, vs, rfl, x1, x2⟩ := well_cons x
    have q : plW d = true ∧ plWs ds = true := Bool.and_eq_true_iff.mp p
    obtain ⟨A, a1, a2⟩ := area_one d v x1 q.1 (z d (List.mem_cons_self ..))
    obtain ⟨B, b1, b2⟩ := area_all ds vs x2 q.2 fun e he => z e (List.mem_cons_of_mem _ he)
    have kA : ∀ b ∈ A, b ∈ A ++ B := fun b hb => List.mem_append.mpr (.inl hb)
    have kB : ∀ b ∈ B, b ∈ A ++ B := fun b hb => List.mem_append.mpr (.inr hb)
    refine ⟨A ++ B, fun u hu => ?_, fun b hb => ?_⟩
    · rcases List.mem_cons.mp hu with e | m
      · rw [e]
        exact a1.mono kA
      · exact (b1 u m).mono kB
    · rcases List.mem_append.mp hb with m | m
      · exact (a2 b m).mono kA
      · exact (b2 b m).mono kB
end
end
/-- what is tracked of an argument's object -/
def hoOf (o : Obj) : Option HO := match o.data with
  | .seq vs _ => if (o.cls == Value.type "list") = true then some (.frz o (.lst (vs.toList.map toV))) else some (.frz o (.tup (vs.toList.map toV)))
  | _ => none
def argH (K : PySem.W.Frag) (h : Heap) (A : List Addr) : Hp := fun b => if b ∈ A then (if (K.lookup b).isNone = true then (h.get? b).bind hoOf else none) else none
/-- nothing is tracked but what is known to the object -/
def OnlyF (H : Hp) : Prop := ∀ b, H b = none ∨ ∃ o u, H b = some (.frz o u)
theorem hoOf_lst (vs : List Value) : hoOf { cls := .type "list", data := .seq vs.toArray } = some (.frz { cls := .type "list", data := .seq vs.toArray } (.lst (vs.map toV))) := by
  show (if (Value.type "list" == Value.type "list") = true then some (HO.frz { cls := .type "list", data := .seq vs.toArray } (.lst (vs.toArray.toList.map toV))) else some (HO.frz { cls := .type "list", data := .seq vs.toArray } (.tup (vs.toArray.toList.map toV)))) = _
  rw [if_pos (beq_self_eq_true _)]
theorem hoOf_tup (vs : List Value) : hoOf { cls := .type "tuple", data := .seq vs.toArray } = some (.frz { cls := .type "tuple", data := .seq vs.toArray } (.tup (vs.map toV))) := by
  show (if (Value.type "tuple" == Value.type "list") = true then some (HO.frz { cls := .type "tuple", data := .seq vs.toArray } (.lst (vs.toArray.toList.map toV))) else some (HO.frz { cls := .type "tuple", data := .seq vs.toArray } (.tup (vs.toArray.toList.map toV)))) = _
  rw [if_neg (by decide)]
section
variable {P : Program} {w : World} {K : PySem.W.Frag} {h : Heap} {A : List Addr}
theorem argH_at {b : Addr} {o : Obj} (hb : b ∈ A) (hk : K.lookup b = none) (e : h.get? b = some o) : argH K h A b = hoOf o := by
  unfold argH
  rw [if_pos hb, hk, if_pos (show (none : Option Obj).isNone = true from rfl), e] <;> rfl
theorem of_argH {b : Addr} {u : HO} (q : argH K h A b = some u) : b ∈ A ∧ K.lookup b = none := by
  unfold argH at q
  by_cases hb : b ∈ A
  · rw [if_pos hb] at q
    cases hk : K.lookup b with
    | none => exact ⟨hb, rfl⟩
    | some o =>
      rw [hk, if_neg (by simp)] at q
      cases q
  · rw [if_neg hb] at q
    cases q
/-- what stands tracked -/
theorem argH_is (ar : ∀ a ∈ A, ArgOb h A a) {b : Addr} {u : HO} (q : argH K h A b = some u) : K.lookup b = none ∧ ∃ vs : List Value, vs.length ≤ sizeLine ∧ (∀ u ∈ vs, OkU A u) ∧
    ((h.get? b = some { cls := .type "list", data := .seq vs.toArray } ∧ u = .frz { cls := .type "list", data := .seq vs.toArray } (.lst (vs.map toV))) ∨
     (h.get? b = some { cls := .type "tuple", data := .seq vs.toArray } ∧ u = .frz { cls := .type "tuple", data := .seq vs.toArray } (.tup (vs.map toV)))) := by
  obtain ⟨hb, hk⟩ := of_argH q
  obtain ⟨vs, h1, h2, h3⟩ := ar b hb
  refine ⟨hk, vs, h1, h2, ?_⟩
  rcases h3 with e | e
  · rw [argH_at hb hk e, hoOf_lst] at q
    exact .inl ⟨e, (Option.some.inj q).symm⟩
  · rw [argH_at hb hk e, hoOf_tup] at q
    exact .inr ⟨e, (Option.some.inj q).symm⟩
theorem argH_only (ar : ∀ a ∈ A, ArgOb h A a) : OnlyF (argH K h A) := fun b => by
  cases q : argH K h A b with
  | none => exact .inl rfl
  | some u =>
    obtain ⟨_, vs, _, _, ⟨_, e⟩ | ⟨_, e⟩⟩ := argH_is ar q
    · exact .inr ⟨_, _, by rw [e]⟩
    · exact .inr ⟨_, _, by rw [e]⟩
theorem argH_ok (ar : ∀ a ∈ A, ArgOb h A a) : HOk P w (argH K h A) h := fun b u q => by
  obtain ⟨_, vs, h1, h2, ⟨e, rfl⟩ | ⟨e, rfl⟩⟩ := argH_is ar q
  · exact ⟨e, by rw [List.length_map]; exact h1, vs, _, vals_toV h2, e⟩
  · exact ⟨e, by rw [List.length_map]; exact h1, vs, vals_toV h2, _, e, rfl, _, rfl⟩
theorem seq_inj {c c' : Value} {vs us : List Value} (e : (some { cls := c, data := .seq vs.toArray } : Option Obj) = some { cls := c', data := .seq us.toArray }) : c = c' ∧ vs = us := by
  have e1 := Option.some.inj e
  have e2 : c = c' := congrArg Obj.cls e1
  have e3 : Data.seq vs.toArray = Data.seq us.toArray := congrArg Obj.data e1
  injection e3 with e4
  refine ⟨e2, ?_⟩
  have e5 := congrArg Array.toList e4
  simpa using e5
/-- a list argument -/
theorem argL (KX : K.In h) (ar : ∀ a ∈ A, ArgOb h A a) {a : Addr} {vs : List Value} (ha : a ∈ A) (e : h.get? a = some { cls := .type "list", data := .seq vs.toArray }) : (∀ u ∈ vs, OkU A u) ∧ SqL K (argH K h A) a (vs.map toV) := by
  obtain ⟨us, h1, h2, h3⟩ := ar a ha
  have hu : us = vs := by
    rcases h3 with q | q
    · rw [e] at q
      exact (seq_inj q).2.symm
    · rw [e] at q
      exact absurd (Value.type.inj (seq_inj q).1) (by decide)
  subst hu
  refine ⟨h2, ?_⟩
  cases hk : K.lookup a with
  | none => exact .inl (.inr ⟨_, by rw [argH_at ha hk e, hoOf_lst]⟩)
  | some o =>
    have e2 := KX a o hk
    rw [e] at e2
    obtain rfl := Option.some.inj e2
    exact .inr ⟨_, us.toArray, _, hk, rfl, rfl, rfl, by rw [List.size_toArray]; exact h1, by simpa using vals_toV h2⟩
theorem argT (KX : K.In h) (ar : ∀ a ∈ A, ArgOb h A a) {a : Addr} {vs : List Value} (ha : a ∈ A) (e : h.get? a = some { cls := .type "tuple", data := .seq vs.toArray }) : (∀ u ∈ vs, OkU A u) ∧ SqT K (argH K h A) a (vs.map toV) := by
  obtain ⟨us, h1, h2, h3⟩ := ar a ha
  have hu : us = vs := by
    rcases h3 with q | q
    · rw [e] at q
      exact absurd (Value.type.inj (seq_inj q).1) (by decide)
    · rw [e] at q
      exact (seq_inj q).2.symm
  subst hu
  refine ⟨h2, ?_⟩
  cases hk : K.lookup a with
  | none => exact .inl (.inr ⟨_, by rw [argH_at ha hk e, hoOf_tup]⟩)
  | some o =>
    have e2 := KX a o hk
    rw [e] at e2
    obtain rfl := Option.some.inj e2
    exact .inr ⟨_, us.toArray, _, hk, rfl, rfl, by rw [List.size_toArray]; exact h1, by simpa using vals_toV h2⟩
mutual
theorem dw_one {Pm : Params} (KX : K.In h) (ar : ∀ a ∈ A, ArgOb h A a) : ∀ (d : WData) (v : Value), Well Pm h v d → plW d = true → OkU A v → Dw K (argH K h A) (toV v) d
  | .none, _, x, _, _ => by
    cases x
    exact .non
  | .bool b, _, x, _, _ => by
    cases x
    exact .bl b
  | .int i, _, x, _, _ => by
    cases x
    exact .int i
  | .str s, _, x, _, _ => by
    cases x
    exact .str s
  | .bytes b, _, x, _, _ => by
    cases x
    have z := Dw.byt (K := K) (H := argH K h A) b.toArray
    exact z
  | .list ds, _, x, p, hu => by
    obtain ⟨a, vs, rfl, ho, hall⟩ := well_list x
    obtain ⟨h2, hs⟩ := argL KX ar hu ho
    exact .lst hs (dw_all KX ar ds _ hall p h2)
  | .tuple ds, _, x, p, hu => by
    obtain ⟨a, vs, rfl, ho, hall⟩ := well_tuple x
    obtain ⟨h2, hs⟩ := argT KX ar hu ho
    exact .tup hs (dw_all KX ar ds _ hall p h2)
  | .float _, _, _, p, _ => Bool.noConfusion (show false = true from p)
  | .dict _, _, _, p, _ => Bool.noConfusion (show false = true from p)
  | .bytearray _, _, _, p, _ => Bool.noConfusion (show false = true from p)
  | .set _, _, _, p, _ => Bool.noConfusion (show false = true from p)
  | .frozenset _, _, _, p, _ => Bool.noConfusion (show false = true from p)
  | .obj _ _, _, _, p, _ => Bool.noConfusion (show false = true from p)
theorem dw_all {Pm : Params} (KX : K.In h) (ar : ∀ a ∈ A, ArgOb h A a) : ∀ (ds : List WData) (vs : List Value), WellAll Pm h vs ds → plWs ds = true → (∀ u ∈ vs, OkU A u) → DwAll K (argH K h A) (vs.map toV) ds
  | [], _, x, _, _ => by
    cases x
    exact .nil
  | d :: ds, _, x, p, hu => by
    obtain ⟨v, vs, rfl, x1, x2⟩ := well_cons x
    have q : plW d = true ∧ plWs ds = true := Bool.and_eq_true_iff.mp p
    exact .cons (dw_one KX ar d v x1 q.1 (hu _ (List.mem_cons_self ..))) (dw_all KX ar ds vs x2 q.2 fun u m => hu u (List.mem_cons_of_mem _ m))
end
end
/-! ### the call -/
theorem spec_call {P : Program} {w : World} {K : PySem.W.Frag} {mg mb : Str → Option Value} {CX : CXT} {k : Nat} {fa : Addr} {fd : FuncData} {ps : List Str} {sp : Sp} {s₁ : Shared} {vals : List Value} {ds : List WData} {R : PySem.W.WRecords} {cl : Str → Option Addr} {d0 : WData}
    (KX : K.In s₁.heap) (hns : s₁.heap.Ns mainGlobals mg) (hb : s₁.heap.Ns builtinsNs mb) (hbb : ∀ x : Str, x ≠ "__name__" → mb x = bootBuiltins x) (hlim : s₁.heap.NoLimit) (hg : s₁.gens = #[])
    (hwl : WellAll w.params s₁.heap vals ds) (hpl : plWs ds = true) (hwt : ∀ d ∈ ds, d.weight ≤ 1048576) (hr : Room k callerA)
    (F : ∀ base : Heap, K.In base → base.Ns mainGlobals mg → FnOk P w K mg base CX k fa fd ps sp) (hbind : ∀ (s : Shared) (us : List Value), us.length = ps.length → BindsTo s fd ⟨us, []⟩ (ps.zip us)) (hlen : ds.length = ps.length)
    (hsp : ∀ (H : Hp) (xs : List V), OnlyF H → DwAll K H xs ds → sp xs H (fun v H' => Dw K H' v d0) fun _ _ _ => False)
    (hCX : ∀ H e s', CX [] H s₁ (fun _ _ _ => False) e s' → False) :
    codeAny (model P w) callerA (.call (.ref fa) ⟨vals, []⟩) (fun r s' => ∃ u as, r = .ok (.ret u) ∧ ReadsW R cl s'.heap u d0 as ∧ OldK s₁.heap s'.heap ∧ s'.os = s₁.os ∧ AllBare s'.gens) s₁ := by
  obtain ⟨A, ho, ar⟩ := area_all ds vals hwl hpl hwt
  have hO : OnlyF (argH K s₁.heap A) := argH_only ar
  have hok : HOk P w (argH K s₁.heap A) s₁.heap := argH_ok ar
  have hS := dw_all KX ar ds vals hwl hpl ho
  have hV := vals_toV ho
  have hK : ∀ b u, argH K s₁.heap A b = some u → K.lookup b = none := fun b u q => (argH_is ar q).1
  have noA : ∀ {b : Addr} {o : Obj} {es : Array DictEntry} {ep : Nat}, s₁.heap.get? b = some o → o.data = .dict es ep → argH K s₁.heap A b = none := fun {b o es ep} e d => by
    cases q : argH K s₁.heap A b with
    | none => rfl
    | some u =>
      obtain ⟨_, vs, _, _, ⟨e2, _⟩ | ⟨e2, _⟩⟩ := argH_is ar q
      · rw [e2] at e
        cases e
        have d' : Data.seq vs.toArray _ = Data.dict es ep := d
        cases d'
      · rw [e2] at e
        cases e
        have d' : Data.seq vs.toArray _ = Data.dict es ep := d
        cases d'
  generalize argH K s₁.heap A = H at hO hok hS hK noA
  have base_of : ∀ {b : Addr} {o : Obj}, s₁.heap.get? b = some o → H b = none → (hidT s₁.heap H).get? b = some o := fun e n => hidT_get e n
  have nsK : ∀ {b : Addr} {m : Str → Option Value}, s₁.heap.Ns b m → (hidT s₁.heap H).Ns b m := fun {b m} ⟨o, es, ep, e, d, r⟩ => ⟨o, es, ep, base_of e (noA e d), d, r⟩
  have nK : ∀ b o, K.lookup b = some o → H b = none := fun b o e => by
    cases q : H b with
    | none => rfl
    | some u =>
      rw [hK b u q] at e
      cases e
  have hKb : K.In (hidT s₁.heap H) := fun b o e => base_of (KX b o e) (nK b o e)
  have hM : Mod K mg (hidT s₁.heap H) := ⟨hKb, nsK hns, ⟨mb, nsK hb, hbb⟩, let ⟨mc, h1, h2⟩ := hlim; ⟨mc, nsK h1, h2⟩⟩
  have e0 : Env0 P w K mg (hidT s₁.heap H) callerA [] s₁ H := ⟨rfl, hM, fun b o e => of_hidT e, Nat.le_of_eq (hidT_size _ _), trivial, fun b hb => absurd (show b ∈ ([] : List Addr) from hb) (by simp), hok, .of_eq hg⟩
  have hl : vals.length = ps.length := by rw [wellAll_len hwl]; exact hlen
  refine codeAny_mono ((F _ hKb (nsK hns)).run callerA [] s₁ H ⟨vals, []⟩ vals (vals.map toV) _ _ hr e0 (hbind s₁ vals hl) hV (hsp H _ hO hS)) fun r s' x => ?_
  cases r with
  | error e => exact (hCX H e s' x).elim
  | ok fl =>
    cases fl with
    | next => exact False.elim x
    | brk => exact False.elim x
    | cont => exact False.elim x
    | ret u =>
      obtain ⟨v, H', os, bare, un, hok', r', q⟩ := x
      have kept : ∀ b o, s₁.heap.get? b = some o → s'.heap.get? b = some o := fun b o e => by
        cases q2 : H b with
        | none => exact un.keep b o e q2 (by intro z; exact absurd (show b ∈ ([] : List Addr) from z) (by simp)) (by simp)
        | some u2 =>
          rcases hO b with z | ⟨ob, u3, z⟩
          · rw [q2] at z
            cases z
          · have z2 := un.frzs b ob _ z
            obtain ⟨e1, _⟩ := hok b _ z
            obtain ⟨e2, _⟩ := hok' b _ z2
            rw [e] at e1
            cases e1
            exact e2
      have KX' : K.In s'.heap := fun b o e => kept b o (KX b o e)
      obtain ⟨as, hrd⟩ := Dw.reads (R := R) (cl := cl) hok' KX' d0 v u q r'
      exact ⟨u, as, rfl, hrd, OldK.of_keep kept, os, bare⟩
/-! ### the row -/
theorem layable_weight {ds : List WData} (h : WData.layableAll ds = true) : ∀ d ∈ ds, d.weight ≤ 1048576 := fun d hd =>
  (PySem.W.layableW_iff.mp (List.all_eq_true.mp h d hd)).2.2
theorem encAll_len : ∀ (cs : List Codec) (a : Codec.denoteAll cs), (Codec.encAll cs a).length = cs.length
  | [], _ => rfl
  | c :: cs, a => by
    show (Codec.encAll cs a.2).length + 1 = cs.length + 1
    rw [encAll_len cs a.2]
/-- the goal that k_headS leaves (case hc), from the promise of the row's def: whatever the arguments that the codecs let and the row asks for, the def gives what stands for enc (f ..) -/
theorem walk_spec {r : OpenSpec} {k : Nat} {q : Program} {loose : List Str} {XP : (Str → Option Value) → Heap → Prop} {YP : World → Heap → Prop} {d : DefRec} {K : Params → PySem.W.Frag} {CX : World → CXT} {ps : List Str} {sp : World → Sp}
    (hwell : r.wellSaid = true) (hdf : d.params.defaults = []) (hlen : r.args.length = ps.length) (hr : Room k callerA)
    (hY : ∀ (w : World) (h : Heap), YP w h → (K w.params).In h)
    (F : ∀ (w : World) (mg : Str → Option Value) (fa : Addr) (h : Heap), YP w h → (K w.params).In h → h.Ns mainGlobals mg → mg d.name = some (.ref fa) →
      ∃ fd : FuncData, (∀ (s : Shared) (us : List Value), us.length = ps.length → BindsTo s fd ⟨us, []⟩ (ps.zip us)) ∧
        ∀ base : Heap, (K w.params).In base → base.Ns mainGlobals mg → FnOk r.prog w (K w.params) mg base (CX w) k fa fd ps (sp w))
    (hsp : ∀ (w : World) (H : Hp) (xs : List V) (a : Codec.denoteAll r.args), OnlyF H → Codec.withinAll r.args a = true → Codec.app r.args r.asked a = true → DwAll (K w.params) H xs (Codec.encAll r.args a) →
      sp w xs H (fun v H' => Dw (K w.params) H' v (r.ret.enc (Codec.app r.args r.f a))) fun _ _ _ => False)
    (hCX : ∀ (w : World) (H : Hp) (s : Shared) (e : Value) (s' : Shared), CX w [] H s (fun _ _ _ => False) e s' → False) :
    PySem.W.WalkOS q loose XP YP r d [] (fun f vs => PySem.call f vs) := by
  intro w s_0 s₁ mg mb G Y fa o pm cd doc dV kV ho hd hcd hD hmg hg args vals as hpre hlay hrd hwl hlo
  obtain ⟨a, e1, e2⟩ := PySem.W.os_pre_some hpre
  obtain ⟨e3, hwi⟩ := Codec.encAll_of_decAll r.args args a e1
  subst e3
  have KX := hY w _ Y
  obtain ⟨fd, hb, hF⟩ := F w mg fa _ Y KX G.T.g hmg
  refine PySem.W.enter_call (codeAny_mono (spec_call (R := []) (cl := classAt s_0.heap) (d0 := r.ret.enc (Codec.app r.args r.f a)) KX G.T.g G.T.b G.T.builtins G.T.nolimit hg hwl (pl_encAll _ _) (layable_weight hlay) hr hF hb (by rw [encAll_len]; exact hlen)
    (fun H xs hO hS => hsp w H xs a hO hwi e2 hS) fun H e s' => hCX w H s₁ e s') fun r' s' hq => ?_)
  obtain ⟨u, as', rfl, h1, h2, h3, h4⟩ := hq
  exact ⟨.inl ⟨u, _, as', rfl, fun _ => rfl, h1, (OpenSpec.post_iff hwell hwi _ _).mpr rfl, fun z => Bool.noConfusion (show false = true from z)⟩, h2, h3, h4⟩
/-- the same where the promise hangs on the written part alone -/
theorem walk_specK {r : OpenSpec} {k : Nat} {q : Program} {loose : List Str} {XP : (Str → Option Value) → Heap → Prop} {YP : World → Heap → Prop} {d : DefRec} {K : Params → PySem.W.Frag} {CX : CXT} {ps : List Str} {sp : PySem.W.Frag → Sp}
    (hwell : r.wellSaid = true) (hdf : d.params.defaults = []) (hlen : r.args.length = ps.length) (hr : Room k callerA)
    (hY : ∀ (w : World) (h : Heap), YP w h → (K w.params).In h)
    (F : ∀ (w : World) (mg : Str → Option Value) (fa : Addr) (h : Heap), YP w h → (K w.params).In h → h.Ns mainGlobals mg → mg d.name = some (.ref fa) →
      ∃ fd : FuncData, (∀ (s : Shared) (us : List Value), us.length = ps.length → BindsTo s fd ⟨us, []⟩ (ps.zip us)) ∧
        ∀ base : Heap, (K w.params).In base → base.Ns mainGlobals mg → FnOk r.prog w (K w.params) mg base CX k fa fd ps (sp (K w.params)))
    (hsp : ∀ (K : PySem.W.Frag) (H : Hp) (xs : List V) (a : Codec.denoteAll r.args), OnlyF H → Codec.withinAll r.args a = true → Codec.app r.args r.asked a = true → DwAll K H xs (Codec.encAll r.args a) →
      sp K xs H (fun v H' => Dw K H' v (r.ret.enc (Codec.app r.args r.f a))) fun _ _ _ => False)
    (hCX : ∀ (H : Hp) (s : Shared) (e : Value) (s' : Shared), CX [] H s (fun _ _ _ => False) e s' → False) :
    PySem.W.WalkOS q loose XP YP r d [] (fun f vs => PySem.call f vs) :=
  walk_spec (K := K) (CX := fun _ => CX) (sp := fun w => sp (K w.params)) hwell hdf hlen hr hY F (fun w H xs a h1 h2 h3 h4 => hsp (K w.params) H xs a h1 h2 h3 h4) fun _ H s e s' => hCX H s e s'
end L2

set_option Elab.async false
set_option linter.all false
set_option maxRecDepth 100000
set_option maxHeartbeats 2000000
set_option genInjectivity false
set_option genSizeOf false
namespace Sb
open PySem PySem.Spec PyProof.Rows L2
def intsB : List Value → List Int → Bool
  | [], [] => true
  | .int i _ :: r, n :: s => decide (i = n) && intsB r s
  | _, _ => false
def top (i : Nat) : Stmt := PySem.Challenge.pw_sunbeds_s01_answers.main.body.getD i (.Pass ⟨0, 0, 0, 0⟩)
abbrev s_within : Stmt := top 15
abbrev s_in_order : Stmt := top 16
abbrev s_Hour_init : Stmt := inClass (top 17) 0
abbrev s_Plant_init : Stmt := inClass (top 18) 0
abbrev s_Garden_init : Stmt := inClass (top 19) 0
abbrev s_Garden_lay_out : Stmt := inClass (top 19) 1
abbrev s_Garden_begins : Stmt := inClass (top 19) 2
abbrev s_Garden_level : Stmt := inClass (top 19) 3
abbrev s_Garden_stands : Stmt := inClass (top 19) 4
abbrev s_Garden_tell_of_place : Stmt := inClass (top 19) 5
abbrev s_Garden_hour : Stmt := inClass (top 19) 6
abbrev s_Garden_plant : Stmt := inClass (top 19) 7
abbrev s_Garden_like : Stmt := inClass (top 19) 8
abbrev s_Garden_dislike : Stmt := inClass (top 19) 9
abbrev s_Garden_tell_of_kinds : Stmt := inClass (top 19) 10
abbrev s_Garden_tap : Stmt := inClass (top 19) 11
abbrev s_Garden_liking : Stmt := inClass (top 19) 12
abbrev s_Garden_planted : Stmt := inClass (top 19) 13
abbrev s_Garden_steps : Stmt := inClass (top 19) 14
abbrev s_tops : Stmt := top 23
abbrev s_places_towards_sun : Stmt := top 24
abbrev s_in_sun : Stmt := top 25
abbrev s_hours_in_sun : Stmt := top 26
abbrev s_shortest_way : Stmt := top 28
abbrev s_way_on : Stmt := top 29
abbrev s_check : Stmt := top 35
abbrev s_is_plan : Stmt := top 36
abbrev s_has_places_of_its_own : Stmt := top 37
abbrev s_first_shaded : Stmt := top 38
abbrev s_plan_worth : Stmt := top 39
abbrev s_best : Stmt := top 40
abbrev s_all_plans : Stmt := top 41
abbrev s_answers : Stmt := top 53
abbrev s_answer_call : Stmt := top 54
/-- where the text's classes and defs stand -/
structure Ad where
  C_Hour : Addr
  C_Plant : Addr
  C_Garden : Addr
  f_within : Addr
  d_within : FuncData
  f_in_order : Addr
  d_in_order : FuncData
  f_Hour_init : Addr
  d_Hour_init : FuncData
  f_Plant_init : Addr
  d_Plant_init : FuncData
  f_Garden_init : Addr
  d_Garden_init : FuncData
  f_Garden_lay_out : Addr
  d_Garden_lay_out : FuncData
  f_Garden_begins : Addr
  d_Garden_begins : FuncData
  f_Garden_level : Addr
  d_Garden_level : FuncData
  f_Garden_stands : Addr
  d_Garden_stands : FuncData
  f_Garden_tell_of_place : Addr
  d_Garden_tell_of_place : FuncData
  f_Garden_hour : Addr
  d_Garden_hour : FuncData
  f_Garden_plant : Addr
  d_Garden_plant : FuncData
  f_Garden_like : Addr
  d_Garden_like : FuncData
  f_Garden_dislike : Addr
  d_Garden_dislike : FuncData
  f_Garden_tell_of_kinds : Addr
  d_Garden_tell_of_kinds : FuncData
  f_Garden_tap : Addr
  d_Garden_tap : FuncData
  f_Garden_liking : Addr
  d_Garden_liking : FuncData
  f_Garden_planted : Addr
  d_Garden_planted : FuncData
  f_Garden_steps : Addr
  d_Garden_steps : FuncData
  f_tops : Addr
  d_tops : FuncData
  f_places_towards_sun : Addr
  d_places_towards_sun : FuncData
  f_in_sun : Addr
  d_in_sun : FuncData
  f_hours_in_sun : Addr
  d_hours_in_sun : FuncData
  f_shortest_way : Addr
  d_shortest_way : FuncData
  f_way_on : Addr
  d_way_on : FuncData
  f_check : Addr
  d_check : FuncData
  f_is_plan : Addr
  d_is_plan : FuncData
  f_has_places_of_its_own : Addr
  d_has_places_of_its_own : FuncData
  f_first_shaded : Addr
  d_first_shaded : FuncData
  f_plan_worth : Addr
  d_plan_worth : FuncData
  f_best : Addr
  d_best : FuncData
  f_all_plans : Addr
  d_all_plans : FuncData
  f_answers : Addr
  d_answers : FuncData
  f_answer_call : Addr
  d_answer_call : FuncData
  o_ROW_STEPS : Addr
  o_COLUMN_STEPS : Addr
/-- what the text has laid -/
structure Md (K : PySem.W.Frag) (mg : Str → Option Value) (a : Ad) : Prop where
  g_Hour : mg "Hour" = some (.ref a.C_Hour)
  cl_Hour : Cls K a.C_Hour
  mk_Hour : Mk K a.C_Hour a.f_Hour_init
  na_Hour_whence : NoAttr K a.C_Hour "whence"
  na_Hour_rise : NoAttr K a.C_Hour "rise"
  g_Plant : mg "Plant" = some (.ref a.C_Plant)
  cl_Plant : Cls K a.C_Plant
  mk_Plant : Mk K a.C_Plant a.f_Plant_init
  na_Plant_high : NoAttr K a.C_Plant "high"
  na_Plant_needed_hours : NoAttr K a.C_Plant "needed_hours"
  na_Plant_worth : NoAttr K a.C_Plant "worth"
  na_Plant_kind : NoAttr K a.C_Plant "kind"
  na_Plant_water : NoAttr K a.C_Plant "water"
  g_Garden : mg "Garden" = some (.ref a.C_Garden)
  cl_Garden : Cls K a.C_Garden
  mk_Garden : Mk K a.C_Garden a.f_Garden_init
  na_Garden_rows : NoAttr K a.C_Garden "rows"
  na_Garden_columns : NoAttr K a.C_Garden "columns"
  na_Garden_places : NoAttr K a.C_Garden "places"
  na_Garden_can : NoAttr K a.C_Garden "can"
  na_Garden_longest_way : NoAttr K a.C_Garden "longest_way"
  na_Garden_tap_place : NoAttr K a.C_Garden "tap_place"
  na_Garden_levels : NoAttr K a.C_Garden "levels"
  na_Garden_heights : NoAttr K a.C_Garden "heights"
  na_Garden_hours : NoAttr K a.C_Garden "hours"
  na_Garden_plants : NoAttr K a.C_Garden "plants"
  na_Garden_likings : NoAttr K a.C_Garden "likings"
  F_within : Fun K "within" "within" s_within a.f_within a.d_within
  b_within : Binds K a.d_within ["number", "least", "greatest"] []
  g_within : mg "within" = some (.ref a.f_within)
  k_within : PySem.W.keepIn K (.ref a.f_within) = true
  F_in_order : Fun K "in_order" "in_order" s_in_order a.f_in_order a.d_in_order
  b_in_order : Binds K a.d_in_order ["kind", "other"] []
  g_in_order : mg "in_order" = some (.ref a.f_in_order)
  k_in_order : PySem.W.keepIn K (.ref a.f_in_order) = true
  F_Hour_init : Fun K "__init__" "Hour.__init__" s_Hour_init a.f_Hour_init a.d_Hour_init
  b_Hour_init : Binds K a.d_Hour_init ["self", "whence", "rise"] []
  F_Plant_init : Fun K "__init__" "Plant.__init__" s_Plant_init a.f_Plant_init a.d_Plant_init
  b_Plant_init : Binds K a.d_Plant_init ["self", "high", "needed_hours", "worth", "kind", "water"] []
  F_Garden_init : Fun K "__init__" "Garden.__init__" s_Garden_init a.f_Garden_init a.d_Garden_init
  b_Garden_init : Binds K a.d_Garden_init ["self"] []
  F_Garden_lay_out : Fun K "lay_out" "Garden.lay_out" s_Garden_lay_out a.f_Garden_lay_out a.d_Garden_lay_out
  b_Garden_lay_out : Binds K a.d_Garden_lay_out ["self", "rows", "columns", "can", "longest_way"] []
  m_Garden_lay_out : Meth K a.C_Garden "lay_out" a.f_Garden_lay_out
  F_Garden_begins : Fun K "begins" "Garden.begins" s_Garden_begins a.f_Garden_begins a.d_Garden_begins
  b_Garden_begins : Binds K a.d_Garden_begins ["self", "rows", "columns", "can", "longest_way"] []
  m_Garden_begins : Meth K a.C_Garden "begins" a.f_Garden_begins
  F_Garden_level : Fun K "level" "Garden.level" s_Garden_level a.f_Garden_level a.d_Garden_level
  b_Garden_level : Binds K a.d_Garden_level ["self", "place", "how_high"] []
  m_Garden_level : Meth K a.C_Garden "level" a.f_Garden_level
  F_Garden_stands : Fun K "stands" "Garden.stands" s_Garden_stands a.f_Garden_stands a.d_Garden_stands
  b_Garden_stands : Binds K a.d_Garden_stands ["self", "place", "how_high"] []
  m_Garden_stands : Meth K a.C_Garden "stands" a.f_Garden_stands
  F_Garden_tell_of_place : Fun K "tell_of_place" "Garden.tell_of_place" s_Garden_tell_of_place a.f_Garden_tell_of_place a.d_Garden_tell_of_place
  b_Garden_tell_of_place : Binds K a.d_Garden_tell_of_place ["self", "told", "place", "how_high"] []
  m_Garden_tell_of_place : Meth K a.C_Garden "tell_of_place" a.f_Garden_tell_of_place
  F_Garden_hour : Fun K "hour" "Garden.hour" s_Garden_hour a.f_Garden_hour a.d_Garden_hour
  b_Garden_hour : Binds K a.d_Garden_hour ["self", "whence", "rise"] []
  m_Garden_hour : Meth K a.C_Garden "hour" a.f_Garden_hour
  F_Garden_plant : Fun K "plant" "Garden.plant" s_Garden_plant a.f_Garden_plant a.d_Garden_plant
  b_Garden_plant : Binds K a.d_Garden_plant ["self", "high", "needed_hours", "worth", "kind", "water"] []
  m_Garden_plant : Meth K a.C_Garden "plant" a.f_Garden_plant
  F_Garden_like : Fun K "like" "Garden.like" s_Garden_like a.f_Garden_like a.d_Garden_like
  b_Garden_like : Binds K a.d_Garden_like ["self", "kind", "other", "much"] []
  m_Garden_like : Meth K a.C_Garden "like" a.f_Garden_like
  F_Garden_dislike : Fun K "dislike" "Garden.dislike" s_Garden_dislike a.f_Garden_dislike a.d_Garden_dislike
  b_Garden_dislike : Binds K a.d_Garden_dislike ["self", "kind", "other", "much"] []
  m_Garden_dislike : Meth K a.C_Garden "dislike" a.f_Garden_dislike
  F_Garden_tell_of_kinds : Fun K "tell_of_kinds" "Garden.tell_of_kinds" s_Garden_tell_of_kinds a.f_Garden_tell_of_kinds a.d_Garden_tell_of_kinds
  b_Garden_tell_of_kinds : Binds K a.d_Garden_tell_of_kinds ["self", "kind", "other", "much", "sign"] []
  m_Garden_tell_of_kinds : Meth K a.C_Garden "tell_of_kinds" a.f_Garden_tell_of_kinds
  F_Garden_tap : Fun K "tap" "Garden.tap" s_Garden_tap a.f_Garden_tap a.d_Garden_tap
  b_Garden_tap : Binds K a.d_Garden_tap ["self", "place"] []
  m_Garden_tap : Meth K a.C_Garden "tap" a.f_Garden_tap
  F_Garden_liking : Fun K "liking" "Garden.liking" s_Garden_liking a.f_Garden_liking a.d_Garden_liking
  b_Garden_liking : Binds K a.d_Garden_liking ["self", "kind", "other"] []
  m_Garden_liking : Meth K a.C_Garden "liking" a.f_Garden_liking
  F_Garden_planted : Fun K "planted" "Garden.planted" s_Garden_planted a.f_Garden_planted a.d_Garden_planted
  b_Garden_planted : Binds K a.d_Garden_planted ["self", "plan"] []
  m_Garden_planted : Meth K a.C_Garden "planted" a.f_Garden_planted
  F_Garden_steps : Fun K "steps" "Garden.steps" s_Garden_steps a.f_Garden_steps a.d_Garden_steps
  b_Garden_steps : Binds K a.d_Garden_steps ["self", "place", "other"] []
  m_Garden_steps : Meth K a.C_Garden "steps" a.f_Garden_steps
  F_tops : Fun K "tops" "tops" s_tops a.f_tops a.d_tops
  b_tops : Binds K a.d_tops ["garden", "plan"] []
  g_tops : mg "tops" = some (.ref a.f_tops)
  k_tops : PySem.W.keepIn K (.ref a.f_tops) = true
  F_places_towards_sun : Fun K "places_towards_sun" "places_towards_sun" s_places_towards_sun a.f_places_towards_sun a.d_places_towards_sun
  b_places_towards_sun : Binds K a.d_places_towards_sun ["garden", "place", "whence"] []
  g_places_towards_sun : mg "places_towards_sun" = some (.ref a.f_places_towards_sun)
  k_places_towards_sun : PySem.W.keepIn K (.ref a.f_places_towards_sun) = true
  F_in_sun : Fun K "in_sun" "in_sun" s_in_sun a.f_in_sun a.d_in_sun
  b_in_sun : Binds K a.d_in_sun ["garden", "all_tops", "place", "hour"] []
  g_in_sun : mg "in_sun" = some (.ref a.f_in_sun)
  k_in_sun : PySem.W.keepIn K (.ref a.f_in_sun) = true
  F_hours_in_sun : Fun K "hours_in_sun" "hours_in_sun" s_hours_in_sun a.f_hours_in_sun a.d_hours_in_sun
  b_hours_in_sun : Binds K a.d_hours_in_sun ["garden", "all_tops", "place"] []
  g_hours_in_sun : mg "hours_in_sun" = some (.ref a.f_hours_in_sun)
  k_hours_in_sun : PySem.W.keepIn K (.ref a.f_hours_in_sun) = true
  F_shortest_way : Fun K "shortest_way" "shortest_way" s_shortest_way a.f_shortest_way a.d_shortest_way
  b_shortest_way : Binds K a.d_shortest_way ["garden", "plan"] []
  g_shortest_way : mg "shortest_way" = some (.ref a.f_shortest_way)
  k_shortest_way : PySem.W.keepIn K (.ref a.f_shortest_way) = true
  F_way_on : Fun K "way_on" "way_on" s_way_on a.f_way_on a.d_way_on
  b_way_on : Binds K a.d_way_on ["garden", "plan", "dry", "place", "in_can"] []
  g_way_on : mg "way_on" = some (.ref a.f_way_on)
  k_way_on : PySem.W.keepIn K (.ref a.f_way_on) = true
  F_check : Fun K "check" "check" s_check a.f_check a.d_check
  b_check : Binds K a.d_check ["garden", "plan"] []
  g_check : mg "check" = some (.ref a.f_check)
  k_check : PySem.W.keepIn K (.ref a.f_check) = true
  F_is_plan : Fun K "is_plan" "is_plan" s_is_plan a.f_is_plan a.d_is_plan
  b_is_plan : Binds K a.d_is_plan ["garden", "plan"] []
  g_is_plan : mg "is_plan" = some (.ref a.f_is_plan)
  k_is_plan : PySem.W.keepIn K (.ref a.f_is_plan) = true
  F_has_places_of_its_own : Fun K "has_places_of_its_own" "has_places_of_its_own" s_has_places_of_its_own a.f_has_places_of_its_own a.d_has_places_of_its_own
  b_has_places_of_its_own : Binds K a.d_has_places_of_its_own ["garden", "plan"] []
  g_has_places_of_its_own : mg "has_places_of_its_own" = some (.ref a.f_has_places_of_its_own)
  k_has_places_of_its_own : PySem.W.keepIn K (.ref a.f_has_places_of_its_own) = true
  F_first_shaded : Fun K "first_shaded" "first_shaded" s_first_shaded a.f_first_shaded a.d_first_shaded
  b_first_shaded : Binds K a.d_first_shaded ["garden", "plan"] []
  g_first_shaded : mg "first_shaded" = some (.ref a.f_first_shaded)
  k_first_shaded : PySem.W.keepIn K (.ref a.f_first_shaded) = true
  F_plan_worth : Fun K "plan_worth" "plan_worth" s_plan_worth a.f_plan_worth a.d_plan_worth
  b_plan_worth : Binds K a.d_plan_worth ["garden", "plan"] []
  g_plan_worth : mg "plan_worth" = some (.ref a.f_plan_worth)
  k_plan_worth : PySem.W.keepIn K (.ref a.f_plan_worth) = true
  F_best : Fun K "best" "best" s_best a.f_best a.d_best
  b_best : Binds K a.d_best ["garden"] []
  g_best : mg "best" = some (.ref a.f_best)
  k_best : PySem.W.keepIn K (.ref a.f_best) = true
  F_all_plans : Fun K "all_plans" "all_plans" s_all_plans a.f_all_plans a.d_all_plans
  b_all_plans : Binds K a.d_all_plans ["garden"] []
  g_all_plans : mg "all_plans" = some (.ref a.f_all_plans)
  k_all_plans : PySem.W.keepIn K (.ref a.f_all_plans) = true
  F_answers : Fun K "answers" "answers" s_answers a.f_answers a.d_answers
  b_answers : Binds K a.d_answers ["calls"] []
  g_answers : mg "answers" = some (.ref a.f_answers)
  k_answers : PySem.W.keepIn K (.ref a.f_answers) = true
  F_answer_call : Fun K "answer_call" "answer_call" s_answer_call a.f_answer_call a.d_answer_call
  b_answer_call : Binds K a.d_answer_call ["garden", "call", "numbers"] []
  g_answer_call : mg "answer_call" = some (.ref a.f_answer_call)
  k_answer_call : PySem.W.keepIn K (.ref a.f_answer_call) = true
  c_BEGINS : ∃ t, mg "BEGINS" = some (.int (0) t)
  c_BEST : ∃ t, mg "BEST" = some (.int (9) t)
  c_CANNOT_BE : ∃ t, mg "CANNOT_BE" = some (.int (-6) t)
  c_CHECK : ∃ t, mg "CHECK" = some (.int (8) t)
  c_COLUMN_STEPS : mg "COLUMN_STEPS" = some (.ref a.o_COLUMN_STEPS)
  t_COLUMN_STEPS : ∃ (dd : Option Addr) (n : Nat) (sl : Array (Option Value)) (l : List Value), K.lookup a.o_COLUMN_STEPS = some ⟨.type "tuple", dd, .seq l.toArray n, sl⟩ ∧ intsB l [(0), (1), (1), (1), (0), (-1), (-1), (-1)] = true
  c_DISLIKE : ∃ t, mg "DISLIKE" = some (.int (6) t)
  c_HIGHEST : ∃ t, mg "HIGHEST" = some (.int (1000) t)
  c_HOUR : ∃ t, mg "HOUR" = some (.int (3) t)
  c_LAST_KIND : ∃ t, mg "LAST_KIND" = some (.int (5) t)
  c_LAST_WHENCE : ∃ t, mg "LAST_WHENCE" = some (.int (7) t)
  c_LEVEL : ∃ t, mg "LEVEL" = some (.int (1) t)
  c_LIKE : ∃ t, mg "LIKE" = some (.int (5) t)
  c_LONGEST_WAY : ∃ t, mg "LONGEST_WAY" = some (.int (1000) t)
  c_MOST_HOURS : ∃ t, mg "MOST_HOURS" = some (.int (8) t)
  c_MOST_IN_CAN : ∃ t, mg "MOST_IN_CAN" = some (.int (1000) t)
  c_MOST_LIKED : ∃ t, mg "MOST_LIKED" = some (.int (9) t)
  c_MOST_PLACES : ∃ t, mg "MOST_PLACES" = some (.int (8) t)
  c_MOST_PLANTS : ∃ t, mg "MOST_PLANTS" = some (.int (3) t)
  c_MOST_WORTH : ∃ t, mg "MOST_WORTH" = some (.int (100000) t)
  c_NOT_AS_TOLD : ∃ t, mg "NOT_AS_TOLD" = some (.int (-1) t)
  c_NO_MORE : ∃ t, mg "NO_MORE" = some (.int (-5) t)
  c_NO_PLACE_OF_ITS_OWN : ∃ t, mg "NO_PLACE_OF_ITS_OWN" = some (.int (-4) t)
  c_NO_SUCH_PLACE : ∃ t, mg "NO_SUCH_PLACE" = some (.int (-2) t)
  c_PLANT : ∃ t, mg "PLANT" = some (.int (4) t)
  c_ROW_STEPS : mg "ROW_STEPS" = some (.ref a.o_ROW_STEPS)
  t_ROW_STEPS : ∃ (dd : Option Addr) (n : Nat) (sl : Array (Option Value)) (l : List Value), K.lookup a.o_ROW_STEPS = some ⟨.type "tuple", dd, .seq l.toArray n, sl⟩ ∧ intsB l [(-1), (-1), (0), (1), (1), (1), (0), (-1)] = true
  c_STANDS : ∃ t, mg "STANDS" = some (.int (2) t)
  c_STEEPEST_RISE : ∃ t, mg "STEEPEST_RISE" = some (.int (1000) t)
  c_TAP : ∃ t, mg "TAP" = some (.int (7) t)
  c_TOO_LITTLE_SUN : ∃ t, mg "TOO_LITTLE_SUN" = some (.int (1) t)
  c_TOO_LONG_A_WAY : ∃ t, mg "TOO_LONG_A_WAY" = some (.int (2) t)
  n_abs : mg "abs" = none
  n_all : mg "all" = none
  n_len : mg "len" = none
  n_max : mg "max" = none
  n_min : mg "min" = none
  n_range : mg "range" = none
  n_set : mg "set" = none
  n_sum : mg "sum" = none
theorem sc_within : FnScope ["number", "least", "greatest"] ["number", "least", "greatest"] (defScope s_within) := ⟨rfl, rfl, rfl, by decide +kernel, rfl, by decide +kernel, by decide +kernel⟩
theorem sc_in_order : FnScope ["kind", "other"] ["kind", "other"] (defScope s_in_order) := ⟨rfl, rfl, rfl, by decide +kernel, rfl, by decide +kernel, by decide +kernel⟩
theorem sc_Hour_init : FnScope ["self", "whence", "rise"] ["self", "whence", "rise"] (defScope s_Hour_init) := ⟨rfl, rfl, rfl, by decide +kernel, rfl, by decide +kernel, by decide +kernel⟩
theorem sc_Plant_init : FnScope ["self", "high", "needed_hours", "worth", "kind", "water"] ["self", "high", "needed_hours", "worth", "kind", "water"] (defScope s_Plant_init) := ⟨rfl, rfl, rfl, by decide +kernel, rfl, by decide +kernel, by decide +kernel⟩
theorem sc_Garden_init : FnScope ["self"] ["self"] (defScope s_Garden_init) := ⟨rfl, rfl, rfl, by decide +kernel, rfl, by decide +kernel, by decide +kernel⟩
theorem sc_Garden_lay_out : FnScope ["self", "rows", "columns", "can", "longest_way"] ["self", "rows", "columns", "can", "longest_way"] (defScope s_Garden_lay_out) := ⟨rfl, rfl, rfl, by decide +kernel, rfl, by decide +kernel, by decide +kernel⟩
theorem sc_Garden_begins : FnScope ["self", "rows", "columns", "can", "longest_way"] ["self", "rows", "columns", "can", "longest_way"] (defScope s_Garden_begins) := ⟨rfl, rfl, rfl, by decide +kernel, rfl, by decide +kernel, by decide +kernel⟩
theorem sc_Garden_level : FnScope ["self", "place", "how_high"] ["self", "place", "how_high"] (defScope s_Garden_level) := ⟨rfl, rfl, rfl, by decide +kernel, rfl, by decide +kernel, by decide +kernel⟩
theorem sc_Garden_stands : FnScope ["self", "place", "how_high"] ["self", "place", "how_high"] (defScope s_Garden_stands) := ⟨rfl, rfl, rfl, by decide +kernel, rfl, by decide +kernel, by decide +kernel⟩
theorem sc_Garden_tell_of_place : FnScope ["self", "told", "place", "how_high"] ["self", "told", "place", "how_high"] (defScope s_Garden_tell_of_place) := ⟨rfl, rfl, rfl, by decide +kernel, rfl, by decide +kernel, by decide +kernel⟩
theorem sc_Garden_hour : FnScope ["self", "whence", "rise"] ["self", "whence", "rise"] (defScope s_Garden_hour) := ⟨rfl, rfl, rfl, by decide +kernel, rfl, by decide +kernel, by decide +kernel⟩
theorem sc_Garden_plant : FnScope ["self", "high", "needed_hours", "worth", "kind", "water"] ["self", "high", "needed_hours", "worth", "kind", "water"] (defScope s_Garden_plant) := ⟨rfl, rfl, rfl, by decide +kernel, rfl, by decide +kernel, by decide +kernel⟩
theorem sc_Garden_like : FnScope ["self", "kind", "other", "much"] ["self", "kind", "other", "much"] (defScope s_Garden_like) := ⟨rfl, rfl, rfl, by decide +kernel, rfl, by decide +kernel, by decide +kernel⟩
theorem sc_Garden_dislike : FnScope ["self", "kind", "other", "much"] ["self", "kind", "other", "much"] (defScope s_Garden_dislike) := ⟨rfl, rfl, rfl, by decide +kernel, rfl, by decide +kernel, by decide +kernel⟩
theorem sc_Garden_tell_of_kinds : FnScope ["self", "kind", "other", "much", "sign"] ["self", "kind", "other", "much", "sign"] (defScope s_Garden_tell_of_kinds) := ⟨rfl, rfl, rfl, by decide +kernel, rfl, by decide +kernel, by decide +kernel⟩
theorem sc_Garden_tap : FnScope ["self", "place"] ["self", "place"] (defScope s_Garden_tap) := ⟨rfl, rfl, rfl, by decide +kernel, rfl, by decide +kernel, by decide +kernel⟩
theorem sc_Garden_liking : FnScope ["self", "kind", "other"] ["self", "kind", "other"] (defScope s_Garden_liking) := ⟨rfl, rfl, rfl, by decide +kernel, rfl, by decide +kernel, by decide +kernel⟩
theorem sc_Garden_planted : FnScope ["self", "plan", "number"] ["self", "plan"] (defScope s_Garden_planted) := ⟨rfl, rfl, rfl, by decide +kernel, rfl, by decide +kernel, by decide +kernel⟩
theorem sc_Garden_steps : FnScope ["self", "place", "other", "rows_between", "columns_between"] ["self", "place", "other"] (defScope s_Garden_steps) := ⟨rfl, rfl, rfl, by decide +kernel, rfl, by decide +kernel, by decide +kernel⟩
theorem sc_tops : FnScope ["garden", "plan", "found", "number", "place"] ["garden", "plan"] (defScope s_tops) := ⟨rfl, rfl, rfl, by decide +kernel, rfl, by decide +kernel, by decide +kernel⟩
theorem sc_places_towards_sun : FnScope ["garden", "place", "whence", "found", "row", "column"] ["garden", "place", "whence"] (defScope s_places_towards_sun) := ⟨rfl, rfl, rfl, by decide +kernel, rfl, by decide +kernel, by decide +kernel⟩
theorem sc_in_sun : FnScope ["garden", "all_tops", "place", "hour", "light", "other"] ["garden", "all_tops", "place", "hour"] (defScope s_in_sun) := ⟨rfl, rfl, rfl, by decide +kernel, rfl, by decide +kernel, by decide +kernel⟩
theorem sc_hours_in_sun : FnScope ["garden", "all_tops", "place", "hour"] ["garden", "all_tops", "place"] (defScope s_hours_in_sun) := ⟨rfl, rfl, rfl, by decide +kernel, rfl, by decide +kernel, by decide +kernel⟩
theorem sc_shortest_way : FnScope ["garden", "plan"] ["garden", "plan"] (defScope s_shortest_way) := ⟨rfl, rfl, rfl, by decide +kernel, rfl, by decide +kernel, by decide +kernel⟩
theorem sc_way_on : FnScope ["garden", "plan", "dry", "place", "in_can", "to_tap", "ways", "number", "goal", "water", "rest", "over_tap", "other"] ["garden", "plan", "dry", "place", "in_can"] (defScope s_way_on) := ⟨rfl, rfl, rfl, by decide +kernel, rfl, by decide +kernel, by decide +kernel⟩
theorem sc_check : FnScope ["garden", "plan", "shaded", "way"] ["garden", "plan"] (defScope s_check) := ⟨rfl, rfl, rfl, by decide +kernel, rfl, by decide +kernel, by decide +kernel⟩
theorem sc_is_plan : FnScope ["garden", "plan", "place"] ["garden", "plan"] (defScope s_is_plan) := ⟨rfl, rfl, rfl, by decide +kernel, rfl, by decide +kernel, by decide +kernel⟩
theorem sc_has_places_of_its_own : FnScope ["garden", "plan", "taken", "number", "place"] ["garden", "plan"] (defScope s_has_places_of_its_own) := ⟨rfl, rfl, rfl, by decide +kernel, rfl, by decide +kernel, by decide +kernel⟩
theorem sc_first_shaded : FnScope ["garden", "plan", "all_tops", "number", "has"] ["garden", "plan"] (defScope s_first_shaded) := ⟨rfl, rfl, rfl, by decide +kernel, rfl, by decide +kernel, by decide +kernel⟩
theorem sc_plan_worth : FnScope ["garden", "plan", "planted", "worth", "number", "other"] ["garden", "plan"] (defScope s_plan_worth) := ⟨rfl, rfl, rfl, by decide +kernel, rfl, by decide +kernel, by decide +kernel⟩
theorem sc_best : FnScope ["garden", "worth", "count", "earliest", "plan", "checked"] ["garden"] (defScope s_best) := ⟨rfl, rfl, rfl, by decide +kernel, rfl, by decide +kernel, by decide +kernel⟩
theorem sc_all_plans : FnScope ["garden", "plans", "known", "longer", "plan", "place"] ["garden"] (defScope s_all_plans) := ⟨rfl, rfl, rfl, by decide +kernel, rfl, by decide +kernel, by decide +kernel⟩
theorem sc_answers : FnScope ["calls", "garden", "answered", "at", "first", "behind", "answer"] ["calls"] (defScope s_answers) := ⟨rfl, rfl, rfl, by decide +kernel, rfl, by decide +kernel, by decide +kernel⟩
theorem sc_answer_call : FnScope ["garden", "call", "numbers"] ["garden", "call", "numbers"] (defScope s_answer_call) := ⟨rfl, rfl, rfl, by decide +kernel, rfl, by decide +kernel, by decide +kernel⟩
end Sb

set_option Elab.async false
set_option linter.all false
set_option maxRecDepth 100000
set_option maxHeartbeats 2000000
namespace Sb
open PySem PySem.Spec PyProof.Rows L2
/-! rules of this proof's own: a list's item in place, set(xs), len of a set, a tuple of the module -/
theorem boo_len : bootBuiltins "len" = some (.builtin "len") := by decide +kernel
theorem boo_min : bootBuiltins "min" = some (.builtin "min") := by decide +kernel
theorem boo_max : bootBuiltins "max" = some (.builtin "max") := by decide +kernel
theorem boo_sum : bootBuiltins "sum" = some (.builtin "sum") := by decide +kernel
theorem boo_all : bootBuiltins "all" = some (.builtin "all") := by decide +kernel
theorem boo_abs : bootBuiltins "abs" = some (.builtin "abs") := by decide +kernel
theorem boo_set : bootBuiltins "set" = some (.type "set") := by decide +kernel
theorem ex_0 (us : List Value) (hl : us.length = 0) : us = [] := List.eq_nil_of_length_eq_zero hl
theorem ex_1 (us : List Value) (hl : us.length = 1) : ∃ a, us = [a] := by
  cases us with
  | nil => cases hl
  | cons a r => exact ⟨a, by rw [ex_0 r (Nat.succ.inj hl)]⟩
theorem ex_2 (us : List Value) (hl : us.length = 2) : ∃ a b, us = [a, b] := by
  cases us with
  | nil => cases hl
  | cons a r =>
    obtain ⟨b, rfl⟩ := ex_1 r (Nat.succ.inj hl)
    exact ⟨a, b, rfl⟩
theorem ex_3 (us : List Value) (hl : us.length = 3) : ∃ a b c, us = [a, b, c] := by
  cases us with
  | nil => cases hl
  | cons a r =>
    obtain ⟨b, c, rfl⟩ := ex_2 r (Nat.succ.inj hl)
    exact ⟨a, b, c, rfl⟩
theorem ex_4 (us : List Value) (hl : us.length = 4) : ∃ a b c d, us = [a, b, c, d] := by
  cases us with
  | nil => cases hl
  | cons a r =>
    obtain ⟨b, c, d, rfl⟩ := ex_3 r (Nat.succ.inj hl)
    exact ⟨a, b, c, d, rfl⟩
theorem ex_5 (us : List Value) (hl : us.length = 5) : ∃ a b c d e, us = [a, b, c, d, e] := by
  cases us with
  | nil => cases hl
  | cons a r =>
    obtain ⟨b, c, d, e, rfl⟩ := ex_4 r (Nat.succ.inj hl)
    exact ⟨a, b, c, d, e, rfl⟩
theorem ex_6 (us : List Value) (hl : us.length = 6) : ∃ a b c d e f, us = [a, b, c, d, e, f] := by
  cases us with
  | nil => cases hl
  | cons a r =>
    obtain ⟨b, c, d, e, f, rfl⟩ := ex_5 r (Nat.succ.inj hl)
    exact ⟨a, b, c, d, e, f, rfl⟩
section
variable {X : Cx}
theorem pget_list : PGet X (fun o i H Q => ∃ p xs, ∃ k : Nat, ∃ v, o = .ref p ∧ i = .int (k : Int) ∧ H p = some (.lst xs) ∧ xs[k]? = some v ∧ Q v H) := by
  intro pins s σ H o i ov iv Q I ro ri h
  obtain ⟨p, xs, k, v, rfl, rfl, hp, hv, q⟩ := h
  cases ro
  obtain ⟨t, rfl⟩ := ri
  obtain ⟨its, r, pl, hz⟩ := I.list (SqL.of hp)
  obtain ⟨w, ew, rw'⟩ := r.get hv
  have hn := line63
  have hl := r.length
  have hk : k < xs.length := (List.getElem?_eq_some_iff.mp hv).1
  exact wpAny_getItem_list pl.isList (by omega) (by omega) (by simpa using ew) ⟨v, H, I, rw', q⟩
theorem cr_setL (hc : X.calm = true) : CallR X (.type "set") (fun xs H Q => ∃ p, ∃ ns : List Int, xs = [.ref p] ∧ SqL X.K H p (ns.map V.int) ∧ ns.length ≤ 1000 ∧
    ∀ l, H l = none → ∀ S, Q (.ref l) (upd H l (.set S (firstMet (fun i => ns.getD i 0) ns.length).length))) := by
  intro pins s σ H xs us Q I r h
  obtain ⟨p, ns, rfl, hq, hn, q⟩ := h
  rw [Vals.ref1 r]
  obtain ⟨its, rv, pl, hz⟩ := I.list hq
  have hl := rv.length
  rw [List.length_map] at hl
  refine call_set_list (ns := ns) (I.ok.hd hc) pl.isList rv.ints (by rw [List.size_toArray, ← hl]; have : scanBound = 4096 := rfl; omega) fun h' tk hS kp => ?_
  have esz : its.toArray.size = ns.length := by simp [hl]
  rw [esz] at hS
  have kp' : ∀ b o, s.heap.get? b = some o → h'.get? b = some o := fun b o e => kp b o (Heap.lt_size e) e
  exact ⟨.ref s.heap.objs.size, _, I.laid (t' := tk) kp' (Nat.le_refl _) (show ObjOk X.prog X.w _ h' _ (.set _ _) from hS), rfl, q _ (I.hok.fresh (Nat.le_refl _)) _⟩
theorem call_lenSet : CallR X (.builtin "len") (fun xs H Q => ∃ p S n, xs = [.ref p] ∧ H p = some (.set S n) ∧ n ≤ 1000 ∧ Q (.int (n : Nat)) H) := by
  intro pins s σ H xs us Q I r h
  obtain ⟨p, S, n, rfl, hp, hn, q⟩ := h
  rw [Vals.ref1 r]
  have hS : s.heap.SetOf (intKind X.prog X.w) p S n := I.hok p _ hp
  obtain ⟨o, es, ep, t, ho, hex, hd, _, _, _, hf, hsz⟩ := hS
  exact call_len_set ho hex hd hf (by omega) ⟨.int (n : Nat), H, I.tok _, ⟨_, by rw [hsz]⟩, q⟩
theorem pe_fldB {K : PySem.W.Frag} {e : Expr} {ta : TE} {f : Str} {pos : Pos} (hK : X.K = K) (he : PE X e ta) (hb : attributeBase e f X.env (eval e X.env) = eval e X.env) : PE X (.Attribute e f pos) (tFld K ta f) := by
  subst hK
  exact pe_fld he hb
theorem ix_listB {K : PySem.W.Frag} (hK : X.K = K) : IxR X (rIxL K) := by
  subst hK
  exact ix_list
end
theorem tup_of {K : PySem.W.Frag} {H : Hp} {a : Addr} {ns : List Int} (h : ∃ (dd : Option Addr) (n : Nat) (sl : Array (Option Value)) (l : List Value), K.lookup a = some ⟨.type "tuple", dd, .seq l.toArray n, sl⟩ ∧ intsB l ns = true) (hz : ns.length ≤ 1000) : SqT K H a (ns.map V.int) := by
  obtain ⟨dd, n, sl, l, hk, hi⟩ := h
  have key : ∀ (l : List Value) (ns : List Int), intsB l ns = true → Vals (ns.map V.int) l := by
    intro l
    induction l with
    | nil =>
      intro ns h
      cases ns with
      | nil => exact .nil
      | cons a r => cases h
    | cons v r ih =>
      intro ns h
      cases ns with
      | nil => cases v <;> cases h
      | cons a q =>
        cases v <;> first | (unfold intsB at h; rw [Bool.and_eq_true, decide_eq_true_iff] at h; obtain ⟨rfl, h⟩ := h; exact .cons ⟨_, rfl⟩ (ih q h)) | cases h
  have V := key l ns hi
  have hl := V.length
  rw [List.length_map] at hl
  exact .inr ⟨_, _, _, hk, rfl, rfl, by rw [List.size_toArray, ← hl]; exact Nat.le_trans hz (by decide), by simpa using V⟩
end Sb

set_option Elab.async false
/-! The shortest way: the fold over all plans is the least of their lengths. -/
namespace Sb
open Si65
def wayStep (y : Yard) (r : Option Best) (l : List Nat) : Option Best :=
  let t := if (false : Bool) = true then trips l else 0
  let n := y.length l
  match r with
  | none => some ⟨t, n, 1, l⟩
  | some x => if better t n x.trips x.length = true then some ⟨t, n, 1, l⟩ else if t = x.trips ∧ n = x.length then some { x with many := x.many + 1 } else some x
theorem way_fold (y : Yard) : ∀ (ps : List (List Nat)) (x : Best), x.trips = 0 → ∃ z : Best, ps.foldl (wayStep y) (some x) = some z ∧ z.trips = 0 ∧ z.length = (ps.map y.length).foldl min x.length
  | [], x, h => ⟨x, rfl, h, rfl⟩
  | l :: ps, x, h => by
    show ∃ z : Best, ps.foldl (wayStep y) (wayStep y (some x) l) = some z ∧ z.trips = 0 ∧ z.length = (ps.map y.length).foldl min (min x.length (y.length l))
    have e : ∃ u : Best, wayStep y (some x) l = some u ∧ u.trips = 0 ∧ u.length = min x.length (y.length l) := by
      show ∃ u : Best, (if better 0 (y.length l) x.trips x.length = true then some (⟨0, y.length l, 1, l⟩ : Best) else if 0 = x.trips ∧ y.length l = x.length then some { x with many := x.many + 1 } else some x) = some u ∧ _
      by_cases c : y.length l < x.length
      · refine ⟨⟨0, y.length l, 1, l⟩, if_pos ?_, rfl, ?_⟩
        · unfold better
          rw [h]
          simp [c]
        · show y.length l = _
          omega
      · have nb : ¬ better 0 (y.length l) x.trips x.length = true := by
          unfold better
          rw [h]
          simp
          omega
        rw [if_neg nb]
        split
        · exact ⟨_, rfl, h, by show x.length = _; omega⟩
        · exact ⟨_, rfl, h, by omega⟩
    obtain ⟨u, e1, e2, e3⟩ := e
    rw [e1, ← e3]
    exact way_fold y ps u e2
/-- the shortest way is the least of the plans' lengths -/
theorem best_len (y : Yard) : (y.best.map fun x => x.length) = (y.plans.map y.length).min? := by
  show ((y.plans.foldl (wayStep y) none).map fun x => x.length) = _
  cases y.plans with
  | nil => rfl
  | cons l ps =>
    show ((ps.foldl (wayStep y) (some ⟨0, y.length l, 1, l⟩)).map fun x => x.length) = _
    obtain ⟨z, e1, _, e3⟩ := way_fold y ps ⟨0, y.length l, 1, l⟩ rfl
    rw [e1]
    show some z.length = some ((ps.map y.length).foldl min (y.length l))
    rw [e3]
theorem way_min (p : Si69.Plot) (l : List Nat) : p.way l = (((p.yard l).plans.map (p.yard l).length).min?).getD 0 := by
  show (((p.yard l).best.map fun x => x.length).getD 0) = _
  rw [best_len]
end Sb

set_option Elab.async false
set_option linter.all false
/-! What the program computes, as plain functions of a plot and a plan; the specification's parts are these. -/
namespace Sb
open Si69
structure WF (p : Plot) : Prop where
  pos : 1 ≤ p.places
  most : p.places ≤ 8
  lev : p.garden.levels.length = p.places
  sta : p.garden.stands.length = p.places
  hours : p.garden.hours.length ≤ 8
  whence : ∀ o ∈ p.garden.hours, o.whence < 8
  plants : p.garden.plants.length ≤ 3
  kinds : p.kinds.length = p.garden.plants.length
  waters : p.waters.length = p.garden.plants.length
  kind : ∀ k ∈ p.kinds, 1 ≤ k ∧ k ≤ 5
  water : ∀ w ∈ p.waters, w ≤ p.can
  tap : p.tap < p.places
  brows : p.bed.rows = p.garden.rows
  bcols : p.bed.cols = p.garden.cols
  likes : p.bed.likes.length = 36
  like0 : ∀ y, y < 6 → p.bed.like 0 y = 0 ∧ p.bed.like y 0 = 0
  sym : ∀ x y, x < 6 → y < 6 → p.bed.like x y = p.bed.like y x
theorem getD_set {α : Type} (l : List α) (i j : Nat) (v d : α) (h : i < l.length) : (l.set i v).getD j d = if i = j then v else l.getD j d := by
  simp only [List.getD_eq_getElem?_getD, List.getElem?_set]
  by_cases e : i = j
  · subst e; simp [h]
  · simp [e]
theorem tell_like (b : Si63.Bed) (x y : Nat) (v : Int) (hl : b.likes.length = 36) (hx : x < 6) (hy : y < 6) (a c : Nat) (ha : a < 6) (hc : c < 6) :
    (b.tell x y v).like a c = if (a = x ∧ c = y) ∨ (a = y ∧ c = x) then v else b.like a c := by
  show ((b.likes.set (6 * x + y) v).set (6 * y + x) v).getD (6 * a + c) 0 = _
  rw [getD_set _ _ _ _ _ (by rw [List.length_set]; omega), getD_set _ _ _ _ _ (by omega)]
  show (if _ then _ else if _ then _ else b.like a c) = _
  by_cases h1 : 6 * y + x = 6 * a + c
  · rw [if_pos h1, if_pos (by omega)]
  · rw [if_neg h1]
    by_cases h2 : 6 * x + y = 6 * a + c
    · rw [if_pos h2, if_pos (by omega)]
    · rw [if_neg h2, if_neg (by omega)]
theorem wf_init : WF Si69.init := by
  refine ⟨by decide, by decide, rfl, rfl, by decide, by simp [Si69.init, Si64.init], by decide, rfl, rfl, by simp [Si69.init], by simp [Si69.init], by decide, rfl, rfl, rfl, ?_, ?_⟩
  · intro y hy
    have : ∀ y : Fin 6, Si69.init.bed.like 0 y.1 = 0 ∧ Si69.init.bed.like y.1 0 = 0 := by decide
    exact this ⟨y, hy⟩
  · intro x y hx hy
    have : ∀ x y : Fin 6, Si69.init.bed.like x.1 y.1 = Si69.init.bed.like y.1 x.1 := by decide
    exact this ⟨x, hx⟩ ⟨y, hy⟩
def laid (r c n f : Nat) : Plot := ⟨⟨r, c, List.replicate (r * c) 0, List.replicate (r * c) 0, [], []⟩, { Si63.init with rows := r, cols := c }, [], [], n, 0, f⟩
theorem wf_laid {r c n f : Nat} (h1 : 1 ≤ r * c) (h2 : r * c ≤ 8) : WF (laid r c n f) := by
  refine ⟨h1, h2, List.length_replicate, List.length_replicate, Nat.zero_le _, by simp [laid], Nat.zero_le _, rfl, rfl, by simp [laid], by simp [laid], h1, rfl, rfl, rfl, ?_, ?_⟩
  · exact wf_init.like0
  · exact wf_init.sym
theorem begins_bad {p : Plot} {r c n f : Nat} (h : ¬ (1 ≤ r * c ∧ r * c ≤ 8) ∨ ¬ (1 ≤ n ∧ n ≤ 1000) ∨ 1000 < f) : Si69.step p (.begins r c n f) = (p, Si69.ok (-1)) := by
  show (if (Si64.step Si64.init (.begins r c)).2.v < 0 ∨ n < 1 ∨ Si65.CAN < n ∨ Si69.FAR < f then (p, Si69.ok (-1)) else _) = _
  refine if_pos ?_
  rcases h with h | h | h
  · refine .inl ?_
    show (if r < 1 ∨ c < 1 ∨ Si64.PLACES < r * c then (Si64.init, Si64.ok (-1)) else _).2.v < 0
    rw [if_pos]
    · decide
    · by_cases h1 : r < 1
      · exact .inl h1
      · by_cases h2 : c < 1
        · exact .inr (.inl h2)
        · have : 1 ≤ r * c := Nat.mul_pos (by omega) (by omega)
          have e : Si64.PLACES = 8 := rfl
          exact .inr (.inr (by omega))
  · have e : Si65.CAN = 1000 := rfl
    omega
  · have e : Si69.FAR = 1000 := rfl
    omega
theorem begins_ok {p : Plot} {r c n f : Nat} (h1 : 1 ≤ r * c) (h2 : r * c ≤ 8) (h3 : 1 ≤ n) (h4 : n ≤ 1000) (h5 : f ≤ 1000) : Si69.step p (.begins r c n f) = (laid r c n f, Si69.ok 0) := by
  have hr : ¬ r < 1 := fun z => by
    have : r = 0 := by omega
    subst this
    omega
  have hc : ¬ c < 1 := fun z => by
    have : c = 0 := by omega
    subst this
    omega
  have e1 : Si64.step Si64.init (.begins r c) = (⟨r, c, List.replicate (r * c) 0, List.replicate (r * c) 0, [], []⟩, Si64.ok 0) := by
    show (if r < 1 ∨ c < 1 ∨ Si64.PLACES < r * c then _ else _) = _
    rw [if_neg]
    have e : Si64.PLACES = 8 := rfl
    omega
  have e2 : Si63.step Si63.init (.begins r c) = ({ Si63.init with rows := r, cols := c }, Si63.ok 0) := by
    show (if r < 1 ∨ c < 1 ∨ Si63.PLACES < r * c then _ else _) = _
    rw [if_neg]
    have e : Si63.PLACES = 8 := rfl
    omega
  show (if (Si64.step Si64.init (.begins r c)).2.v < 0 ∨ n < 1 ∨ Si65.CAN < n ∨ Si69.FAR < f then (p, Si69.ok (-1)) else (⟨(Si64.step Si64.init (.begins r c)).1, (Si63.step Si63.init (.begins r c)).1, [], [], n, 0, f⟩, Si69.ok 0)) = _
  rw [e1, e2, if_neg]
  · rfl
  · have e : Si65.CAN = 1000 := rfl
    have e' : Si69.FAR = 1000 := rfl
    show ¬ ((0 : Int) < 0 ∨ _)
    omega
/-! ### level, stands, hour, plant, like, dislike, tap -/
theorem level_none {p : Plot} {k n : Nat} (h : p.places ≤ k) : Si69.step p (.level k n) = (p, Si69.ok (-2)) := by
  show Si69.ofGarden p (.level k n) = _
  unfold Si69.ofGarden
  have e : Si64.step p.garden (.level k n) = (p.garden, Si64.ok (-2)) := if_pos h
  rw [e]; rfl
theorem level_bad {p : Plot} {k n : Nat} (h : k < p.places) (h2 : 1000 < n) : Si69.step p (.level k n) = (p, Si69.ok (-1)) := by
  show Si69.ofGarden p (.level k n) = _
  unfold Si69.ofGarden
  have e : Si64.step p.garden (.level k n) = (p.garden, Si64.ok (-1)) := (if_neg (Nat.not_le.mpr h)).trans (if_pos h2)
  rw [e]; rfl
def withLevel (p : Plot) (k n : Nat) : Plot := { p with garden := { p.garden with levels := p.garden.levels.set k n } }
def withStand (p : Plot) (k n : Nat) : Plot := { p with garden := { p.garden with stands := p.garden.stands.set k n } }
def withHour (p : Plot) (o : Si64.Hour) : Plot := { p with garden := { p.garden with hours := p.garden.hours ++ [o] } }
def withPlant (p : Plot) (x : Si64.Plant) (k w : Nat) : Plot := { p with garden := { p.garden with plants := p.garden.plants ++ [x] }, kinds := p.kinds ++ [k], waters := p.waters ++ [w] }
def withLike (p : Plot) (x y : Nat) (v : Int) : Plot := { p with bed := p.bed.tell x y v }
def withTap (p : Plot) (k : Nat) : Plot := { p with tap := k }
theorem level_ok {p : Plot} {k n : Nat} (h : k < p.places) (h2 : n ≤ 1000) : Si69.step p (.level k n) = (withLevel p k n, Si69.ok 0) := by
  show Si69.ofGarden p (.level k n) = _
  unfold Si69.ofGarden
  have e : Si64.step p.garden (.level k n) = ({ p.garden with levels := p.garden.levels.set k n }, Si64.ok 0) := (if_neg (Nat.not_le.mpr h)).trans (if_neg (Nat.not_lt.mpr h2))
  rw [e]; rfl
theorem stands_none {p : Plot} {k n : Nat} (h : p.places ≤ k) : Si69.step p (.stands k n) = (p, Si69.ok (-2)) := by
  show Si69.ofGarden p (.stands k n) = _
  unfold Si69.ofGarden
  have e : Si64.step p.garden (.stands k n) = (p.garden, Si64.ok (-2)) := if_pos h
  rw [e]; rfl
theorem stands_bad {p : Plot} {k n : Nat} (h : k < p.places) (h2 : 1000 < n) : Si69.step p (.stands k n) = (p, Si69.ok (-1)) := by
  show Si69.ofGarden p (.stands k n) = _
  unfold Si69.ofGarden
  have e : Si64.step p.garden (.stands k n) = (p.garden, Si64.ok (-1)) := (if_neg (Nat.not_le.mpr h)).trans (if_pos h2)
  rw [e]; rfl
theorem stands_ok {p : Plot} {k n : Nat} (h : k < p.places) (h2 : n ≤ 1000) : Si69.step p (.stands k n) = (withStand p k n, Si69.ok 0) := by
  show Si69.ofGarden p (.stands k n) = _
  unfold Si69.ofGarden
  have e : Si64.step p.garden (.stands k n) = ({ p.garden with stands := p.garden.stands.set k n }, Si64.ok 0) := (if_neg (Nat.not_le.mpr h)).trans (if_neg (Nat.not_lt.mpr h2))
  rw [e]; rfl
theorem hour_bad {p : Plot} {o : Si64.Hour} (h : 7 < o.whence ∨ 1000 < o.rise) : Si69.step p (.hour o) = (p, Si69.ok (-1)) := by
  show Si69.ofGarden p (.hour o) = _
  unfold Si69.ofGarden
  have e : Si64.step p.garden (.hour o) = (p.garden, Si64.ok (-1)) := if_pos (by have e : Si64.MOST = 1000 := rfl; omega)
  rw [e]; rfl
theorem hour_full {p : Plot} {o : Si64.Hour} (h : ¬ (7 < o.whence ∨ 1000 < o.rise)) (h2 : 8 ≤ p.garden.hours.length) : Si69.step p (.hour o) = (p, Si69.ok (-5)) := by
  show Si69.ofGarden p (.hour o) = _
  unfold Si69.ofGarden
  have e : Si64.step p.garden (.hour o) = (p.garden, Si64.ok (-5)) := (if_neg (by have e : Si64.MOST = 1000 := rfl; omega)).trans (if_pos h2)
  rw [e]; rfl
theorem hour_ok {p : Plot} {o : Si64.Hour} (h : ¬ (7 < o.whence ∨ 1000 < o.rise)) (h2 : p.garden.hours.length < 8) : Si69.step p (.hour o) = (withHour p o, Si69.ok (p.garden.hours.length : Nat)) := by
  show Si69.ofGarden p (.hour o) = _
  unfold Si69.ofGarden
  have e : Si64.step p.garden (.hour o) = ({ p.garden with hours := p.garden.hours ++ [o] }, Si64.ok (p.garden.hours.length : Nat)) := (if_neg (by have e : Si64.MOST = 1000 := rfl; omega)).trans (if_neg (by have e : Si64.HOURS = 8 := rfl; omega))
  rw [e]; rfl
def PlantBad (p : Plot) (x : Si64.Plant) (k w : Nat) : Prop := ¬ (1 ≤ x.high ∧ x.high ≤ 1000) ∨ 8 < x.need ∨ 100000 < x.worth ∨ ¬ (1 ≤ k ∧ k ≤ 5) ∨ ¬ (1 ≤ w ∧ w ≤ p.can)
theorem plant_first (x : Si64.Plant) : (Si64.step Si64.init (.plant x)).2.v < 0 ↔ (¬ (1 ≤ x.high ∧ x.high ≤ 1000) ∨ 8 < x.need ∨ 100000 < x.worth) := by
  have e1 : Si64.MOST = 1000 := rfl
  have e2 : Si64.HOURS = 8 := rfl
  have e3 : Si64.WORTH = 100000 := rfl
  show (if x.high < 1 ∨ Si64.MOST < x.high ∨ Si64.HOURS < x.need ∨ Si64.WORTH < x.worth then (Si64.init, Si64.ok (-1)) else if Si64.PLANTS ≤ 0 then _ else _).2.v < 0 ↔ _
  by_cases h : x.high < 1 ∨ Si64.MOST < x.high ∨ Si64.HOURS < x.need ∨ Si64.WORTH < x.worth
  · rw [if_pos h]
    exact ⟨fun _ => by omega, fun _ => by decide⟩
  · rw [if_neg h, if_neg (by decide)]
    exact ⟨fun z => absurd (show (((0 : Nat) : Int)) < 0 from z) (by decide), fun q => absurd q (by omega)⟩
theorem plant_cond (p : Plot) (x : Si64.Plant) (k w : Nat) : (k < 1 ∨ Si63.KINDS ≤ k ∨ w < 1 ∨ p.can < w ∨ (Si64.step Si64.init (.plant x)).2.v < 0) ↔ PlantBad p x k w := by
  rw [plant_first]
  have e1 : Si63.KINDS = 6 := rfl
  unfold PlantBad
  omega
theorem plant_bad {p : Plot} {x : Si64.Plant} {k w : Nat} (h : PlantBad p x k w) : Si69.step p (.plant x k w) = (p, Si69.ok (-1)) := if_pos ((plant_cond ..).mpr h)
theorem plant_full {p : Plot} {x : Si64.Plant} {k w : Nat} (h : ¬ PlantBad p x k w) (h2 : 3 ≤ p.garden.plants.length) : Si69.step p (.plant x k w) = (p, Si69.ok (-5)) :=
  (if_neg (fun z => h ((plant_cond ..).mp z))).trans (if_pos h2)
theorem plant_ok {p : Plot} {x : Si64.Plant} {k w : Nat} (h : ¬ PlantBad p x k w) (h2 : p.garden.plants.length < 3) : Si69.step p (.plant x k w) = (withPlant p x k w, Si69.ok (p.garden.plants.length : Nat)) := by
  have e : Si64.step p.garden (.plant x) = ({ p.garden with plants := p.garden.plants ++ [x] }, Si64.ok (p.garden.plants.length : Nat)) :=
    (if_neg (by have e1 : Si64.MOST = 1000 := rfl; have e2 : Si64.HOURS = 8 := rfl; have e3 : Si64.WORTH = 100000 := rfl; unfold PlantBad at h; omega)).trans (if_neg (by have e : Si64.PLANTS = 4 := rfl; omega))
  refine ((if_neg (fun z => h ((plant_cond ..).mp z))).trans (if_neg (by have e : Si69.PLANTS = 3 := rfl; omega))).trans ?_
  show ({ p with garden := (Si64.step p.garden (.plant x)).1, kinds := p.kinds ++ [k], waters := p.waters ++ [w] }, Si69.ok (Si64.step p.garden (.plant x)).2.v) = _
  rw [e]; rfl
theorem kinds_iff (x y v : Nat) : Si63.kindsOk x y v = false ↔ ¬ (1 ≤ x ∧ x ≤ 5) ∨ ¬ (1 ≤ y ∧ y ≤ 5) ∨ 9 < v := by
  have e1 : Si63.KINDS = 6 := rfl
  have e2 : Si63.MOST = 9 := rfl
  unfold Si63.kindsOk
  rw [Bool.and_eq_false_iff, Bool.and_eq_false_iff, Bool.and_eq_false_iff, Bool.and_eq_false_iff]
  simp only [decide_eq_false_iff_not]
  omega
theorem like_bad {p : Plot} {x y v : Nat} (h : ¬ (1 ≤ x ∧ x ≤ 5) ∨ ¬ (1 ≤ y ∧ y ≤ 5) ∨ 9 < v) : Si69.step p (.like x y v) = (p, Si69.ok (-1)) := by
  show Si69.ofBed p (.like x y v) = _
  unfold Si69.ofBed
  have e : Si63.step p.bed (.like x y v) = (p.bed, Si63.ok (-1)) := if_pos ((kinds_iff ..).mpr h)
  rw [e]; rfl
theorem like_ok {p : Plot} {x y v : Nat} (h : ¬ (¬ (1 ≤ x ∧ x ≤ 5) ∨ ¬ (1 ≤ y ∧ y ≤ 5) ∨ 9 < v)) : Si69.step p (.like x y v) = (withLike p x y (1 * v), Si69.ok 0) := by
  show Si69.ofBed p (.like x y v) = _
  unfold Si69.ofBed
  have e : Si63.step p.bed (.like x y v) = (p.bed.tell x y v, Si63.ok 0) := if_neg (fun z => h ((kinds_iff ..).mp z))
  rw [e, Int.one_mul]; rfl
theorem dislike_bad {p : Plot} {x y v : Nat} (h : ¬ (1 ≤ x ∧ x ≤ 5) ∨ ¬ (1 ≤ y ∧ y ≤ 5) ∨ 9 < v) : Si69.step p (.dislike x y v) = (p, Si69.ok (-1)) := by
  show Si69.ofBed p (.dislike x y v) = _
  unfold Si69.ofBed
  have e : Si63.step p.bed (.dislike x y v) = (p.bed, Si63.ok (-1)) := if_pos ((kinds_iff ..).mpr h)
  rw [e]; rfl
theorem dislike_ok {p : Plot} {x y v : Nat} (h : ¬ (¬ (1 ≤ x ∧ x ≤ 5) ∨ ¬ (1 ≤ y ∧ y ≤ 5) ∨ 9 < v)) : Si69.step p (.dislike x y v) = (withLike p x y (-1 * v), Si69.ok 0) := by
  show Si69.ofBed p (.dislike x y v) = _
  unfold Si69.ofBed
  have e : Si63.step p.bed (.dislike x y v) = (p.bed.tell x y (-(v : Int)), Si63.ok 0) := if_neg (fun z => h ((kinds_iff ..).mp z))
  rw [e, show (-1 * (v : Int)) = -(v : Int) by omega]; rfl
theorem tap_none {p : Plot} {k : Nat} (h : p.places ≤ k) : Si69.step p (.tap k) = (p, Si69.ok (-2)) := if_pos h
theorem tap_ok {p : Plot} {k : Nat} (h : k < p.places) : Si69.step p (.tap k) = (withTap p k, Si69.ok 0) := if_neg (Nat.not_le.mpr h)
/-! ### they keep the plot well-formed -/
theorem wf_level {p : Plot} (W : WF p) (k n : Nat) : WF (withLevel p k n) := { W with lev := by show (p.garden.levels.set k n).length = _; rw [List.length_set]; exact W.lev }
theorem wf_stand {p : Plot} (W : WF p) (k n : Nat) : WF (withStand p k n) := { W with sta := by show (p.garden.stands.set k n).length = _; rw [List.length_set]; exact W.sta }
theorem wf_hour {p : Plot} (W : WF p) {o : Si64.Hour} (h : ¬ (7 < o.whence ∨ 1000 < o.rise)) (h2 : p.garden.hours.length < 8) : WF (withHour p o) :=
  { W with
    hours := by show (p.garden.hours ++ [o]).length ≤ 8; rw [List.length_append]; show _ + 1 ≤ 8; omega
    whence := fun x hx => by
      rcases List.mem_append.mp hx with z | z
      · exact W.whence x z
      · rw [List.mem_singleton.mp z]; omega }
theorem wf_plant {p : Plot} (W : WF p) {x : Si64.Plant} {k w : Nat} (h : ¬ PlantBad p x k w) (h2 : p.garden.plants.length < 3) : WF (withPlant p x k w) :=
  { W with
    plants := by show (p.garden.plants ++ [x]).length ≤ 3; rw [List.length_append]; show _ + 1 ≤ 3; omega
    kinds := by show (p.kinds ++ [k]).length = (p.garden.plants ++ [x]).length; rw [List.length_append, List.length_append, W.kinds]; rfl
    waters := by show (p.waters ++ [w]).length = (p.garden.plants ++ [x]).length; rw [List.length_append, List.length_append, W.waters]; rfl
    kind := fun y hy => by
      rcases List.mem_append.mp hy with z | z
      · exact W.kind y z
      · rw [List.mem_singleton.mp z]; unfold PlantBad at h; omega
    water := fun y hy => by
      rcases List.mem_append.mp hy with z | z
      · exact W.water y z
      · rw [List.mem_singleton.mp z]; unfold PlantBad at h; show w ≤ p.can; omega }
theorem wf_like {p : Plot} (W : WF p) {x y : Nat} (v : Int) (hx : 1 ≤ x ∧ x ≤ 5) (hy : 1 ≤ y ∧ y ≤ 5) : WF (withLike p x y v) :=
  { W with
    likes := by show ((p.bed.likes.set _ v).set _ v).length = 36; rw [List.length_set, List.length_set]; exact W.likes
    like0 := fun a ha => by
      show (p.bed.tell x y v).like 0 a = 0 ∧ (p.bed.tell x y v).like a 0 = 0
      rw [tell_like _ _ _ _ W.likes (by omega) (by omega) _ _ (by omega) ha, tell_like _ _ _ _ W.likes (by omega) (by omega) _ _ ha (by omega), if_neg (by omega), if_neg (by omega)]
      exact W.like0 a ha
    sym := fun a c ha hc => by
      show (p.bed.tell x y v).like a c = (p.bed.tell x y v).like c a
      rw [tell_like _ _ _ _ W.likes (by omega) (by omega) _ _ ha hc, tell_like _ _ _ _ W.likes (by omega) (by omega) _ _ hc ha, W.sym a c ha hc]
      by_cases q : (a = x ∧ c = y) ∨ (a = y ∧ c = x)
      · rw [if_pos q, if_pos (by omega)]
      · rw [if_neg q, if_neg (by omega)] }
theorem wf_tap {p : Plot} (W : WF p) {k : Nat} (h : k < p.places) : WF (withTap p k) := { W with tap := h }
end Sb

set_option Elab.async false
set_option linter.all false
namespace Sb
open Si69
/-! ### what the program computes of a plan -/
def planted (p : Plot) (l : List Nat) : List Nat := (List.range l.length).filter fun i => decide (l.getD i 0 < p.places)
def topStep (p : Plot) (l : List Nat) (t : List Nat) (i : Nat) : List Nat := t.set (l.getD i 0) (t.getD (l.getD i 0) 0 + (p.garden.plant i).high)
def tops0 (p : Plot) : List Nat := (List.range p.places).map fun q => p.garden.level q + p.garden.stand q
def topsM (p : Plot) (l : List Nat) : List Nat := (planted p l).foldl (topStep p l) (tops0 p)
def inSunM (p : Plot) (t : List Nat) (k : Nat) (o : Si64.Hour) : Bool := (p.garden.towards k o.whence).zipIdx.all fun x => decide (t.getD x.1 0 ≤ t.getD k 0 + (x.2 + 1) * o.rise)
def hoursM (p : Plot) (t : List Nat) (k : Nat) : Nat := (p.garden.hours.filter (inSunM p t k)).length
def lackM (p : Plot) (l : List Nat) : Option Nat := (planted p l).find? fun i => decide (hoursM p (topsM p l) (l.getD i 0) < (p.garden.plant i).need)
theorem mem_planted {p : Plot} {l : List Nat} {i : Nat} : i ∈ planted p l ↔ i < l.length ∧ l.getD i 0 < p.places := by
  unfold planted
  rw [List.mem_filter, List.mem_range, decide_eq_true_iff]
theorem set_iff {p : Plot} {l : List Nat} {i : Nat} : p.garden.set_ l i = true ↔ l.getD i 0 < p.places := decide_eq_true_iff
theorem planted_nd (p : Plot) (l : List Nat) : (planted p l).Nodup := List.Nodup.sublist List.filter_sublist List.nodup_range
theorem planted_len (p : Plot) (l : List Nat) : (planted p l).length ≤ l.length := by
  have := List.length_filter_le (fun i => decide (l.getD i 0 < p.places)) (List.range l.length)
  rw [List.length_range] at this
  exact this
/-! ### each planted one has a place of its own -/
structure Fits (p : Plot) (l : List Nat) : Prop where
  free : ∀ i, i ∈ planted p l → p.garden.stand (l.getD i 0) = 0
  apart : ∀ i j, i ∈ planted p l → j < l.length → l.getD j 0 = l.getD i 0 → j = i
theorem fits_of {p : Plot} {l : List Nat} (h : p.garden.fits l = true) : Fits p l := by
  unfold Si64.Garden.fits at h
  rw [List.all_eq_true] at h
  have key : ∀ i, i ∈ planted p l → p.garden.stand (l.getD i 0) = 0 ∧ ∀ j, j < i → l.getD j 0 ≠ l.getD i 0 := fun i hi => by
    obtain ⟨h1, h2⟩ := mem_planted.mp hi
    have q := h i (List.mem_range.mpr h1)
    rw [Bool.or_eq_true, Bool.and_eq_true, Bool.not_eq_true', Bool.not_eq_true', set_iff.mpr h2] at q
    rcases q with q | ⟨q1, q2⟩
    · cases q
    · refine ⟨eq_of_beq q1, fun j hj e => ?_⟩
      rw [List.any_eq_false] at q2
      exact q2 j (List.mem_range.mpr hj) (by rw [e]; exact beq_self_eq_true _)
  refine ⟨fun i hi => (key i hi).1, fun i j hi hj e => ?_⟩
  have hj' : j ∈ planted p l := mem_planted.mpr ⟨hj, by rw [e]; exact (mem_planted.mp hi).2⟩
  by_cases c : j < i
  · exact absurd e ((key i hi).2 j c)
  · by_cases c' : i < j
    · exact absurd e.symm ((key j hj').2 i c')
    · omega
/-! ### sums with one part -/
theorem sum_one {P : Nat → Prop} [DecidablePred P] {h : Nat → Nat} {i0 : Nat} : ∀ {is : List Nat}, is.Nodup → i0 ∈ is → P i0 → (∀ j ∈ is, P j → j = i0) → (is.map fun i => if P i then h i else 0).sum = h i0
  | [], _, m, _, _ => absurd m (by simp)
  | a :: r, nd, m, hp, u => by
    rw [List.nodup_cons] at nd
    rw [List.map_cons, List.sum_cons]
    by_cases e : a = i0
    · subst e
      have z : (r.map fun i => if P i then h i else 0).sum = 0 := by
        have : (r.map fun i => if P i then h i else 0) = r.map fun _ => 0 := List.map_congr_left fun j hj => if_neg fun q => nd.1 (by rw [← u j (List.mem_cons_of_mem _ hj) q]; exact hj)
        rw [this]
        clear this u nd m hp
        induction r with
        | nil => rfl
        | cons b r ih => rw [List.map_cons, List.sum_cons, ih]
      rw [if_pos hp, z, Nat.add_zero]
    · have m' : i0 ∈ r := by
        rcases List.mem_cons.mp m with z | z
        · exact absurd z.symm e
        · exact z
      rw [if_neg fun q => e (u a (List.mem_cons_self ..) q), Nat.zero_add]
      exact sum_one nd.2 m' hp fun j hj q => u j (List.mem_cons_of_mem _ hj) q
theorem sum_none {P : Nat → Prop} [DecidablePred P] {h : Nat → Nat} : ∀ {is : List Nat}, (∀ j ∈ is, ¬ P j) → (is.map fun i => if P i then h i else 0).sum = 0
  | [], _ => rfl
  | a :: r, u => by
    rw [List.map_cons, List.sum_cons, if_neg (u a (List.mem_cons_self ..)), sum_none fun j hj => u j (List.mem_cons_of_mem _ hj)]
/-! ### the tops -/
theorem fold_tops (p : Plot) (l : List Nat) : ∀ (is : List Nat) (t : List Nat), (∀ i ∈ is, l.getD i 0 < t.length) →
    (is.foldl (topStep p l) t).length = t.length ∧ ∀ q, q < t.length → (is.foldl (topStep p l) t).getD q 0 = t.getD q 0 + (is.map fun i => if l.getD i 0 = q then (p.garden.plant i).high else 0).sum
  | [], t, _ => ⟨rfl, fun q _ => rfl⟩
  | i :: r, t, h => by
    have hl : (topStep p l t i).length = t.length := List.length_set
    obtain ⟨h1, h2⟩ := fold_tops p l r (topStep p l t i) fun j hj => by rw [hl]; exact h j (List.mem_cons_of_mem _ hj)
    refine ⟨h1.trans hl, fun q hq => ?_⟩
    rw [List.foldl_cons, h2 q (by rw [hl]; exact hq), List.map_cons, List.sum_cons]
    unfold topStep
    rw [getD_set _ _ _ _ _ (h i (List.mem_cons_self ..))]
    by_cases e : l.getD i 0 = q
    · rw [if_pos e, if_pos e, e]; omega
    · rw [if_neg e, if_neg e]; omega
theorem tops0_len (p : Plot) : (tops0 p).length = p.places := by unfold tops0; rw [List.length_map, List.length_range]
theorem tops0_at (p : Plot) {q : Nat} (h : q < p.places) : (tops0 p).getD q 0 = p.garden.level q + p.garden.stand q := by
  unfold tops0
  rw [List.getD_eq_getElem?_getD, List.getElem?_map, List.getElem?_range h]
  rfl
theorem tops_len (p : Plot) (l : List Nat) : (topsM p l).length = p.places :=
  ((fold_tops p l _ _ fun i hi => by rw [tops0_len]; exact (mem_planted.mp hi).2).1).trans (tops0_len p)
theorem find_first {l : List Nat} {q : Nat} : (∃ i, (List.range l.length).find? (fun i => l.getD i 0 == q) = some i ∧ i < l.length ∧ l.getD i 0 = q) ∨ ((List.range l.length).find? (fun i => l.getD i 0 == q) = none ∧ ∀ i, i < l.length → l.getD i 0 ≠ q) := by
  cases e : (List.range l.length).find? (fun i => l.getD i 0 == q) with
  | some i => exact .inl ⟨i, rfl, List.mem_range.mp (List.mem_of_find?_eq_some e), by have q : (l.getD i 0 == q) = true := List.find?_some (p := fun i => l.getD i 0 == q) e; exact eq_of_beq q⟩
  | none =>
    refine .inr ⟨rfl, fun i hi z => ?_⟩
    have := List.find?_eq_none.mp e i (List.mem_range.mpr hi)
    exact this (by rw [z]; exact beq_self_eq_true _)
theorem high_at {p : Plot} {l : List Nat} (F : Fits p l) {i : Nat} (hi : i ∈ planted p l) : p.garden.high l (l.getD i 0) = (p.garden.plant i).high := by
  unfold Si64.Garden.high
  rcases find_first (l := l) (q := l.getD i 0) with ⟨j, e, hj, ej⟩ | ⟨e, n⟩
  · rw [e]
    have := F.apart i j hi hj ej
    subst this
    rfl
  · exact absurd rfl (n i (mem_planted.mp hi).1)
theorem tops_at {p : Plot} {l : List Nat} (F : Fits p l) {q : Nat} (hq : q < p.places) : (topsM p l).getD q 0 = p.garden.level q + p.garden.high l q := by
  unfold topsM
  rw [(fold_tops p l _ _ fun i hi => by rw [tops0_len]; exact (mem_planted.mp hi).2).2 q (by rw [tops0_len]; exact hq), tops0_at p hq]
  rcases find_first (l := l) (q := q) with ⟨i, e, hi, ei⟩ | ⟨e, n⟩
  · have hm : i ∈ planted p l := mem_planted.mpr ⟨hi, by rw [ei]; exact hq⟩
    have s := sum_one (P := fun i => l.getD i 0 = q) (h := fun i => (p.garden.plant i).high) (planted_nd p l) hm ei fun j hj ej => F.apart i j hm (mem_planted.mp hj).1 (ej.trans ei.symm)
    rw [s, ← ei, high_at F hm, F.free i hm]
    omega
  · have s := sum_none (P := fun i => l.getD i 0 = q) (h := fun i => (p.garden.plant i).high) (is := planted p l) fun j hj => n j (mem_planted.mp hj).1
    rw [s]
    unfold Si64.Garden.high
    rw [e]
    show p.garden.level q + p.garden.stand q + 0 = p.garden.level q + p.garden.stand q
    omega
/-! ### in the sun -/
theorem ray_lt (g : Si64.Garden) (s : Int × Int) : ∀ (f : Nat) (r c : Int), ∀ x ∈ g.ray s f r c, x < g.places
  | 0, _, _, x, h => absurd h (by simp [Si64.Garden.ray])
  | f + 1, r, c, x, h => by
    unfold Si64.Garden.ray at h
    dsimp only at h
    split at h
    · rename_i q
      rcases List.mem_cons.mp h with z | z
      · subst z
        obtain ⟨q1, q2, q3, q4⟩ := q
        show (r + s.1).toNat * g.cols + (c + s.2).toNat < g.rows * g.cols
        have h1 : (r + s.1).toNat + 1 ≤ g.rows := by omega
        have h2 : (c + s.2).toNat < g.cols := by omega
        have h3 := Nat.mul_le_mul_right g.cols h1
        rw [Nat.add_mul, Nat.one_mul] at h3
        omega
      · exact ray_lt g s f _ _ x z
    · cases h
theorem towards_lt (p : Plot) (k d : Nat) : ∀ x ∈ p.garden.towards k d, x < p.places := ray_lt _ _ _ _ _
theorem inSun_eq {p : Plot} {l : List Nat} (F : Fits p l) {i : Nat} (hi : i ∈ planted p l) (o : Si64.Hour) : inSunM p (topsM p l) (l.getD i 0) o = p.garden.inSun (p.garden.high l) (l.getD i 0) (p.garden.plant i).high o := by
  unfold inSunM Si64.Garden.inSun
  rw [Bool.eq_iff_iff, List.all_eq_true, List.all_eq_true]
  have e0 : (topsM p l).getD (l.getD i 0) 0 = p.garden.level (l.getD i 0) + (p.garden.plant i).high := by rw [tops_at F (mem_planted.mp hi).2, high_at F hi]
  have e1 : ∀ x : Nat × Nat, x ∈ (p.garden.towards (l.getD i 0) o.whence).zipIdx → (topsM p l).getD x.1 0 = p.garden.level x.1 + p.garden.high l x.1 := fun x hx =>
    tops_at F (towards_lt p _ _ _ (List.fst_mem_of_mem_zipIdx hx))
  refine ⟨fun h x hx => ?_, fun h x hx => ?_⟩
  · have := h x hx
    rw [decide_eq_true_iff, e0, e1 x hx] at this
    rw [decide_eq_true_iff]
    exact this
  · have := h x hx
    rw [decide_eq_true_iff] at this
    rw [decide_eq_true_iff, e0, e1 x hx]
    exact this
theorem hours_eq {p : Plot} {l : List Nat} (F : Fits p l) {i : Nat} (hi : i ∈ planted p l) : hoursM p (topsM p l) (l.getD i 0) = p.garden.has l i := by
  unfold hoursM Si64.Garden.has Si64.Garden.count
  congr 1
  exact List.filter_congr fun o _ => inSun_eq F hi o
theorem find_congr {α : Type} {f g : α → Bool} : ∀ {l : List α}, (∀ x ∈ l, f x = g x) → l.find? f = l.find? g
  | [], _ => rfl
  | a :: r, h => by
    rw [List.find?_cons, List.find?_cons, h a (List.mem_cons_self ..), find_congr fun x hx => h x (List.mem_cons_of_mem _ hx)]
theorem lack_eq {p : Plot} {l : List Nat} (F : Fits p l) : lackM p l = p.garden.lacks l := by
  unfold lackM Si64.Garden.lacks planted
  rw [List.find?_filter]
  refine find_congr fun i hi => ?_
  by_cases c : l.getD i 0 < p.places
  · rw [hours_eq F (mem_planted.mpr ⟨List.mem_range.mp hi, c⟩), set_iff.mpr c, decide_eq_true c]
    simp
  · have z : p.garden.set_ l i = false := by
      cases q : p.garden.set_ l i with
      | false => rfl
      | true => exact absurd (set_iff.mp q) c
    rw [z, decide_eq_false c]
    simp
theorem lack_planted {p : Plot} {l : List Nat} {i : Nat} (h : lackM p l = some i) : i ∈ planted p l := List.mem_of_find?_eq_some h
end Sb

set_option Elab.async false
set_option linter.all false
namespace Sb
open Si65
/-- the fewest steps from a spot, with so much in the can, to all that are dry and to the tap -/
def wayG (sp : Nat → Spot) (wt : Nat → Nat) (tap : Spot) (can : Nat) : Nat → List Nat → Spot → Nat → Nat
  | 0, _, a, _ => steps a tap
  | f + 1, dry, a, c => if dry = [] then steps a tap else
    ((dry.flatMap fun k => (steps a tap + steps tap (sp k) + wayG sp wt tap can f (dry.filter fun j => j != k) (sp k) (can - wt k)) ::
      (if wt k ≤ c then [steps a (sp k) + wayG sp wt tap can f (dry.filter fun j => j != k) (sp k) (c - wt k)] else [])).min?).getD 0
def Least (S : Nat → Prop) (n : Nat) : Prop := S n ∧ ∀ x, S x → n ≤ x
theorem Least.eq {S : Nat → Prop} {a b : Nat} (h : Least S a) (k : Least S b) : a = b := Nat.le_antisymm (h.2 b k.1) (k.2 a h.1)
theorem min_least {l : List Nat} (h : l ≠ []) : Least (fun x => x ∈ l) (l.min?.getD 0) := by
  cases e : l.min? with
  | none => exact absurd (List.min?_eq_none_iff.mp e) h
  | some m =>
    obtain ⟨h1, h2⟩ := List.min?_eq_some_iff.mp e
    exact ⟨h1, h2⟩
theorem least_min {l : List Nat} {n : Nat} (h : Least (fun x => x ∈ l) n) : l.min?.getD 0 = n := by
  have hl : l ≠ [] := fun z => by have := h.1; rw [z] at this; cases this
  exact (min_least hl).eq h
def okF (y : Yard) : Pos → List Nat → Bool
  | _, [] => true
  | s, k :: l => decide (y.wrong s k = 0) && okF y (y.goes s k) l
theorem fault_ok (y : Yard) : ∀ (l : List Nat) (i : Nat) (s : Pos), (y.fault i s l).isNone = okF y s l
  | [], _, _ => rfl
  | k :: l, i, s => by
    unfold Yard.fault okF
    by_cases h : y.wrong s k = 0
    · rw [if_pos h, fault_ok y l, decide_eq_true h, Bool.true_and]
    · rw [if_neg h, decide_eq_false h, Bool.false_and]; rfl
def Reach (y : Yard) (s : Pos) (P : List (List Nat)) (x : Nat) : Prop := ∃ l ∈ P, okF y s l = true ∧ x = (y.goes (l.foldl y.goes s) 0).time
theorem reach_nil (y : Yard) (s : Pos) : Least (Reach y s [[]]) (s.time + steps (y.spot s.place) y.tap) := by
  refine ⟨⟨[], List.mem_singleton.mpr rfl, rfl, rfl⟩, fun x hx => ?_⟩
  obtain ⟨l, hl, _, rfl⟩ := hx
  rw [List.mem_singleton.mp hl]
  exact Nat.le_refl _
theorem reach_cons {y : Yard} {s : Pos} {k : Nat} {P : List (List Nat)} {x : Nat} (hw : y.wrong s k = 0) (h : Reach y (y.goes s k) P x) : Reach y s (P.map fun l => k :: l) x := by
  obtain ⟨l, hl, ho, e⟩ := h
  refine ⟨k :: l, List.mem_map.mpr ⟨l, hl, rfl⟩, ?_, e⟩
  unfold okF
  rw [decide_eq_true hw, ho]; rfl
theorem of_reach_cons {y : Yard} {s : Pos} {k : Nat} {P : List (List Nat)} {x : Nat} (h : Reach y s (P.map fun l => k :: l) x) : y.wrong s k = 0 ∧ Reach y (y.goes s k) P x := by
  obtain ⟨l, hl, ho, e⟩ := h
  obtain ⟨l', hl', rfl⟩ := List.mem_map.mp hl
  unfold okF at ho
  rw [Bool.and_eq_true, decide_eq_true_iff] at ho
  exact ⟨ho.1, l', hl', ho.2, e⟩
theorem reach_app {y : Yard} {s : Pos} {P Q : List (List Nat)} {x : Nat} : Reach y s (P ++ Q) x ↔ Reach y s P x ∨ Reach y s Q x := by
  constructor
  · rintro ⟨l, hl, r⟩
    rcases List.mem_append.mp hl with z | z
    · exact .inl ⟨l, z, r⟩
    · exact .inr ⟨l, z, r⟩
  · rintro (⟨l, hl, r⟩ | ⟨l, hl, r⟩)
    · exact ⟨l, List.mem_append_left _ hl, r⟩
    · exact ⟨l, List.mem_append_right _ hl, r⟩
theorem reach_flat {y : Yard} {s : Pos} {rest : List Nat} {P : Nat → List (List Nat)} {x : Nat} : Reach y s (rest.flatMap P) x ↔ ∃ k ∈ rest, Reach y s (P k) x := by
  constructor
  · rintro ⟨l, hl, r⟩
    obtain ⟨k, hk, z⟩ := List.mem_flatMap.mp hl
    exact ⟨k, hk, l, z, r⟩
  · rintro ⟨k, hk, l, z, r⟩
    exact ⟨l, List.mem_flatMap.mpr ⟨k, hk, z⟩, r⟩
/-- the yard's spots lie near one another; each pot can be watered, none wilts -/
structure Near (y : Yard) (rest : List Nat) : Prop where
  near : ∀ i j, steps (y.spot i) (y.spot j) ≤ 16
  pos : ∀ k ∈ rest, k ≠ 0
  water : ∀ k ∈ rest, (y.pot k).water ≤ y.can
  wilts : ∀ k ∈ rest, (y.pot k).wilts = LATE
theorem Near.sub {y : Yard} {rest : List Nat} (h : Near y rest) (f : Nat → Bool) : Near y (rest.filter f) :=
  ⟨h.near, fun k hk => h.pos k (List.mem_filter.mp hk).1, fun k hk => h.water k (List.mem_filter.mp hk).1, fun k hk => h.wilts k (List.mem_filter.mp hk).1⟩
theorem wrong_iff {y : Yard} {rest : List Nat} (N : Near y rest) {s : Pos} {k : Nat} (hk : k ∈ rest) (ht : s.time + 16 ≤ LATE) : y.wrong s k = 0 ↔ (y.pot k).water ≤ s.left := by
  unfold Yard.wrong
  rw [if_neg (N.pos k hk)]
  have h1 := N.near s.place k
  have h2 : (y.goes s k).time = s.time + steps (y.spot s.place) (y.spot k) := rfl
  by_cases h : s.left < (y.pot k).water
  · rw [if_pos h]; omega
  · rw [if_neg h, if_neg (by rw [N.wilts k hk, h2]; omega)]; omega
theorem wrong0 (y : Yard) (s : Pos) : y.wrong s 0 = 0 := if_pos rfl
theorem goes0 (y : Yard) (s : Pos) : y.goes s 0 = ⟨0, y.can, s.time + steps (y.spot s.place) y.tap⟩ := rfl
theorem goesk (y : Yard) (s : Pos) {k : Nat} (h : k ≠ 0) : y.goes s k = ⟨k, s.left - (y.pot k).water, s.time + steps (y.spot s.place) (y.spot k)⟩ := by
  unfold Yard.goes
  rw [if_neg h]
theorem filter_lt {rest : List Nat} {k : Nat} (h : k ∈ rest) : (rest.filter fun j => j != k).length < rest.length := by
  refine List.length_filter_lt_length_iff_exists.mpr ⟨k, h, ?_⟩
  simp
theorem plansF (f : Nat) (back : Bool) (rest : List Nat) (h : rest ≠ []) : plansFrom (f + 1) back rest = (if back = true then (plansFrom f false rest).map (fun l => 0 :: l) else []) ++ rest.flatMap fun k => (plansFrom f true (rest.filter fun j => j != k)).map fun l => k :: l := by
  show (if rest = [] then [[]] else _) = _
  rw [if_neg h]
theorem plansN (f : Nat) (back : Bool) : plansFrom (f + 1) back [] = [[]] := rfl
theorem wayG_nil {sp : Nat → Spot} {wt : Nat → Nat} {tap : Spot} {can : Nat} : ∀ (n : Nat) (a : Spot) (c : Nat), wayG sp wt tap can n [] a c = steps a tap
  | 0, _, _ => rfl
  | _ + 1, _, _ => if_pos rfl
def opts (sp : Nat → Spot) (wt : Nat → Nat) (tap : Spot) (can f : Nat) (dry : List Nat) (a : Spot) (c : Nat) : List Nat :=
  dry.flatMap fun k => (steps a tap + steps tap (sp k) + wayG sp wt tap can f (dry.filter fun j => j != k) (sp k) (can - wt k)) ::
      (if wt k ≤ c then [steps a (sp k) + wayG sp wt tap can f (dry.filter fun j => j != k) (sp k) (c - wt k)] else [])
theorem wayG_succ {sp : Nat → Spot} {wt : Nat → Nat} {tap : Spot} {can : Nat} (n : Nat) {dry : List Nat} (h : dry ≠ []) (a : Spot) (c : Nat) : wayG sp wt tap can (n + 1) dry a c = (opts sp wt tap can n dry a c).min?.getD 0 := if_neg h
theorem mem_opts {sp : Nat → Spot} {wt : Nat → Nat} {tap : Spot} {can f : Nat} {dry : List Nat} {a : Spot} {c x : Nat} : x ∈ opts sp wt tap can f dry a c ↔ ∃ k ∈ dry,
    x = steps a tap + steps tap (sp k) + wayG sp wt tap can f (dry.filter fun j => j != k) (sp k) (can - wt k) ∨
    (wt k ≤ c ∧ x = steps a (sp k) + wayG sp wt tap can f (dry.filter fun j => j != k) (sp k) (c - wt k)) := by
  unfold opts
  rw [List.mem_flatMap]
  constructor
  · rintro ⟨k, hk, h⟩
    refine ⟨k, hk, ?_⟩
    rcases List.mem_cons.mp h with z | z
    · exact .inl z
    · split at z
      · rename_i q
        exact .inr ⟨q, List.mem_singleton.mp z⟩
      · cases z
  · rintro ⟨k, hk, h⟩
    refine ⟨k, hk, ?_⟩
    rcases h with z | ⟨q, z⟩
    · exact List.mem_cons.mpr (.inl z)
    · exact List.mem_cons.mpr (.inr (by rw [if_pos q]; exact List.mem_singleton.mpr z))
theorem opts_ne {sp : Nat → Spot} {wt : Nat → Nat} {tap : Spot} {can f : Nat} {dry : List Nat} {a : Spot} {c : Nat} (h : dry ≠ []) : opts sp wt tap can f dry a c ≠ [] := by
  cases dry with
  | nil => exact absurd rfl h
  | cons k r => 
    intro z
    have : steps a tap + steps tap (sp k) + wayG sp wt tap can f ((k :: r).filter fun j => j != k) (sp k) (can - wt k) ∈ opts sp wt tap can f (k :: r) a c := mem_opts.mpr ⟨k, List.mem_cons_self .., .inl rfl⟩
    rw [z] at this
    cases this
theorem way_reach (y : Yard) : ∀ (n f : Nat) (rest : List Nat) (s : Pos), rest.length ≤ n → 2 * n + 1 ≤ f → Near y rest → s.time + 16 * (2 * n + 2) ≤ LATE →
    Least (Reach y s (plansFrom f true rest)) (s.time + wayG y.spot (fun k => (y.pot k).water) y.tap y.can n rest (y.spot s.place) s.left)
  | n, 0, _, _, _, hf, _, _ => absurd hf (by omega)
  | 0, f + 1, rest, s, hl, _, _, _ => by
    have : rest = [] := List.eq_nil_of_length_eq_zero (by omega)
    subst this
    exact reach_nil y s
  | n + 1, 1, rest, s, hl, hf, N, ht => absurd hf (by omega)
  | n + 1, f + 2, rest, s, hl, hf, N, ht => by
    by_cases hr : rest = []
    · subst hr
      rw [plansN, wayG_nil]
      exact reach_nil y s
    rw [plansF _ _ _ hr, if_pos rfl, plansF _ _ _ hr, if_neg (by decide), List.nil_append, wayG_succ n hr]
    have IH1 : ∀ k ∈ rest, Least (Reach y (y.goes (y.goes s 0) k) (plansFrom f true (rest.filter fun j => j != k)))
        (s.time + (steps (y.spot s.place) y.tap + steps y.tap (y.spot k) + wayG y.spot (fun k => (y.pot k).water) y.tap y.can n (rest.filter fun j => j != k) (y.spot k) (y.can - (y.pot k).water))) := fun k hk => by
      have h1 := N.near s.place 0
      have h1' : steps (y.spot s.place) y.tap ≤ 16 := h1
      have h2 := N.near 0 k
      have h2' : steps y.tap (y.spot k) ≤ 16 := h2
      have := filter_lt hk
      have q := way_reach y n f (rest.filter fun j => j != k) (y.goes (y.goes s 0) k) (by omega) (by omega) (N.sub _) (by
        rw [goesk _ _ (N.pos k hk), goes0]
        show s.time + steps (y.spot s.place) y.tap + steps y.tap (y.spot k) + _ ≤ _
        omega)
      rw [goesk _ _ (N.pos k hk), goes0] at q ⊢
      dsimp only at q ⊢
      have e : y.spot 0 = y.tap := rfl
      rw [e] at q ⊢
      rw [Nat.add_assoc s.time, Nat.add_assoc s.time] at q
      rw [Nat.add_assoc s.time (steps (y.spot s.place) y.tap) (steps y.tap (y.spot k))]
      exact q
    have IH2 : ∀ k ∈ rest, Least (Reach y (y.goes s k) (plansFrom (f + 1) true (rest.filter fun j => j != k)))
        (s.time + (steps (y.spot s.place) (y.spot k) + wayG y.spot (fun k => (y.pot k).water) y.tap y.can n (rest.filter fun j => j != k) (y.spot k) (s.left - (y.pot k).water))) := fun k hk => by
      have h1 := N.near s.place k
      have := filter_lt hk
      have q := way_reach y n (f + 1) (rest.filter fun j => j != k) (y.goes s k) (by omega) (by omega) (N.sub _) (by
        rw [goesk _ _ (N.pos k hk)]
        show s.time + steps (y.spot s.place) (y.spot k) + _ ≤ _
        omega)
      rw [goesk _ _ (N.pos k hk)] at q ⊢
      dsimp only at q ⊢
      rw [Nat.add_assoc s.time] at q
      exact q
    have h0 := N.near s.place 0
    have h0' : (y.goes s 0).time = s.time + steps (y.spot s.place) (y.spot 0) := rfl
    have w1 : ∀ k ∈ rest, y.wrong (y.goes s 0) k = 0 := fun k hk => (wrong_iff N hk (by omega)).mpr (N.water k hk)
    have w2 : ∀ k ∈ rest, (y.wrong s k = 0 ↔ (y.pot k).water ≤ s.left) := fun k hk => wrong_iff N hk (by omega)
    obtain ⟨m1, m2⟩ := min_least (opts_ne (sp := y.spot) (wt := fun k => (y.pot k).water) (tap := y.tap) (can := y.can) (f := n) (a := y.spot s.place) (c := s.left) hr)
    refine ⟨?_, fun x hx => ?_⟩
    · obtain ⟨k, hk, h⟩ := mem_opts.mp m1
      rcases h with h | ⟨hw, h⟩
      · rw [h]
        refine reach_app.mpr (.inl (reach_cons (wrong0 y s) (reach_flat.mpr ⟨k, hk, reach_cons (w1 k hk) (IH1 k hk).1⟩)))
      · rw [h]
        exact reach_app.mpr (.inr (reach_flat.mpr ⟨k, hk, reach_cons ((w2 k hk).mpr hw) (IH2 k hk).1⟩))
    · rcases reach_app.mp hx with hx | hx
      · obtain ⟨_, hx⟩ := of_reach_cons hx
        obtain ⟨k, hk, hx⟩ := reach_flat.mp hx
        obtain ⟨_, hx⟩ := of_reach_cons hx
        refine Nat.le_trans (Nat.add_le_add_left (m2 _ (mem_opts.mpr ⟨k, hk, .inl rfl⟩)) _) ((IH1 k hk).2 x hx)
      · obtain ⟨k, hk, hx⟩ := reach_flat.mp hx
        obtain ⟨hw, hx⟩ := of_reach_cons hx
        refine Nat.le_trans (Nat.add_le_add_left (m2 _ (mem_opts.mpr ⟨k, hk, .inr ⟨(w2 k hk).mp hw, rfl⟩⟩)) _) ((IH2 k hk).2 x hx)
theorem steps_self (a : Spot) : steps a a = 0 := by
  unfold steps apart
  omega
theorem way_start (y : Yard) (n : Nat) (rest : List Nat) (hl : rest.length ≤ n) (N : Near y rest) (hn : 16 * (2 * n + 4) ≤ LATE) :
    Least (Reach y y.start (plansFrom (2 * n + 1) false rest)) (wayG y.spot (fun k => (y.pot k).water) y.tap y.can n rest y.tap y.can) := by
  by_cases hr : rest = []
  · subst hr
    rw [plansN, wayG_nil]
    have := reach_nil y y.start
    have e : y.start.time + steps (y.spot y.start.place) y.tap = steps y.tap y.tap := Nat.zero_add _
    rw [e] at this
    exact this
  cases n with
  | zero => exact absurd (List.eq_nil_of_length_eq_zero (by omega)) hr
  | succ n =>
    rw [plansF _ _ _ hr, if_neg (by decide), List.nil_append, wayG_succ n hr]
    have IH : ∀ k ∈ rest, Least (Reach y (y.goes y.start k) (plansFrom (2 * (n + 1)) true (rest.filter fun j => j != k)))
        (steps y.tap (y.spot k) + wayG y.spot (fun k => (y.pot k).water) y.tap y.can n (rest.filter fun j => j != k) (y.spot k) (y.can - (y.pot k).water)) := fun k hk => by
      have h1 := N.near 0 k
      have h1' : steps y.tap (y.spot k) ≤ 16 := h1
      have := filter_lt hk
      have q := way_reach y n (2 * (n + 1)) (rest.filter fun j => j != k) (y.goes y.start k) (by omega) (by omega) (N.sub _) (by
        rw [goesk _ _ (N.pos k hk)]
        show 0 + steps y.tap (y.spot k) + _ ≤ _
        omega)
      rw [goesk _ _ (N.pos k hk)] at q ⊢
      have e : (0 : Nat) + steps y.tap (y.spot k) = steps y.tap (y.spot k) := Nat.zero_add _
      have q' : Least (Reach y ⟨k, y.can - (y.pot k).water, 0 + steps y.tap (y.spot k)⟩ (plansFrom (2 * (n + 1)) true (rest.filter fun j => j != k))) (0 + steps y.tap (y.spot k) + wayG y.spot (fun k => (y.pot k).water) y.tap y.can n (rest.filter fun j => j != k) (y.spot k) (y.can - (y.pot k).water)) := q
      rw [e] at q'
      show Least (Reach y ⟨k, y.can - (y.pot k).water, 0 + steps y.tap (y.spot k)⟩ _) _
      rw [e]
      exact q'
    have w1 : ∀ k ∈ rest, y.wrong y.start k = 0 := fun k hk => (wrong_iff N hk (by show 0 + 16 ≤ LATE; decide)).mpr (N.water k hk)
    obtain ⟨m1, m2⟩ := min_least (opts_ne (sp := y.spot) (wt := fun k => (y.pot k).water) (tap := y.tap) (can := y.can) (f := n) (a := y.tap) (c := y.can) hr)
    refine ⟨?_, fun x hx => ?_⟩
    · obtain ⟨k, hk, h⟩ := mem_opts.mp m1
      refine reach_flat.mpr ⟨k, hk, reach_cons (w1 k hk) ?_⟩
      rcases h with h | ⟨hw, h⟩
      · rw [h, steps_self, Nat.zero_add]
        exact (IH k hk).1
      · rw [h]
        exact (IH k hk).1
    · obtain ⟨k, hk, hx⟩ := reach_flat.mp hx
      obtain ⟨_, hx⟩ := of_reach_cons hx
      exact Nat.le_trans (m2 _ (mem_opts.mpr ⟨k, hk, .inr ⟨N.water k hk, rfl⟩⟩)) ((IH k hk).2 x hx)
def formedN (n : Nat) (l : List Nat) : Bool := (l.all fun k => decide (k ≤ n)) && ((((List.range n).map fun i => i + 1).all fun k => l.count k == 1) && (l == [] || spaced false l))
theorem formed_small : ∀ n, n ≤ 3 → ∀ l ∈ plansFrom (2 * n + 1) false ((List.range n).map fun i => i + 1), formedN n l = true
  | 0, _ => by decide +kernel
  | 1, _ => by decide +kernel
  | 2, _ => by decide +kernel
  | 3, _ => by decide +kernel
  | n + 4, h => absurd h (by omega)
theorem mem_plans (y : Yard) (hn : y.pots.length ≤ 3) (x : Nat) : x ∈ y.plans.map y.length ↔ Reach y y.start (plansFrom (2 * y.pots.length + 1) false y.all_) x := by
  rw [List.mem_map]
  constructor
  · rintro ⟨l, hl, rfl⟩
    obtain ⟨h1, h2⟩ := List.mem_filter.mp hl
    unfold Yard.right at h2
    rw [Bool.and_eq_true, fault_ok] at h2
    exact ⟨l, h1, h2.2, rfl⟩
  · rintro ⟨l, hl, ho, rfl⟩
    refine ⟨l, List.mem_filter.mpr ⟨hl, ?_⟩, rfl⟩
    unfold Yard.right
    rw [Bool.and_eq_true, fault_ok]
    exact ⟨formed_small _ hn l hl, ho⟩
theorem best_way (y : Yard) (hn : y.pots.length ≤ 3) (N : Near y y.all_) : (y.plans.map y.length).min?.getD 0 = wayG y.spot (fun k => (y.pot k).water) y.tap y.can y.pots.length y.all_ y.tap y.can := by
  have hl : y.all_.length ≤ y.pots.length := by unfold Yard.all_; rw [List.length_map, List.length_range]; exact Nat.le_refl _
  have h := way_start y y.pots.length y.all_ hl N (by have : LATE = 1000000 := rfl; omega)
  refine least_min ⟨(mem_plans y hn _).mpr h.1, fun x hx => h.2 x ((mem_plans y hn x).mp hx)⟩
/-! ### by the plants' numbers -/
theorem flat_congr {α β : Type} {f g : α → List β} {l : List α} (h : ∀ x ∈ l, f x = g x) : l.flatMap f = l.flatMap g := by
  rw [List.flatMap_def, List.flatMap_def, List.map_congr_left h]
theorem wayG_congr {sp sp' : Nat → Spot} {wt wt' : Nat → Nat} {tap : Spot} {can : Nat} : ∀ (n : Nat) (dry : List Nat) (a : Spot) (c : Nat), (∀ k ∈ dry, sp k = sp' k ∧ wt k = wt' k) → wayG sp wt tap can n dry a c = wayG sp' wt' tap can n dry a c
  | 0, _, _, _, _ => rfl
  | n + 1, dry, a, c, h => by
    by_cases hr : dry = []
    · subst hr; rw [wayG_nil, wayG_nil]
    rw [wayG_succ n hr, wayG_succ n hr]
    congr 2
    unfold opts
    refine flat_congr fun k hk => ?_
    obtain ⟨e1, e2⟩ := h k hk
    have ih := fun b d => wayG_congr (tap := tap) (can := can) n (dry.filter fun j => j != k) b d fun j hj => h j (List.mem_filter.mp hj).1
    rw [ih, ih, e1, e2]
theorem wayG_map {sp : Nat → Spot} {wt : Nat → Nat} {tap : Spot} {can : Nat} (φ : Nat → Nat) : ∀ (n : Nat) (dry : List Nat) (a : Spot) (c : Nat), (∀ j ∈ dry, ∀ k ∈ dry, φ j = φ k → j = k) → wayG sp wt tap can n (dry.map φ) a c = wayG (fun k => sp (φ k)) (fun k => wt (φ k)) tap can n dry a c
  | 0, _, _, _, _ => rfl
  | n + 1, dry, a, c, h => by
    by_cases hr : dry = []
    · subst hr; rw [List.map_nil, wayG_nil, wayG_nil]
    rw [wayG_succ n hr, wayG_succ n (fun z => hr (List.map_eq_nil_iff.mp z))]
    congr 2
    unfold opts
    rw [List.flatMap_map]
    refine flat_congr fun k hk => ?_
    have ef : ((dry.map φ).filter fun j => j != φ k) = (dry.filter fun j => j != k).map φ := by
      rw [List.filter_map]
      congr 1
      refine List.filter_congr fun j hj => ?_
      show (φ j != φ k) = (j != k)
      by_cases e : j = k
      · subst e; simp
      · have : φ j ≠ φ k := fun z => e (h j hj k hk z)
        rw [bne_iff_ne.mpr e, bne_iff_ne.mpr this]
    have ih := fun b d => wayG_map (sp := sp) (wt := wt) (tap := tap) (can := can) φ n (dry.filter fun j => j != k) b d fun i hi j hj => h i (List.mem_filter.mp hi).1 j (List.mem_filter.mp hj).1
    rw [ef, ih, ih]
/-! ### the way of a plan -/
def wayM (p : Si69.Plot) (l : List Nat) (n : Nat) (dry : List Nat) (k c : Nat) : Nat := wayG (fun i => p.spot (l.getD i 0)) (fun i => p.waters.getD i 0) (p.spot p.tap) p.can n dry (p.spot k) c
theorem yard_pots (p : Si69.Plot) (l : List Nat) : (p.yard l).pots = (planted p l).map fun i => ⟨p.spot (l.getD i 0), p.waters.getD i 0, LATE⟩ := by
  show ((List.range l.length).filterMap fun i => if p.garden.set_ l i = true then some (⟨p.spot (l.getD i 0), p.waters.getD i 0, LATE⟩ : Pot) else none) = _
  unfold planted
  induction (List.range l.length) with
  | nil => rfl
  | cons i r ih =>
    by_cases c : l.getD i 0 < p.places
    · rw [List.filterMap_cons_some (b := ⟨p.spot (l.getD i 0), p.waters.getD i 0, LATE⟩) (by rw [if_pos (set_iff.mpr c)]), ih, List.filter_cons_of_pos (p := fun i => decide (l.getD i 0 < p.places)) (decide_eq_true c), List.map_cons]
    · rw [List.filterMap_cons_none (by rw [if_neg (fun z => c (set_iff.mp z))]), ih, List.filter_cons_of_neg (p := fun i => decide (l.getD i 0 < p.places)) (by rw [decide_eq_false c]; decide)]
theorem spot_small {p : Si69.Plot} (W : WF p) {k : Nat} (h : k < p.places) : (p.spot k).1 ≤ 8 ∧ (p.spot k).2 ≤ 8 := by
  have h8 := W.most
  refine ⟨?_, ?_⟩
  · show k / p.garden.cols ≤ 8
    exact Nat.le_trans (Nat.div_le_self _ _) (by omega)
  · show k % p.garden.cols ≤ 8
    exact Nat.le_trans (Nat.mod_le _ _) (by omega)
theorem steps_small {a b : Spot} (ha : a.1 ≤ 8 ∧ a.2 ≤ 8) (hb : b.1 ≤ 8 ∧ b.2 ≤ 8) : steps a b ≤ 16 := by
  unfold steps apart
  omega
theorem pot_at (p : Si69.Plot) (l : List Nat) {i : Nat} (h : i < (planted p l).length) : (p.yard l).pot (i + 1) = ⟨p.spot (l.getD ((planted p l).getD i 0) 0), p.waters.getD ((planted p l).getD i 0) 0, LATE⟩ := by
  unfold Yard.pot
  rw [yard_pots, Nat.add_sub_cancel, List.getD_eq_getElem?_getD, List.getElem?_map, List.getElem?_eq_getElem h, List.getD_eq_getElem?_getD (l := planted p l), List.getElem?_eq_getElem h]
  rfl
theorem pot_out (p : Si69.Plot) (l : List Nat) {i : Nat} (h : (planted p l).length ≤ i) : (p.yard l).pot (i + 1) = ⟨(0, 0), 0, 0⟩ := by
  unfold Yard.pot
  rw [yard_pots, Nat.add_sub_cancel, List.getD_eq_getElem?_getD, List.getElem?_map, List.getElem?_eq_none h]
  rfl
theorem getD_mem {l : List Nat} {i : Nat} (h : i < l.length) : l.getD i 0 ∈ l := by
  rw [List.getD_eq_getElem?_getD, List.getElem?_eq_getElem h]
  exact List.getElem_mem h
theorem water_le {p : Si69.Plot} (W : WF p) (i : Nat) : p.waters.getD i 0 ≤ p.can := by
  by_cases h : i < p.waters.length
  · exact W.water _ (getD_mem h)
  · rw [List.getD_eq_getElem?_getD, List.getElem?_eq_none (by omega)]
    exact Nat.zero_le _
theorem near_yard {p : Si69.Plot} (W : WF p) (l : List Nat) : Near (p.yard l) (p.yard l).all_ := by
  have small : ∀ i, ((p.yard l).spot i).1 ≤ 8 ∧ ((p.yard l).spot i).2 ≤ 8 := fun i => by
    cases i with
    | zero => exact spot_small W W.tap
    | succ i =>
      show ((p.yard l).pot (i + 1)).at_.1 ≤ 8 ∧ ((p.yard l).pot (i + 1)).at_.2 ≤ 8
      by_cases h : i < (planted p l).length
      · rw [pot_at p l h]
        exact spot_small W (mem_planted.mp (getD_mem h)).2
      · rw [pot_out p l (by omega)]
        decide
  have inn : ∀ k ∈ (p.yard l).all_, ∃ i, k = i + 1 ∧ i < (planted p l).length := fun k hk => by
    obtain ⟨i, hi, rfl⟩ := List.mem_map.mp hk
    refine ⟨i, rfl, ?_⟩
    have := List.mem_range.mp hi
    rw [yard_pots, List.length_map] at this
    exact this
  refine ⟨fun i j => steps_small (small i) (small j), fun k hk => ?_, fun k hk => ?_, fun k hk => ?_⟩
  · obtain ⟨i, rfl, _⟩ := inn k hk
    omega
  · obtain ⟨i, rfl, hi⟩ := inn k hk
    rw [pot_at p l hi]
    exact water_le W _
  · obtain ⟨i, rfl, hi⟩ := inn k hk
    rw [pot_at p l hi]
theorem range_getD : ∀ (l : List Nat), (List.range l.length).map (fun i => l.getD i 0) = l
  | [] => rfl
  | a :: r => by
    rw [List.length_cons, List.range_succ_eq_map, List.map_cons, List.map_map]
    have := range_getD r
    show a :: (List.range r.length).map (fun i => r.getD i 0) = a :: r
    rw [this]
theorem nd_getD : ∀ {l : List Nat}, l.Nodup → ∀ {i j : Nat}, i < l.length → j < l.length → l.getD i 0 = l.getD j 0 → i = j
  | [], _, i, _, hi, _, _ => absurd hi (by simp)
  | a :: r, h, 0, 0, _, _, _ => rfl
  | a :: r, h, 0, j + 1, _, hj, e => absurd (show a ∈ r by have e' : a = r.getD j 0 := e; rw [e']; exact getD_mem (by simpa using hj)) (List.nodup_cons.mp h).1
  | a :: r, h, i + 1, 0, hi, _, e => absurd (show a ∈ r by have e' : r.getD i 0 = a := e; rw [← e']; exact getD_mem (by simpa using hi)) (List.nodup_cons.mp h).1
  | a :: r, h, i + 1, j + 1, hi, hj, e => congrArg (· + 1) (nd_getD (List.nodup_cons.mp h).2 (by simpa using hi) (by simpa using hj) e)
theorem way_eq {p : Si69.Plot} (W : WF p) {l : List Nat} (hl : l.length ≤ 3) : p.way l = wayM p l (planted p l).length (planted p l) p.tap p.can := by
  have hn : (p.yard l).pots.length = (planted p l).length := by rw [yard_pots, List.length_map]
  have h3 := planted_len p l
  rw [way_min, best_way (p.yard l) (by omega) (near_yard W l)]
  have e1 : (p.yard l).all_.map (fun k => (planted p l).getD (k - 1) 0) = planted p l := by
    unfold Yard.all_
    rw [List.map_map, hn]
    exact range_getD (planted p l)
  unfold wayM
  conv => rhs; rw [← e1]
  have inj : ∀ j ∈ (p.yard l).all_, ∀ k ∈ (p.yard l).all_, (planted p l).getD (j - 1) 0 = (planted p l).getD (k - 1) 0 → j = k := fun j hj k hk e => by
    obtain ⟨i, hi, rfl⟩ := List.mem_map.mp hj
    obtain ⟨i', hi', rfl⟩ := List.mem_map.mp hk
    have h1 := List.mem_range.mp hi
    have h2 := List.mem_range.mp hi'
    have := nd_getD (planted_nd p l) (i := i) (j := i') (by omega) (by omega) e
    omega
  rw [wayG_map _ _ _ _ _ inj, List.length_map]
  have e2 : (p.yard l).all_.length = (p.yard l).pots.length := by unfold Yard.all_; rw [List.length_map, List.length_range]
  rw [e2]
  refine wayG_congr _ _ _ _ fun k hk => ?_
  obtain ⟨i, hi, rfl⟩ := List.mem_map.mp hk
  have h1 := List.mem_range.mp hi
  have e := pot_at p l (i := i) (by omega)
  refine ⟨?_, ?_⟩
  · show ((p.yard l).pot (i + 1)).at_ = _
    rw [e]; rfl
  · show ((p.yard l).pot (i + 1)).water = _
    rw [e]; rfl
end Sb

set_option Elab.async false
set_option linter.all false
namespace Sb
open Si65
def kd (p : Si69.Plot) (l : List Nat) (q : Nat) : Nat := match (List.range l.length).find? fun i => l.getD i 0 == q with
  | some i => p.kinds.getD i 0
  | none => 0
def pairTerm (p : Si69.Plot) (l : List Nat) (i j : Nat) : Int := if i < j ∧ steps (p.spot (l.getD i 0)) (p.spot (l.getD j 0)) = 1 then p.bed.like (p.kinds.getD i 0) (p.kinds.getD j 0) else 0
def worthM (p : Si69.Plot) (l : List Nat) : Int := ((planted p l).map fun i => ((p.garden.plant i).worth : Int)).sum + ((planted p l).map fun i => ((planted p l).map fun j => pairTerm p l i j).sum).sum
theorem sum_add {α : Type} (f g : α → Int) : ∀ is : List α, (is.map fun i => f i + g i).sum = (is.map f).sum + (is.map g).sum
  | [] => rfl
  | a :: r => by rw [List.map_cons, List.map_cons, List.map_cons, List.sum_cons, List.sum_cons, List.sum_cons, sum_add f g r]; omega
theorem sum_zero {α : Type} {f : α → Int} : ∀ {is : List α}, (∀ i ∈ is, f i = 0) → (is.map f).sum = 0
  | [], _ => rfl
  | a :: r, h => by rw [List.map_cons, List.sum_cons, h a (List.mem_cons_self ..), sum_zero fun i hi => h i (List.mem_cons_of_mem _ hi)]; rfl
theorem sum_at {f : Nat → Int} {i0 : Nat} : ∀ {is : List Nat}, is.Nodup → i0 ∈ is → (∀ j ∈ is, j ≠ i0 → f j = 0) → (is.map f).sum = f i0
  | [], _, m, _ => absurd m (by simp)
  | a :: r, nd, m, u => by
    rw [List.nodup_cons] at nd
    rw [List.map_cons, List.sum_cons]
    by_cases e : a = i0
    · subst e
      rw [sum_zero fun j hj => u j (List.mem_cons_of_mem _ hj) fun z => nd.1 (by rw [← z]; exact hj), Int.add_zero]
    · have m' : i0 ∈ r := by
        rcases List.mem_cons.mp m with z | z
        · exact absurd z.symm e
        · exact z
      rw [u a (List.mem_cons_self ..) e, Int.zero_add]
      exact sum_at nd.2 m' fun j hj q => u j (List.mem_cons_of_mem _ hj) q
theorem kind_lt {p : Si69.Plot} (W : WF p) (i : Nat) : p.kinds.getD i 0 < 6 := by
  by_cases h : i < p.kinds.length
  · have := W.kind _ (getD_mem h)
    omega
  · rw [List.getD_eq_getElem?_getD, List.getElem?_eq_none (by omega)]
    decide
theorem kd_lt {p : Si69.Plot} (W : WF p) (l : List Nat) (q : Nat) : kd p l q < 6 := by
  unfold kd
  split
  · exact kind_lt W _
  · decide
theorem one_pair {p : Si69.Plot} (W : WF p) {l : List Nat} (F : Fits p l) {a b : Nat} (ha : a < p.places) (hb : b < p.places) :
    p.bed.like (kd p l a) (kd p l b) = ((planted p l).map fun i => ((planted p l).map fun j => if l.getD i 0 = a ∧ l.getD j 0 = b then p.bed.like (p.kinds.getD i 0) (p.kinds.getD j 0) else 0).sum).sum := by
  rcases find_first (l := l) (q := a) with ⟨i, ei, hi, li⟩ | ⟨ei, ni⟩
  · have ki : kd p l a = p.kinds.getD i 0 := by unfold kd; rw [ei]
    have mi : i ∈ planted p l := mem_planted.mpr ⟨hi, by rw [li]; exact ha⟩
    rw [sum_at (i0 := i) (planted_nd p l) mi fun j hj hne => sum_zero fun k _ => if_neg fun z => hne (F.apart i j mi (mem_planted.mp hj).1 (z.1.trans li.symm))]
    rcases find_first (l := l) (q := b) with ⟨j, ej, hj, lj⟩ | ⟨ej, nj⟩
    · have kj : kd p l b = p.kinds.getD j 0 := by unfold kd; rw [ej]
      have mj : j ∈ planted p l := mem_planted.mpr ⟨hj, by rw [lj]; exact hb⟩
      rw [sum_at (i0 := j) (planted_nd p l) mj fun k hk hne => if_neg fun z => hne (F.apart j k mj (mem_planted.mp hk).1 (z.2.trans lj.symm)), if_pos ⟨li, lj⟩, ki, kj]
    · have kj : kd p l b = 0 := by unfold kd; rw [ej]
      rw [sum_zero fun k hk => if_neg fun z => nj k (mem_planted.mp hk).1 z.2, kj]
      exact (W.like0 _ (kd_lt W l a)).2
  · have ki : kd p l a = 0 := by unfold kd; rw [ei]
    rw [sum_zero fun j hj => sum_zero fun k _ => if_neg fun z => ni j (mem_planted.mp hj).1 z.1, ki]
    exact (W.like0 _ (kd_lt W l b)).1
theorem all_pairs {p : Si69.Plot} (W : WF p) {l : List Nat} (F : Fits p l) : ∀ (ps : List (Nat × Nat)), (∀ x ∈ ps, x.1 < p.places ∧ x.2 < p.places) →
    (ps.map fun x => p.bed.like (kd p l x.1) (kd p l x.2)).sum = ((planted p l).map fun i => ((planted p l).map fun j => (ps.count (l.getD i 0, l.getD j 0) : Int) * p.bed.like (p.kinds.getD i 0) (p.kinds.getD j 0)).sum).sum
  | [], _ => by
    rw [List.map_nil, sum_zero fun i _ => sum_zero fun j _ => ?_]
    · rfl
    · rw [List.count_nil]
      exact Int.zero_mul _
  | x :: ps, h => by
    obtain ⟨h1, h2⟩ := h x (List.mem_cons_self ..)
    rw [List.map_cons, List.sum_cons, all_pairs W F ps fun y hy => h y (List.mem_cons_of_mem _ hy), one_pair W F h1 h2, ← sum_add]
    congr 1
    refine List.map_congr_left fun i _ => ?_
    rw [← sum_add]
    congr 1
    refine List.map_congr_left fun j _ => ?_
    rw [List.count_cons]
    by_cases e : l.getD i 0 = x.1 ∧ l.getD j 0 = x.2
    · have : x = (l.getD i 0, l.getD j 0) := by rw [e.1, e.2]
      rw [if_pos e, ← this, if_pos (beq_self_eq_true _), Int.natCast_add, Int.add_mul]
      show _ + _ = _ + 1 * _
      omega
    · have : (x == (l.getD i 0, l.getD j 0)) = false := by
        rw [beq_eq_false_iff_ne]
        intro z
        exact e (by rw [z]; exact ⟨rfl, rfl⟩)
      rw [if_neg e, if_neg (by rw [this]; decide), Int.zero_add]
      rfl
/-! ### neighbours -/
def pairsN (r c : Nat) : List (Nat × Nat) := (List.range (r * c)).flatMap fun p => (if p % c + 1 < c then [(p, p + 1)] else []) ++ if p + c < r * c then [(p, p + c)] else []
theorem pairs_in : ∀ r : Fin 9, ∀ c : Fin 9, r.1 * c.1 ≤ 8 → ∀ x ∈ pairsN r.1 c.1, x.1 < r.1 * c.1 ∧ x.2 < r.1 * c.1 := by decide +kernel
theorem pairs_count : ∀ r : Fin 9, ∀ c : Fin 9, r.1 * c.1 ≤ 8 → ∀ a : Fin 8, a.1 < r.1 * c.1 → ∀ b : Fin 8, b.1 < r.1 * c.1 →
    (a = b → (pairsN r.1 c.1).count (a.1, b.1) = 0) ∧ (a ≠ b → (pairsN r.1 c.1).count (a.1, b.1) + (pairsN r.1 c.1).count (b.1, a.1) = if steps (a.1 / c.1, a.1 % c.1) (b.1 / c.1, b.1 % c.1) = 1 then 1 else 0) := by decide +kernel
theorem sum_sorted {c : Nat → Nat → Int} {L : Nat → Nat → Int} {t : Nat → Nat → Int} : ∀ {is : List Nat}, is.Pairwise (fun a b => a < b) → (∀ i ∈ is, c i i = 0) → (∀ i ∈ is, ∀ j ∈ is, L i j = L j i) → (∀ i ∈ is, ∀ j ∈ is, i < j → (c i j + c j i) * L i j = t i j) → (∀ i ∈ is, ∀ j ∈ is, ¬ i < j → t i j = 0) →
    (is.map fun i => (is.map fun j => c i j * L i j).sum).sum = (is.map fun i => (is.map fun j => t i j).sum).sum
  | [], _, _, _, _, _ => rfl
  | x :: r, pw, h0, hs, h1, h2 => by
    obtain ⟨px, pr⟩ := List.pairwise_cons.mp pw
    have m : ∀ {i}, i ∈ r → i ∈ x :: r := fun h => List.mem_cons_of_mem _ h
    have mx : x ∈ x :: r := List.mem_cons_self ..
    have ih := sum_sorted (c := c) (L := L) (t := t) pr (fun i hi => h0 i (m hi)) (fun i hi j hj => hs i (m hi) j (m hj)) (fun i hi j hj => h1 i (m hi) j (m hj)) fun i hi j hj => h2 i (m hi) j (m hj)
    simp only [List.map_cons, List.sum_cons]
    rw [sum_add, sum_add, ih, h0 x mx, h2 x mx x mx (by omega)]
    have e1 : (r.map fun j => c x j * L x j).sum + (r.map fun i => c i x * L i x).sum = (r.map fun j => t x j).sum := by
      rw [← sum_add]
      congr 1
      refine List.map_congr_left fun j hj => ?_
      rw [← h1 x mx j (m hj) (px j hj), hs j (m hj) x mx, Int.add_mul]
    have e2 : (r.map fun i => t i x).sum = 0 := sum_zero fun i hi => h2 i (m hi) x mx (by have := px i hi; omega)
    rw [e2, ← e1, Int.zero_mul]
    omega
theorem planted_sorted (p : Si69.Plot) (l : List Nat) : (planted p l).Pairwise (fun a b => a < b) := List.Pairwise.filter _ List.pairwise_lt_range
theorem dims {p : Si69.Plot} (W : WF p) : p.garden.rows ≤ 8 ∧ p.garden.cols ≤ 8 ∧ 1 ≤ p.garden.rows ∧ 1 ≤ p.garden.cols := by
  have h1 := W.pos
  have h2 := W.most
  have e : p.places = p.garden.rows * p.garden.cols := rfl
  have hr : 1 ≤ p.garden.rows := Nat.pos_of_ne_zero fun z => by rw [e, z, Nat.zero_mul] at h1; omega
  have hc : 1 ≤ p.garden.cols := Nat.pos_of_ne_zero fun z => by rw [e, z, Nat.mul_zero] at h1; omega
  have a1 := Nat.mul_le_mul_left p.garden.rows hc
  have a2 := Nat.mul_le_mul_right p.garden.cols hr
  omega
theorem row_at (p : Si69.Plot) (l : List Nat) {q : Nat} (h : q < p.places) : (p.row l).getD q 0 = kd p l q := by
  unfold Si69.Plot.row
  rw [List.getD_eq_getElem?_getD, List.getElem?_map, List.getElem?_range h]
  rfl
theorem bed_worth {p : Si69.Plot} (W : WF p) {l : List Nat} (F : Fits p l) : p.bed.worth (p.row l) = ((planted p l).map fun i => ((planted p l).map fun j => pairTerm p l i j).sum).sum := by
  obtain ⟨d1, d2, d3, d4⟩ := dims W
  have eb : p.bed.pairs = pairsN p.garden.rows p.garden.cols := by
    unfold Si63.Bed.pairs Si63.Bed.places pairsN
    rw [W.brows, W.bcols]
  have hin : ∀ x ∈ pairsN p.garden.rows p.garden.cols, x.1 < p.places ∧ x.2 < p.places := pairs_in ⟨p.garden.rows, by omega⟩ ⟨p.garden.cols, by omega⟩ W.most
  unfold Si63.Bed.worth
  rw [eb]
  have e1 : (pairsN p.garden.rows p.garden.cols).map (fun x => p.bed.like ((p.row l).getD x.1 0) ((p.row l).getD x.2 0)) = (pairsN p.garden.rows p.garden.cols).map fun x => p.bed.like (kd p l x.1) (kd p l x.2) :=
    List.map_congr_left fun x hx => by rw [row_at p l (hin x hx).1, row_at p l (hin x hx).2]
  rw [e1, all_pairs W F _ hin]
  have h8 := W.most
  have cnt : ∀ i ∈ planted p l, ∀ j ∈ planted p l, (l.getD i 0 = l.getD j 0 → (pairsN p.garden.rows p.garden.cols).count (l.getD i 0, l.getD j 0) = 0) ∧ (l.getD i 0 ≠ l.getD j 0 → (pairsN p.garden.rows p.garden.cols).count (l.getD i 0, l.getD j 0) + (pairsN p.garden.rows p.garden.cols).count (l.getD j 0, l.getD i 0) = if steps (p.spot (l.getD i 0)) (p.spot (l.getD j 0)) = 1 then 1 else 0) := fun i hi j hj => by
    have a := (mem_planted.mp hi).2
    have b := (mem_planted.mp hj).2
    have q := pairs_count ⟨p.garden.rows, by omega⟩ ⟨p.garden.cols, by omega⟩ W.most ⟨l.getD i 0, by omega⟩ a ⟨l.getD j 0, by omega⟩ b
    refine ⟨fun e => q.1 (Fin.ext e), fun e => q.2 fun z => e (congrArg Fin.val z)⟩
  refine sum_sorted (c := fun i j => ((pairsN p.garden.rows p.garden.cols).count (l.getD i 0, l.getD j 0) : Int)) (L := fun i j => p.bed.like (p.kinds.getD i 0) (p.kinds.getD j 0)) (t := pairTerm p l) (planted_sorted p l) (fun i hi => ?_) (fun i _ j _ => W.sym _ _ (kind_lt W i) (kind_lt W j)) (fun i hi j hj hij => ?_) fun i hi j hj hij => if_neg fun z => hij z.1
  · show (((pairsN p.garden.rows p.garden.cols).count (l.getD i 0, l.getD i 0) : Nat) : Int) = 0
    rw [(cnt i hi i hi).1 rfl]; rfl
  · have ne : l.getD i 0 ≠ l.getD j 0 := fun z => by
      have := F.apart j i hj (mem_planted.mp hi).1 z
      omega
    have q := (cnt i hi j hj).2 ne
    unfold pairTerm
    show ((((pairsN p.garden.rows p.garden.cols).count (l.getD i 0, l.getD j 0) : Nat) : Int) + (((pairsN p.garden.rows p.garden.cols).count (l.getD j 0, l.getD i 0) : Nat) : Int)) * _ = _
    rw [← Int.natCast_add, q]
    by_cases e : steps (p.spot (l.getD i 0)) (p.spot (l.getD j 0)) = 1
    · rw [if_pos e, if_pos ⟨hij, e⟩]
      show 1 * _ = _
      omega
    · rw [if_neg e, if_neg fun z => e z.2]
      show 0 * _ = _
      omega
theorem garden_worth (p : Si69.Plot) (l : List Nat) : ((p.garden.worth l : Nat) : Int) = ((planted p l).map fun i => ((p.garden.plant i).worth : Int)).sum := by
  unfold Si64.Garden.worth planted
  induction List.range l.length with
  | nil => rfl
  | cons i r ih =>
    rw [List.map_cons, List.sum_cons, Int.natCast_add, ih]
    by_cases c : l.getD i 0 < p.places
    · rw [if_pos (set_iff.mpr c), List.filter_cons_of_pos (p := fun i => decide (l.getD i 0 < p.places)) (decide_eq_true c), List.map_cons, List.sum_cons]
    · rw [if_neg (fun z => c (set_iff.mp z)), List.filter_cons_of_neg (p := fun i => decide (l.getD i 0 < p.places)) (by rw [decide_eq_false c]; decide)]
      exact Int.zero_add _
theorem worth_eq {p : Si69.Plot} (W : WF p) {l : List Nat} (F : Fits p l) : worthM p l = p.worth l := by
  unfold worthM Si69.Plot.worth
  rw [garden_worth, bed_worth W F]
end Sb

set_option Elab.async false
set_option linter.all false
namespace Sb
open Si65
def taken (p : Si69.Plot) (l : List Nat) : List Nat := (planted p l).map fun i => l.getD i 0
theorem pw_forall {α : Type} {R : α → α → Prop} (sy : ∀ a b, R a b → R b a) : ∀ {l : List α}, l.Pairwise R → ∀ a ∈ l, ∀ b ∈ l, a ≠ b → R a b
  | [], _, a, ha, _, _, _ => absurd ha (by simp)
  | x :: r, h, a, ha, b, hb, ne => by
    obtain ⟨h1, h2⟩ := List.pairwise_cons.mp h
    rcases List.mem_cons.mp ha with ea | ea
    · rcases List.mem_cons.mp hb with eb | eb
      · exact absurd (ea.trans eb.symm) ne
      · rw [ea]; exact h1 b eb
    · rcases List.mem_cons.mp hb with eb | eb
      · rw [eb]; exact sy _ _ (h1 a ea)
      · exact pw_forall sy h2 a ea b eb ne
theorem taken_nd {p : Si69.Plot} {l : List Nat} (F : Fits p l) : (taken p l).Nodup := by
  unfold taken List.Nodup
  rw [List.pairwise_map]
  refine List.Pairwise.imp_of_mem (fun {a b} ha hb hab e => ?_) (planted_sorted p l)
  have := F.apart b a hb (mem_planted.mp ha).1 e
  omega
theorem fits_iff (p : Si69.Plot) (l : List Nat) : p.garden.fits l = (decide (taken p l).Nodup && (taken p l).all fun k => p.garden.stand k == 0) := by
  rw [Bool.eq_iff_iff, Bool.and_eq_true, decide_eq_true_iff, List.all_eq_true]
  constructor
  · intro h
    have F := fits_of h
    refine ⟨taken_nd F, fun k hk => ?_⟩
    obtain ⟨i, hi, rfl⟩ := List.mem_map.mp hk
    rw [F.free i hi]
    rfl
  · rintro ⟨h1, h2⟩
    unfold Si64.Garden.fits
    rw [List.all_eq_true]
    intro i hi
    have hi := List.mem_range.mp hi
    cases q : p.garden.set_ l i with
    | false => rfl
    | true =>
      have mi : i ∈ planted p l := mem_planted.mpr ⟨hi, set_iff.mp q⟩
      rw [Bool.not_true, Bool.false_or, Bool.and_eq_true, Bool.not_eq_true']
      refine ⟨h2 _ (List.mem_map.mpr ⟨i, mi, rfl⟩), ?_⟩
      rw [List.any_eq_false]
      intro j hj e
      have hj := List.mem_range.mp hj
      have e := eq_of_beq e
      have mj : j ∈ planted p l := mem_planted.mpr ⟨by omega, by rw [e]; exact set_iff.mp q⟩
      unfold taken List.Nodup at h1
      rw [List.pairwise_map] at h1
      exact pw_forall (fun a b z w => z w.symm) h1 j mj i mi (by omega) e
/-! ### check -/
def checkM (p : Si69.Plot) (l : List Nat) : List Int :=
  if p.garden.told l = false then [-1] else if p.garden.fits l = false then [-4] else match lackM p l with
    | some i => [-6, 1, (i : Int), (hoursM p (topsM p l) (l.getD i 0) : Int)]
    | none => if p.far < wayM p l (planted p l).length (planted p l) p.tap p.can then [-6, 2, (wayM p l (planted p l).length (planted p l) p.tap p.can : Int)] else [0, worthM p l, (wayM p l (planted p l).length (planted p l) p.tap p.can : Int)]
theorem told_len {p : Si69.Plot} {l : List Nat} (h : p.garden.told l = true) : l.length = p.garden.plants.length := by
  unfold Si64.Garden.told at h
  rw [Bool.and_eq_true] at h
  exact eq_of_beq h.1
theorem step_check {p : Si69.Plot} (W : WF p) (l : List Nat) : Si69.step p (.check l) = (p, (Si69.step p (.check l)).2) ∧ (Si69.step p (.check l)).2.v :: (Si69.step p (.check l)).2.l = checkM p l := by
  unfold checkM Si69.step
  dsimp only
  by_cases h1 : p.garden.told l = false
  · rw [if_pos h1, if_pos h1]; exact ⟨rfl, rfl⟩
  rw [if_neg h1, if_neg h1]
  by_cases h2 : p.garden.fits l = false
  · rw [if_pos h2, if_pos h2]; exact ⟨rfl, rfl⟩
  rw [if_neg h2, if_neg h2]
  refine ⟨rfl, ?_⟩
  have F : Fits p l := fits_of (by cases q : p.garden.fits l <;> simp_all)
  have h3 : l.length ≤ 3 := by
    have := told_len (p := p) (l := l) (by cases q : p.garden.told l <;> simp_all)
    have := W.plants
    omega
  rw [← lack_eq F, ← way_eq W h3, worth_eq W F]
  cases q : lackM p l with
  | some i =>
    show [(-6 : Int), ((1 : Nat) : Int), (i : Int), (p.garden.has l i : Int)] = _
    rw [← hours_eq F (lack_planted q)]
    rfl
  | none =>
    by_cases h4 : p.far < p.way l
    · simp only [if_pos h4]; rfl
    · simp only [if_neg h4]
/-! ### all plans -/
theorem rows_snoc (k : Nat) : ∀ n, Si64.rows k (n + 1) = (Si64.rows k n).flatMap fun l => (List.range (k + 1)).map fun t => l ++ [t]
  | 0 => by
    show ((List.range (k + 1)).flatMap fun t => [[t]]) = [[]].flatMap _
    rw [List.flatMap_cons, List.flatMap_nil, List.append_nil]
    show _ = (List.range (k + 1)).map fun t => [t]
    induction List.range (k + 1) with
    | nil => rfl
    | cons a r ih => rw [List.flatMap_cons, List.map_cons, ih]; rfl
  | n + 1 => by
    show ((List.range (k + 1)).flatMap fun t => (Si64.rows k (n + 1)).map fun l => t :: l) = ((List.range (k + 1)).flatMap fun t => (Si64.rows k n).map fun l => t :: l).flatMap _
    rw [List.flatMap_assoc]
    refine flat_congr fun t _ => ?_
    rw [rows_snoc k n, List.map_flatMap, List.flatMap_map]
    refine flat_congr fun l _ => ?_
    rw [List.map_map]
    rfl
theorem rows_mem {k : Nat} : ∀ {n : Nat} {l : List Nat}, l ∈ Si64.rows k n → l.length = n ∧ ∀ x ∈ l, x ≤ k
  | 0, l, h => by
    rw [List.mem_singleton.mp h]
    exact ⟨rfl, by simp⟩
  | n + 1, l, h => by
    obtain ⟨t, ht, h⟩ := List.mem_flatMap.mp h
    obtain ⟨m, hm, rfl⟩ := List.mem_map.mp h
    obtain ⟨h1, h2⟩ := rows_mem hm
    refine ⟨by rw [List.length_cons, h1], fun x hx => ?_⟩
    rcases List.mem_cons.mp hx with e | e
    · have := List.mem_range.mp ht
      omega
    · exact h2 x e
theorem rows_last (k : Nat) : ∀ n, List.replicate n k ∈ Si64.rows k n
  | 0 => List.mem_singleton.mpr rfl
  | n + 1 => List.mem_flatMap.mpr ⟨k, List.mem_range.mpr (by omega), List.mem_map.mpr ⟨_, rows_last k n, rfl⟩⟩
theorem rows_len (k : Nat) : ∀ n, (Si64.rows k n).length = (k + 1) ^ n
  | 0 => rfl
  | n + 1 => by
    show ((List.range (k + 1)).flatMap fun t => (Si64.rows k n).map fun l => t :: l).length = _
    have : ∀ r : List Nat, (r.flatMap fun t => (Si64.rows k n).map fun l => t :: l).length = r.length * (k + 1) ^ n := fun r => by
      induction r with
      | nil => simp
      | cons a r ih => rw [List.flatMap_cons, List.length_append, List.length_map, rows_len k n, ih, List.length_cons, Nat.add_mul, Nat.one_mul, Nat.add_comm]
    rw [this, List.length_range, Nat.pow_succ, Nat.mul_comm]
theorem rows_told {p : Si69.Plot} {l : List Nat} (h : l ∈ Si64.rows p.places p.garden.plants.length) : p.garden.told l = true := by
  obtain ⟨h1, h2⟩ := rows_mem h
  unfold Si64.Garden.told
  rw [Bool.and_eq_true, List.all_eq_true]
  exact ⟨by rw [h1]; exact beq_self_eq_true _, fun x hx => decide_eq_true (h2 x hx)⟩
/-! ### the best -/
abbrev BS := Int × Nat × List Nat
def bestStep (p : Si69.Plot) (s : BS) (l : List Nat) : BS :=
  if p.right l = false ∨ p.worth l < s.1 then s else if s.1 < p.worth l then (p.worth l, 1, l) else (s.1, s.2.1 + 1, if s.2.1 = 0 then l else s.2.2)
def specStep (p : Si69.Plot) (r : Option Si69.Best) (l : List Nat) : Option Si69.Best :=
  match r with
  | none => some ⟨p.worth l, 1, l⟩
  | some x => if x.worth < p.worth l then some ⟨p.worth l, 1, l⟩ else if p.worth l = x.worth then some ⟨x.worth, x.many + 1, x.row⟩ else some x
def RelB : Option Si69.Best → BS → Prop
  | none, s => s = (0, 0, [])
  | some x, s => 1 ≤ x.many ∧ ((0 ≤ x.worth ∧ s = (x.worth, x.many, x.row)) ∨ (x.worth < 0 ∧ s = (0, 0, [])))
theorem rel_step {p : Si69.Plot} {r : Option Si69.Best} {s : BS} {l : List Nat} (hr : p.right l = true) (h : RelB r s) : RelB (specStep p r l) (bestStep p s l) := by
  have new : ∀ s : BS, s = (0, 0, []) → RelB (some ⟨p.worth l, 1, l⟩) (bestStep p s l) := fun s e => by
    subst e
    refine ⟨Nat.le_refl _, ?_⟩
    unfold bestStep
    rw [hr]
    show ((0 : Int) ≤ p.worth l ∧ (if true = false ∨ p.worth l < 0 then ((0, 0, []) : BS) else if (0 : Int) < p.worth l then (p.worth l, 1, l) else (0, 0 + 1, if (0 : Nat) = 0 then l else [])) = (p.worth l, 1, l)) ∨ (p.worth l < 0 ∧ (if true = false ∨ p.worth l < 0 then ((0, 0, []) : BS) else _) = (0, 0, []))
    by_cases c : p.worth l < 0
    · exact .inr ⟨c, if_pos (.inr c)⟩
    · refine .inl ⟨by omega, ?_⟩
      rw [if_neg (fun z => z.elim (fun z => nomatch z) fun z => c z)]
      by_cases c2 : (0 : Int) < p.worth l
      · rw [if_pos c2]
      · rw [if_neg c2, if_pos rfl, show p.worth l = 0 by omega]
  cases r with
  | none => exact new s h
  | some x =>
    obtain ⟨hm, h⟩ := h
    unfold specStep
    dsimp only
    rcases h with ⟨h0, e⟩ | ⟨h0, e⟩
    · subst e
      unfold bestStep
      dsimp only
      rw [hr]
      by_cases c1 : x.worth < p.worth l
      · rw [if_pos c1, if_neg (fun z => z.elim (fun z => nomatch z) fun z => absurd z (by omega)), if_pos c1]
        exact ⟨Nat.le_refl _, .inl ⟨show 0 ≤ p.worth l by omega, rfl⟩⟩
      · rw [if_neg c1]
        by_cases c2 : p.worth l = x.worth
        · rw [if_pos c2, if_neg (fun z => z.elim (fun z => nomatch z) fun z => absurd z (by omega)), if_neg c1, if_neg (by omega)]
          exact ⟨Nat.le_add_left _ _, .inl ⟨h0, rfl⟩⟩
        · rw [if_neg c2, if_pos (.inr (by omega))]
          exact ⟨hm, .inl ⟨h0, rfl⟩⟩
    · by_cases c1 : x.worth < p.worth l
      · rw [if_pos c1]; exact new s e
      · have sk : bestStep p s l = s := by
          unfold bestStep
          rw [if_pos]
          subst e
          exact .inr (show p.worth l < 0 by omega)
        rw [if_neg c1, sk]
        by_cases c2 : p.worth l = x.worth
        · rw [if_pos c2]; exact ⟨Nat.le_add_left _ _, .inr ⟨h0, e⟩⟩
        · rw [if_neg c2]; exact ⟨hm, .inr ⟨h0, e⟩⟩
theorem rel_fold {p : Si69.Plot} : ∀ (ls : List (List Nat)) (r : Option Si69.Best) (s : BS), RelB r s → RelB ((ls.filter p.right).foldl (specStep p) r) (ls.foldl (bestStep p) s)
  | [], r, s, h => h
  | l :: ls, r, s, h => by
    cases q : p.right l with
    | true =>
      rw [List.filter_cons_of_pos q, List.foldl_cons, List.foldl_cons]
      exact rel_fold ls _ _ (rel_step q h)
    | false =>
      rw [List.filter_cons_of_neg (by rw [q]; decide), List.foldl_cons]
      have : bestStep p s l = s := if_pos (.inl q)
      rw [this]
      exact rel_fold ls _ _ h
theorem ge_step (p : Si69.Plot) (x : Si69.Best) (l : List Nat) : ∃ y, specStep p (some x) l = some y ∧ x.worth ≤ y.worth ∧ p.worth l ≤ y.worth := by
  unfold specStep
  dsimp only
  by_cases c1 : x.worth < p.worth l
  · rw [if_pos c1]; exact ⟨_, rfl, by show x.worth ≤ p.worth l; omega, Int.le_refl _⟩
  · rw [if_neg c1]
    by_cases c2 : p.worth l = x.worth
    · rw [if_pos c2]; exact ⟨_, rfl, Int.le_refl _, by show p.worth l ≤ x.worth; omega⟩
    · rw [if_neg c2]; exact ⟨_, rfl, Int.le_refl _, by omega⟩
theorem ge_fold (p : Si69.Plot) : ∀ (ls : List (List Nat)) (x : Si69.Best), ∃ y, ls.foldl (specStep p) (some x) = some y ∧ x.worth ≤ y.worth ∧ ∀ l ∈ ls, p.worth l ≤ y.worth
  | [], x => ⟨x, rfl, Int.le_refl _, by simp⟩
  | l :: ls, x => by
    obtain ⟨y, e, h1, h2⟩ := ge_step p x l
    obtain ⟨z, e2, h3, h4⟩ := ge_fold p ls y
    refine ⟨z, by rw [List.foldl_cons, e, e2], by omega, fun m hm => ?_⟩
    rcases List.mem_cons.mp hm with q | q
    · rw [q]; omega
    · exact h4 m q
theorem best_def (p : Si69.Plot) : p.best = p.plans.foldl (specStep p) none := by
  unfold Si69.Plot.best
  congr 1
/-- nowhere at all -/
theorem none_planted (p : Si69.Plot) (n : Nat) : planted p (List.replicate n p.places) = [] := by
  unfold planted
  rw [List.filter_eq_nil_iff]
  intro i hi
  rw [List.length_replicate] at hi
  have hi := List.mem_range.mp hi
  rw [decide_eq_true_iff, List.getD_eq_getElem?_getD, List.getElem?_replicate, if_pos hi]
  exact Nat.lt_irrefl _
theorem none_right {p : Si69.Plot} (W : WF p) : p.right (List.replicate p.garden.plants.length p.places) = true ∧ p.worth (List.replicate p.garden.plants.length p.places) = 0 := by
  have e := none_planted p p.garden.plants.length
  generalize hl : List.replicate p.garden.plants.length p.places = l at e
  have hll : l.length = p.garden.plants.length := by rw [← hl, List.length_replicate]
  have ht : p.garden.told l = true := by rw [← hl]; exact rows_told (rows_last _ _)
  have hf : p.garden.fits l = true := by
    rw [fits_iff]
    unfold taken
    rw [e]
    rfl
  have F := fits_of hf
  refine ⟨?_, ?_⟩
  · unfold Si69.Plot.right Si64.Garden.right
    rw [ht, hf, ← lack_eq F, way_eq W (by have := W.plants; omega)]
    unfold lackM wayM
    rw [e]
    show decide (steps (p.spot p.tap) (p.spot p.tap) ≤ p.far) = true
    rw [steps_self]
    exact decide_eq_true (Nat.zero_le _)
  · rw [← worth_eq W F]
    unfold worthM
    rw [e]
    rfl
def bestM (p : Si69.Plot) : BS := (Si64.rows p.places p.garden.plants.length).foldl (bestStep p) (0, 0, [])
theorem step_best {p : Si69.Plot} (W : WF p) : Si69.step p .best = (p, (Si69.step p .best).2) ∧ (Si69.step p .best).2.v :: (Si69.step p .best).2.l = 0 :: (bestM p).1 :: ((bestM p).2.1 : Int) :: Si69.ints (bestM p).2.2 := by
  refine ⟨rfl, ?_⟩
  have R : RelB p.best (bestM p) := by
    rw [best_def]
    exact rel_fold _ none (0, 0, []) rfl
  obtain ⟨hr, hw⟩ := none_right W
  have hm : List.replicate p.garden.plants.length p.places ∈ p.plans := List.mem_filter.mpr ⟨rows_last _ _, hr⟩
  have G : ∃ x, p.best = some x ∧ 0 ≤ x.worth := by
    rw [best_def]
    cases e : p.plans with
    | nil => rw [e] at hm; cases hm
    | cons l ls =>
      obtain ⟨y, h1, h2, h3⟩ := ge_fold p ls ⟨p.worth l, 1, l⟩
      refine ⟨y, h1, ?_⟩
      rw [e] at hm
      rcases List.mem_cons.mp hm with q | q
      · rw [← hw, q]; exact h2
      · rw [← hw]; exact h3 _ q
  obtain ⟨x, e, h0⟩ := G
  rw [e] at R
  obtain ⟨_, R⟩ := R
  rcases R with ⟨_, R⟩ | ⟨z, _⟩
  · rw [R]
    unfold Si69.step
    dsimp only
    rw [e]
  · omega
/-- what check tells of a told plan -/
theorem check_right {p : Si69.Plot} (W : WF p) {l : List Nat} (ht : p.garden.told l = true) : (p.right l = true ∧ ∃ w, checkM p l = [0, p.worth l, w]) ∨ (p.right l = false ∧ ∃ z r, checkM p l = z :: r ∧ z ≠ 0) := by
  unfold checkM
  rw [if_neg (by rw [ht]; decide)]
  have h3 : l.length ≤ 3 := by
    have := told_len ht
    have := W.plants
    omega
  by_cases h2 : p.garden.fits l = false
  · rw [if_pos h2]
    refine .inr ⟨?_, -4, [], rfl, by decide⟩
    unfold Si69.Plot.right Si64.Garden.right
    rw [ht, h2]; rfl
  rw [if_neg h2]
  have hf : p.garden.fits l = true := by cases q : p.garden.fits l <;> simp_all
  have F : Fits p l := fits_of hf
  have er : p.right l = ((lackM p l).isNone && decide (wayM p l (planted p l).length (planted p l) p.tap p.can ≤ p.far)) := by
    unfold Si69.Plot.right Si64.Garden.right
    rw [ht, hf, ← lack_eq F, way_eq W h3]; rfl
  rw [er, ← worth_eq W F]
  cases q : lackM p l with
  | some i => exact .inr ⟨rfl, -6, _, rfl, by decide⟩
  | none =>
    by_cases h4 : p.far < wayM p l (planted p l).length (planted p l) p.tap p.can
    · refine .inr ⟨by rw [decide_eq_false (by omega)]; rfl, ?_⟩
      simp only [if_pos h4]
      exact ⟨-6, _, rfl, by decide⟩
    · refine .inl ⟨by rw [decide_eq_true (by omega)]; rfl, ?_⟩
      simp only [if_neg h4]
      exact ⟨_, rfl⟩
end Sb

set_option Elab.async false
set_option linter.all false
namespace Sb
theorem step_cases (d : Nat) (h : d < 8) : (Si64.stepOf d).1 = 1 ∨ (Si64.stepOf d).1 = -1 ∨ ((Si64.stepOf d).1 = 0 ∧ ((Si64.stepOf d).2 = 1 ∨ (Si64.stepOf d).2 = -1)) := by
  have : ∀ d : Fin 8, (Si64.stepOf d.1).1 = 1 ∨ (Si64.stepOf d.1).1 = -1 ∨ ((Si64.stepOf d.1).1 = 0 ∧ ((Si64.stepOf d.1).2 = 1 ∨ (Si64.stepOf d.1).2 = -1)) := by decide
  exact this ⟨d, h⟩
theorem step_small (d : Nat) (h : d < 8) : -1 ≤ (Si64.stepOf d).1 ∧ (Si64.stepOf d).1 ≤ 1 ∧ -1 ≤ (Si64.stepOf d).2 ∧ (Si64.stepOf d).2 ≤ 1 := by
  have : ∀ d : Fin 8, -1 ≤ (Si64.stepOf d.1).1 ∧ (Si64.stepOf d.1).1 ≤ 1 ∧ -1 ≤ (Si64.stepOf d.1).2 ∧ (Si64.stepOf d.1).2 ≤ 1 := by decide
  exact this ⟨d, h⟩
/-- how far it may go on at the most -/
def bnd (g : Si64.Garden) (s : Int × Int) (r c : Int) : Nat := if s.1 = 1 then ((g.rows : Int) - r).toNat else if s.1 = -1 then (r + 1).toNat else if s.2 = 1 then ((g.cols : Int) - c).toNat else (c + 1).toNat
def inG (g : Si64.Garden) (r c : Int) : Prop := 0 ≤ r ∧ r < (g.rows : Int) ∧ 0 ≤ c ∧ c < (g.cols : Int)
theorem bnd_in {g : Si64.Garden} {d : Nat} (h : d < 8) {r c : Int} (i : inG g r c) : bnd g (Si64.stepOf d) (r + (Si64.stepOf d).1) (c + (Si64.stepOf d).2) + 1 ≤ bnd g (Si64.stepOf d) r c := by
  obtain ⟨i1, i2, i3, i4⟩ := i
  have hs := step_cases d h
  generalize Si64.stepOf d = s at hs ⊢
  obtain ⟨s1, s2⟩ := s
  dsimp only at hs ⊢
  have n1 : ¬ (-1 : Int) = 1 := by decide
  have n2 : ¬ (0 : Int) = 1 := by decide
  have n3 : ¬ (0 : Int) = -1 := by decide
  rcases hs with e | e | ⟨e, e' | e'⟩ <;> subst e <;> try subst e'
  · simp only [bnd, if_true]; omega
  · simp only [bnd, n1, if_true, if_false]; omega
  · simp only [bnd, n2, n3, if_true, if_false]; omega
  · simp only [bnd, n1, n2, n3, if_true, if_false]; omega
theorem bnd_start {p : Si69.Plot} (W : WF p) {k d : Nat} (hk : k < p.places) (h : d < 8) : bnd p.garden (Si64.stepOf d) (((k / p.garden.cols : Nat) : Int) + (Si64.stepOf d).1) (((k % p.garden.cols : Nat) : Int) + (Si64.stepOf d).2) ≤ p.places := by
  obtain ⟨d1, d2, d3, d4⟩ := dims W
  have e : p.places = p.garden.rows * p.garden.cols := rfl
  have a1 : p.garden.rows ≤ p.places := by rw [e]; exact Nat.le_mul_of_pos_right _ (by omega)
  have a2 : p.garden.cols ≤ p.places := by rw [e]; exact Nat.le_mul_of_pos_left _ (by omega)
  have b1 : k / p.garden.cols < p.garden.rows := Nat.div_lt_of_lt_mul (by rw [Nat.mul_comm]; exact hk)
  have b2 : k % p.garden.cols < p.garden.cols := Nat.mod_lt _ (by omega)
  generalize k / p.garden.cols = kr at b1 ⊢
  generalize k % p.garden.cols = kc at b2 ⊢
  generalize p.places = pp at a1 a2 ⊢
  have hs := step_cases d h
  generalize Si64.stepOf d = s at hs ⊢
  obtain ⟨s1, s2⟩ := s
  dsimp only at hs ⊢
  have n1 : ¬ (-1 : Int) = 1 := by decide
  have n2 : ¬ (0 : Int) = 1 := by decide
  have n3 : ¬ (0 : Int) = -1 := by decide
  rcases hs with e | e | ⟨e, e' | e'⟩ <;> subst e <;> try subst e'
  · simp only [bnd, if_true]; omega
  · simp only [bnd, n1, if_true, if_false]; omega
  · simp only [bnd, n2, n3, if_true, if_false]; omega
  · simp only [bnd, n1, n2, n3, if_true, if_false]; omega
theorem ray_in (g : Si64.Garden) (s : Int × Int) (m : Nat) {r c : Int} (i : inG g r c) : g.ray s (m + 1) (r - s.1) (c - s.2) = (r.toNat * g.cols + c.toNat) :: g.ray s m (r + s.1 - s.1) (c + s.2 - s.2) := by
  rw [show r + s.1 - s.1 = r by omega, show c + s.2 - s.2 = c by omega]
  show (let r' := r - s.1 + s.1; let c' := c - s.2 + s.2; if 0 ≤ r' ∧ r' < (g.rows : Int) ∧ 0 ≤ c' ∧ c' < (g.cols : Int) then (r'.toNat * g.cols + c'.toNat) :: g.ray s m r' c' else []) = _
  dsimp only
  rw [show r - s.1 + s.1 = r by omega, show c - s.2 + s.2 = c by omega]
  exact if_pos i
theorem ray_out (g : Si64.Garden) (s : Int × Int) (m : Nat) {r c : Int} (i : ¬ inG g r c) : g.ray s m (r - s.1) (c - s.2) = [] := by
  cases m with
  | zero => rfl
  | succ m =>
    show (let r' := r - s.1 + s.1; let c' := c - s.2 + s.2; if 0 ≤ r' ∧ r' < (g.rows : Int) ∧ 0 ≤ c' ∧ c' < (g.cols : Int) then (r'.toNat * g.cols + c'.toNat) :: g.ray s m r' c' else []) = _
    dsimp only
    rw [show r - s.1 + s.1 = r by omega, show c - s.2 + s.2 = c by omega]
    exact if_neg i
theorem sun_iff (p : Si69.Plot) (t : List Nat) (k : Nat) (o : Si64.Hour) : inSunM p t k o = true ↔ ∀ i x, (p.garden.towards k o.whence)[i]? = some x → t.getD x 0 ≤ t.getD k 0 + (i + 1) * o.rise := by
  unfold inSunM
  rw [List.all_eq_true]
  constructor
  · intro h i x hx
    have := h (x, i) (List.mk_mem_zipIdx_iff_getElem?.mpr hx)
    exact of_decide_eq_true this
  · rintro h ⟨x, i⟩ hx
    exact decide_eq_true (h i x (List.mk_mem_zipIdx_iff_getElem?.mp hx))
theorem steps_int (a b c d : Nat) : ((Si65.steps (a, b) (c, d) : Nat) : Int) = (if (a : Int) - c < 0 then -((a : Int) - c) else (a : Int) - c) + (if (b : Int) - d < 0 then -((b : Int) - d) else (b : Int) - d) := by
  show (((a - c) + (c - a) + ((b - d) + (d - b)) : Nat) : Int) = _
  split <;> split <;> omega
end Sb

set_option Elab.async false
/-! The request of sunbeds.plot.answers by its calls: plain mathematics over the specification. -/
namespace Sb
open Si69Neutral (callOf)
/-- a call with no lists, as it stands in the request -/
def enc1 : List Int → List Int
  | [] => []
  | p :: ns => p :: (ns.length : Int) :: (ns ++ [0])
def flat : List (List Int) → List Int
  | [] => []
  | c :: r => enc1 c ++ flat r
/-- what is told of the calls from a state on -/
def toldFrom (s : Si69.Plot) (cs : List (List Int)) : List Int := PyFlat.told (PyFlat.played Si69Neutral.step s (cs.map fun c => [c]))
theorem toldFrom_nil (s : Si69.Plot) : toldFrom s [] = [] := rfl
theorem toldFrom_cons (s : Si69.Plot) (c : List Int) (r : List (List Int)) :
    toldFrom s (c :: r) = (((Si69Neutral.step s [c]).2.length : Int) :: (Si69Neutral.step s [c]).2) ++ toldFrom (Si69Neutral.step s [c]).1 r := by
  show PyFlat.told ((Si69Neutral.step s [c]).2 :: PyFlat.played Si69Neutral.step (Si69Neutral.step s [c]).1 (r.map fun c => [c])) = _
  rfl
/-- a call that may be asked: its numbers, the call -/
structure CallIs (c : List Int) (q : Si69.Call) : Prop where
  nat : ∀ z ∈ c, 0 ≤ z ∧ z < 2 ^ 32
  of : callOf c = some q
theorem step_of {c : List Int} {q : Si69.Call} (h : CallIs c q) (s : Si69.Plot) : Si69Neutral.step s [c] = ((Si69.step s q).1, (Si69.step s q).2.v :: (Si69.step s q).2.l) := by
  show (match callOf c with
    | none => (s, [])
    | some q => let r := Si69.step s q; (r.1, r.2.v :: r.2.l)) = _
  rw [h.of]
structure Line (l : List Int) (cs : List (List Int)) : Prop where
  flat : l = flat cs
  each : ∀ c ∈ cs, ∃ q, CallIs c q
  len : cs.length ≤ 60
  ans : PySi69.answers l = toldFrom Si69.init cs
  short : Si69Neutral.short Si69Neutral.start 999999 (cs.map fun c => [c]) = true
theorem put_single : ∀ (cs : List (List Int)), (∀ c ∈ cs, c ≠ []) → PyWide.put (cs.map fun c => [c]) = flat cs
  | [], _ => rfl
  | c :: r, h => by
    have e := put_single r fun d hd => h d (List.mem_cons_of_mem _ hd)
    show PyWide.put1 [c] ++ PyWide.put (r.map fun c => [c]) = enc1 c ++ flat r
    rw [e]
    cases c with
    | nil => exact absurd rfl (h [] (List.mem_cons_self ..))
    | cons p ns =>
      show (p :: ((ns.length : Int) :: ns ++ ((([] : List (List Int)).length : Int) :: []))) ++ flat r = (p :: (ns.length : Int) :: (ns ++ [0])) ++ flat r
      rfl
theorem singles : ∀ (cs : List (List (List Int))), (∀ c ∈ cs, c.length = 1) → ∃ ds : List (List Int), cs = ds.map fun c => [c]
  | [], _ => ⟨[], rfl⟩
  | c :: r, h => by
    obtain ⟨ds, e⟩ := singles r fun d hd => h d (List.mem_cons_of_mem _ hd)
    have h1 := h c (List.mem_cons_self ..)
    match c, h1 with
    | [d], _ => exact ⟨d :: ds, by rw [e]; rfl⟩
theorem line_of {l : List Int} (h : PySi69.answers_asked l = true) : ∃ cs, Line l cs := by
  unfold PySi69.answers_asked at h
  cases e : PySi69.calls l with
  | none => rw [e] at h; cases h
  | some cs =>
    rw [e] at h
    simp only [Bool.and_eq_true] at h
    obtain ⟨h1, h2⟩ := h
    have h1' : cs.length ≤ 60 := of_decide_eq_true h1
    unfold Si69Neutral.asked at h2
    simp only [Bool.and_eq_true] at h2
    obtain ⟨ha, hne, hl, hf, hs⟩ := h2
    have ha' : ∀ c ∈ cs, Si69Neutral.asked1 c = true := List.all_eq_true.mp ha
    have hone : ∀ c ∈ cs, c.length = 1 := fun c hc => by
      have := ha' c hc
      unfold Si69Neutral.asked1 at this
      simp only [Bool.and_eq_true] at this
      exact eq_of_beq this.1
    obtain ⟨ds, rfl⟩ := singles cs hone
    have hcall : ∀ c ∈ ds, ∃ q, CallIs c q := fun c hc => by
      have := ha' [c] (List.mem_map.mpr ⟨c, hc, rfl⟩)
      unfold Si69Neutral.asked1 at this
      simp only [Bool.and_eq_true] at this
      obtain ⟨_, hn, hs⟩ := this
      obtain ⟨q, hq⟩ := Option.isSome_iff_exists.mp hs
      refine ⟨q, fun z hz => ?_, hq⟩
      have := List.all_eq_true.mp hn z hz
      unfold Si69Neutral.natural at this
      simp only [Bool.and_eq_true, decide_eq_true_eq] at this
      exact this
    have hne' : ∀ c ∈ ds, c ≠ [] := fun c hc e => by
      obtain ⟨q, hq⟩ := hcall c hc
      have := hq.of
      rw [e] at this
      cases this
    have hp := PyWide.put_calls _ _ _ e
    refine ⟨ds, by rw [hp.1, put_single ds hne'], hcall, by simpa using h1', ?_, hs⟩
    unfold PySi69.answers
    rw [e]
    rfl
end Sb

set_option Elab.async false
set_option linter.all false
namespace Sb
open Si69Neutral (callOf)
theorem back : ∀ {c : List Int}, (∀ z ∈ c, 0 ≤ z ∧ z < 2 ^ 32) → c = (c.map Int.toNat).map fun n : Nat => (n : Int)
  | [], _ => rfl
  | z :: c, h => by
    have h0 := (h z (List.mem_cons_self ..)).1
    have e := back fun y hy => h y (List.mem_cons_of_mem _ hy)
    show z :: c = ((z.toNat : Nat) : Int) :: (c.map Int.toNat).map fun n : Nat => (n : Int)
    rw [← e, Int.toNat_of_nonneg h0]
def nums (l : List Nat) : List Int := l.map fun n : Nat => (n : Int)
/-- the ten calls by their numbers -/
inductive Shape : Nat → List Nat → Si69.Call → Prop
  | begins (r c n f : Nat) : Shape 0 [r, c, n, f] (.begins r c n f)
  | level (k n : Nat) : Shape 1 [k, n] (.level k n)
  | stands (k n : Nat) : Shape 2 [k, n] (.stands k n)
  | hour (w r : Nat) : Shape 3 [w, r] (.hour ⟨w, r⟩)
  | plant (h n w k a : Nat) : Shape 4 [h, n, w, k, a] (.plant ⟨h, n, w⟩ k a)
  | like (a b v : Nat) : Shape 5 [a, b, v] (.like a b v)
  | dislike (a b v : Nat) : Shape 6 [a, b, v] (.dislike a b v)
  | tap (k : Nat) : Shape 7 [k] (.tap k)
  | check (l : List Nat) : l.length ≤ 5 → Shape 8 l (.check l)
  | best : Shape 9 [] .best
theorem shape_of {c : List Int} {q : Si69.Call} (h : CallIs c q) : ∃ o ns, c = nums (o :: ns) ∧ Shape o ns q ∧ ns.length ≤ 5 ∧ ∀ n ∈ ns, n < 2 ^ 32 := by
  have e := back h.nat
  have hb : ∀ n ∈ c.map Int.toNat, n < 2 ^ 32 := fun n hn => by
    obtain ⟨z, hz, rfl⟩ := List.mem_map.mp hn
    have := h.nat z hz
    omega
  have ho := h.of
  unfold callOf at ho
  rw [e]
  generalize c.map Int.toNat = d at ho hb ⊢
  have fin : ∀ (o : Nat) (ns : List Nat), d = o :: ns → Shape o ns q → ns.length ≤ 5 → ∃ o ns, nums d = nums (o :: ns) ∧ Shape o ns q ∧ ns.length ≤ 5 ∧ ∀ n ∈ ns, n < 2 ^ 32 := fun o ns e s hl =>
    ⟨o, ns, by rw [e], s, hl, fun n hn => hb n (by rw [e]; exact List.mem_cons_of_mem _ hn)⟩
  have bad : (none : Option Si69.Call) = some q → False := fun z => nomatch z
  cases d with
  | nil => exact (bad ho).elim
  | cons o ns =>
    rcases o with _ | _ | _ | _ | _ | _ | _ | _ | _ | _ | o
    · rcases ns with _ | ⟨r, _ | ⟨c, _ | ⟨n, _ | ⟨f, _ | ⟨x, t⟩⟩⟩⟩⟩
      · exact (bad ho).elim
      · exact (bad ho).elim
      · exact (bad ho).elim
      · exact (bad ho).elim
      · cases (show some (Si69.Call.begins r c n f) = some q from ho); exact fin _ _ rfl (.begins ..) (by simp)
      · exact (bad ho).elim
    · rcases ns with _ | ⟨k, _ | ⟨n, _ | ⟨x, t⟩⟩⟩
      · exact (bad ho).elim
      · exact (bad ho).elim
      · cases (show some (Si69.Call.level k n) = some q from ho); exact fin _ _ rfl (.level ..) (by simp)
      · exact (bad ho).elim
    · rcases ns with _ | ⟨k, _ | ⟨n, _ | ⟨x, t⟩⟩⟩
      · exact (bad ho).elim
      · exact (bad ho).elim
      · cases (show some (Si69.Call.stands k n) = some q from ho); exact fin _ _ rfl (.stands ..) (by simp)
      · exact (bad ho).elim
    · rcases ns with _ | ⟨k, _ | ⟨n, _ | ⟨x, t⟩⟩⟩
      · exact (bad ho).elim
      · exact (bad ho).elim
      · cases (show some (Si69.Call.hour ⟨k, n⟩) = some q from ho); exact fin _ _ rfl (.hour ..) (by simp)
      · exact (bad ho).elim
    · rcases ns with _ | ⟨h, _ | ⟨n, _ | ⟨w, _ | ⟨k, _ | ⟨a, _ | ⟨x, t⟩⟩⟩⟩⟩⟩
      · exact (bad ho).elim
      · exact (bad ho).elim
      · exact (bad ho).elim
      · exact (bad ho).elim
      · exact (bad ho).elim
      · cases (show some (Si69.Call.plant ⟨h, n, w⟩ k a) = some q from ho); exact fin _ _ rfl (.plant ..) (by simp)
      · exact (bad ho).elim
    · rcases ns with _ | ⟨a, _ | ⟨b, _ | ⟨v, _ | ⟨x, t⟩⟩⟩⟩
      · exact (bad ho).elim
      · exact (bad ho).elim
      · exact (bad ho).elim
      · cases (show some (Si69.Call.like a b v) = some q from ho); exact fin _ _ rfl (.like ..) (by simp)
      · exact (bad ho).elim
    · rcases ns with _ | ⟨a, _ | ⟨b, _ | ⟨v, _ | ⟨x, t⟩⟩⟩⟩
      · exact (bad ho).elim
      · exact (bad ho).elim
      · exact (bad ho).elim
      · cases (show some (Si69.Call.dislike a b v) = some q from ho); exact fin _ _ rfl (.dislike ..) (by simp)
      · exact (bad ho).elim
    · rcases ns with _ | ⟨k, _ | ⟨x, t⟩⟩
      · exact (bad ho).elim
      · cases (show some (Si69.Call.tap k) = some q from ho); exact fin _ _ rfl (.tap ..) (by simp)
      · exact (bad ho).elim
    · by_cases hl : ns.length ≤ 5
      · have ho : (if ns.length ≤ 5 then some (Si69.Call.check ns) else none) = some q := ho
        rw [if_pos hl] at ho
        cases ho; exact fin _ _ rfl (.check _ hl) hl
      · have ho : (if ns.length ≤ 5 then some (Si69.Call.check ns) else none) = some q := ho
        rw [if_neg hl] at ho
        exact (bad ho).elim
    · rcases ns with _ | ⟨x, t⟩
      · cases (show some Si69.Call.best = some q from ho); exact fin _ _ rfl .best (by simp)
      · exact (bad ho).elim
    · exact (bad ho).elim
/-- what the calls that change tell is one number -/
theorem one_told (p : Si69.Plot) (q : Si69.Call) (h1 : ∀ l, q ≠ .check l) (h2 : q ≠ .best) : (Si69.step p q).2.l = [] := by
  cases q with
  | begins r c n f => unfold Si69.step; dsimp only; split <;> rfl
  | level k n => rfl
  | stands k n => rfl
  | hour o => rfl
  | plant x k w =>
    unfold Si69.step
    dsimp only
    split
    · rfl
    · split <;> rfl
  | like a b v => rfl
  | dislike a b v => rfl
  | tap k => unfold Si69.step; dsimp only; split <;> rfl
  | check l => exact absurd rfl (h1 l)
  | best => exact absurd rfl h2
theorem check_len (p : Si69.Plot) (l : List Nat) : (checkM p l).length ≤ 4 := by
  unfold checkM
  split
  · decide
  · split
    · decide
    · split
      · simp
      · split <;> simp
end Sb

set_option Elab.async false
set_option linter.all false
set_option maxRecDepth 100000
set_option maxHeartbeats 2000000
namespace Sb
open PySem PySem.Spec PyProof.Rows L2
abbrev nat (n : Nat) : V := .int (n : Int)
abbrev nats (l : List Nat) : List V := l.map nat
theorem kept {H : Hp} {a b : Addr} {o u : HO} (h : H a = some o) (n : H b = none) : upd H b u a = some o := (upd_ne (ne_of_none h n)).trans h
theorem _root_.L2.Same.new {H : Hp} {p : Addr} {o : HO} (n : H p = none) : Same H (upd H p o) := fun b u e => kept e n
theorem _root_.L2.Same.upd {H H' : Hp} {p : Addr} {o : HO} (s : Same H H') (n : H p = none) : Same H (upd H' p o) := fun b u e => by
  rw [upd_ne (ne_of_none e n)]
  exact s b u e
theorem ltk {n : Nat} (h : Nat.ble (n + 1) 1000 = true) : n < 1000 := Nat.le_of_ble_eq_true h
theorem in_yes {σ : L2.St} {H : Hp} {A B : Hp → Prop} (h : A H) : tYes σ H (fun b H3 => if b = true then A H3 else B H3) := iteT (A := A H) (B := B H) h
theorem len_ok {n : Nat} (h : Nat.ble n 100 = true) : n ≤ sizeLine := Nat.le_trans (Nat.le_of_ble_eq_true h) (by decide)
theorem iteDT {c A B : Prop} [Decidable c] (h : c) (k : A) : if decide c = true then A else B := by
  rw [decide_eq_true h]
  exact iteT k
theorem iteDF {c A B : Prop} [Decidable c] (h : ¬ c) (k : B) : if decide c = true then A else B := by
  rw [decide_eq_false h]
  exact iteF k
theorem iteNT {c A B : Prop} [Decidable c] (h : ¬ c) (k : A) : if (!decide c) = true then A else B := by
  rw [decide_eq_false h]
  exact iteT k
theorem iteNF {c A B : Prop} [Decidable c] (h : c) (k : B) : if (!decide c) = true then A else B := by
  rw [decide_eq_true h]
  exact iteF k
theorem nats_append (a b : List Nat) : nats (a ++ b) = nats a ++ nats b := List.map_append
theorem nats_set (l : List Nat) (k n : Nat) : nats (l.set k n) = (nats l).set k (nat n) := List.map_set
theorem nats_at {l : List Nat} {i : Nat} (h : i < l.length) : (nats l)[i]? = some (nat (l.getD i 0)) := by
  rw [List.getElem?_map, List.getElem?_eq_getElem h, List.getD_eq_getElem?_getD, List.getElem?_eq_getElem h]
  rfl
theorem at_nats {l : List Nat} {i : Nat} (h : i < l.length) : atI (nats l) (i : Int) = some (nat (l.getD i 0)) := atI_nat (nats_at h)
theorem small_line {n : Nat} (h : n ≤ 100000) : n < sizeLine := Nat.lt_of_le_of_lt h (by decide)
theorem ixN_nat {n k : Nat} (h : k < n) : ixN n (k : Int) = some k := by
  unfold ixN
  rw [if_pos (by omega), if_pos (by omega)]
  rfl
theorem within_eq {n l g : Int} {c : Prop} [Decidable c] (h : c ↔ l ≤ n ∧ n ≤ g) : (decide (l ≤ n) && decide (n ≤ g)) = decide c := by
  rw [Bool.eq_iff_iff, Bool.and_eq_true, decide_eq_true_iff, decide_eq_true_iff, decide_eq_true_iff]
  exact h.symm
structure Lay where
  g : Addr
  dx : Addr
  la : Addr
  ha : Addr
  hl : Addr
  pl : Addr
  lk : Addr
  hs : List Addr
  ps : List Addr
  kvs : List (List Key × V)
  n : Nat
def gf (p : Si69.Plot) (L : Lay) : List (Str × V) := [("rows", nat p.garden.rows), ("columns", nat p.garden.cols), ("places", nat (p.garden.rows * p.garden.cols)), ("can", nat p.can), ("longest_way", nat p.far), ("tap_place", nat p.tap),
  ("levels", .ref L.la), ("heights", .ref L.ha), ("hours", .ref L.hl), ("plants", .ref L.pl), ("likings", .ref L.lk)]
def hf (o : Si64.Hour) : List (Str × V) := [("whence", nat o.whence), ("rise", nat o.rise)]
def pf (x : Si64.Plant) (k w : Nat) : List (Str × V) := [("high", nat x.high), ("needed_hours", nat x.need), ("worth", nat x.worth), ("kind", nat k), ("water", nat w)]
def key2 (x y : Nat) : List Key := [.inl ((min x y : Nat) : Int), .inl ((max x y : Nat) : Int)]
/-- how the garden lies in the heap -/
structure GA (a : Ad) (H : Hp) (L : Lay) (p : Si69.Plot) : Prop where
  wf : WF p
  ins : H L.g = some (.ins a.C_Garden L.dx (gf p L))
  lev : H L.la = some (.lst (nats p.garden.levels))
  hei : H L.ha = some (.lst (nats p.garden.stands))
  hrs : H L.hl = some (.lst (L.hs.map V.ref))
  pls : H L.pl = some (.lst (L.ps.map V.ref))
  lik : H L.lk = some (.dT L.kvs)
  hlen : L.hs.length = p.garden.hours.length
  hat : ∀ (i : Nat) (b : Addr), L.hs[i]? = some b → ∃ o d, p.garden.hours[i]? = some o ∧ H b = some (.ins a.C_Hour d (hf o))
  plen : L.ps.length = p.garden.plants.length
  pat : ∀ (i : Nat) (b : Addr), L.ps[i]? = some b → ∃ d, H b = some (.ins a.C_Plant d (pf (p.garden.plant i) (p.kinds.getD i 0) (p.waters.getD i 0)))
  lok : ∀ x y, 1 ≤ x → x ≤ 5 → 1 ≤ y → y ≤ 5 → (valV L.kvs (key2 x y)).getD (.int 0) = .int (p.bed.like x y)
  few : L.kvs.length ≤ L.n
  nd : [L.la, L.ha, L.hl, L.pl].Nodup
theorem GA.same {a : Ad} {H H' : Hp} {L : Lay} {p : Si69.Plot} (G : GA a H L p) (s : Same H H') : GA a H' L p :=
  { G with
    ins := s _ _ G.ins
    lev := s _ _ G.lev
    hei := s _ _ G.hei
    hrs := s _ _ G.hrs
    pls := s _ _ G.pls
    lik := s _ _ G.lik
    hat := fun i b h => by
      obtain ⟨o, d, e, q⟩ := G.hat i b h
      exact ⟨o, d, e, s _ _ q⟩
    pat := fun i b h => by
      obtain ⟨d, q⟩ := G.pat i b h
      exact ⟨d, s _ _ q⟩ }
def Own (L : Lay) (b : Addr) : Prop := b = L.g ∨ b = L.la ∨ b = L.ha ∨ b = L.hl ∨ b = L.pl ∨ b = L.lk
def Keeps (S : Addr → Prop) (H H' : Hp) : Prop := ∀ b o, H b = some o → ¬ S b → H' b = some o
def After (a : Ad) (H : Hp) (L : Lay) (p' : Si69.Plot) (v : V) (Q : VK) : Prop := ∀ H' L', GA a H' L' p' → L'.g = L.g → L'.n ≤ L.n + 1 → Keeps (Own L) H H' → (∀ b, Own L' b → Own L b ∨ H b = none) → Q v H'
def NewL (H : Hp) (xs : List V) (Q : VK) : Prop := ∀ D H', Same H H' → H D = none → H' D = some (.lst xs) → Q (.ref D) H'
section
variable {P : Program} {w : World} {K : PySem.W.Frag} {mg : Str → Option Value} {base : Heap} {a : Ad}
def spWithin : Sp := fun vs H Q _ => ∃ n l g : Int, vs = [.int n, .int l, .int g] ∧ Q (.bl (decide (l ≤ n) && decide (n ≤ g))) H
theorem ok_within (M : Md K mg a) : FnOk P w K mg base CX0 1 a.f_within a.d_within ["number", "least", "greatest"] spWithin := by
  refine M.F_within.ok sc_within (fun vs H Q E h => ?_) (fun cdv A outer s H vs Q E hr h => ?_)
  · obtain ⟨n, l, g, rfl, _⟩ := h
    rfl
  · obtain ⟨n, l, g, rfl, k⟩ := h
    have nd := sc_within.nd
    refine ⟨_, (pss_one (ps_ret (pe_chain op_le op_le (pv 1) (pv 0) (pv 2)))), ?_⟩
    refine ⟨_, rfl, _, rfl, _, _, rfl, rfl, _, rfl, ?_⟩
    by_cases e : l ≤ n
    · rw [decide_eq_true e] at k ⊢
      refine iteT ⟨_, rfl, _, _, rfl, rfl, ?_⟩
      exact k
    · rw [decide_eq_false e] at k ⊢
      exact iteF k
def spOrder : Sp := fun vs H Q _ => ∃ x y : Nat, vs = [nat x, nat y] ∧ ∀ t, H t = none → Q (.ref t) (upd H t (.tup ((key2 x y).map kV)))
theorem ok_in_order (M : Md K mg a) : FnOk P w K mg base CX0 1 a.f_in_order a.d_in_order ["kind", "other"] spOrder := by
  refine M.F_in_order.ok sc_in_order (fun vs H Q E h => ?_) (fun cdv A outer s H vs Q E hr h => ?_)
  · obtain ⟨_, _, rfl, _⟩ := h
    rfl
  · obtain ⟨x, y, rfl, k⟩ := h
    have nd := sc_in_order.nd
    refine ⟨_, (pss_one (ps_ret (pe_tup (pa_cons (pe_callB (call_min2 rfl) (by rfl) M.n_min boo_min (pa_cons (pv 0) (pa_cons (pv 1) pa_nil))) (pa_cons (pe_callB (call_max2 rfl) (by rfl) M.n_max boo_max (pa_cons (pv 0) (pa_cons (pv 1) pa_nil))) pa_nil))))), ?_⟩
    refine ⟨_, rfl, _, rfl, _, _, rfl, _, rfl, _, rfl, _, _, rfl, (by show 2 ≤ sizeLine; decide), fun t ht => ?_⟩
    have e1 : (if (y : Int) < (x : Int) then (y : Int) else (x : Int)) = ((min x y : Nat) : Int) := by
      by_cases c : y < x
      · rw [if_pos (by omega), Nat.min_eq_right (by omega)]
      · rw [if_neg (by omega), Nat.min_eq_left (by omega)]
    have e2 : (if (y : Int) > (x : Int) then (y : Int) else (x : Int)) = ((max x y : Nat) : Int) := by
      by_cases c : x < y
      · rw [if_pos (by omega), Nat.max_eq_right (by omega)]
      · rw [if_neg (by omega), Nat.max_eq_left (by omega)]
    rw [e1, e2]
    exact k t ht
def spHourI (a : Ad) : Sp := fun vs H Q _ => ∃ x dx w r, vs = [.ref x, w, r] ∧ H x = some (.ins a.C_Hour dx []) ∧ Q .non (upd H x (.ins a.C_Hour dx [("whence", w), ("rise", r)]))
theorem ok_Hour_init (M : Md K mg a) : FnOk P w K mg base CX0 1 a.f_Hour_init a.d_Hour_init ["self", "whence", "rise"] (spHourI a) := by
  refine M.F_Hour_init.ok sc_Hour_init (fun vs H Q E h => ?_) (fun cdv A outer s H vs Q E hr h => ?_)
  · obtain ⟨_, _, _, _, rfl, _⟩ := h
    rfl
  · obtain ⟨x, dx, u, r, rfl, hx, k⟩ := h
    refine ⟨_, (pss_cons (ps_fld (pv 0) (pv 1) rfl)
      (pss_one (ps_fld (pv 0) (pv 2) rfl))), ?_⟩
    refine ⟨_, rfl, _, rfl, x, _, dx, _, rfl, hx, M.cl_Hour, M.na_Hour_whence, (by decide), ?_⟩
    refine ⟨_, rfl, _, rfl, x, _, dx, _, rfl, upd_same, M.cl_Hour, M.na_Hour_rise, (by show 1 < 1000; decide), ?_⟩
    rw [upd_upd]
    exact k
def spPlantI (a : Ad) : Sp := fun vs H Q _ => ∃ x dx v1 v2 v3 v4 v5, vs = [.ref x, v1, v2, v3, v4, v5] ∧ H x = some (.ins a.C_Plant dx []) ∧ Q .non (upd H x (.ins a.C_Plant dx [("high", v1), ("needed_hours", v2), ("worth", v3), ("kind", v4), ("water", v5)]))
theorem ok_Plant_init (M : Md K mg a) : FnOk P w K mg base CX0 1 a.f_Plant_init a.d_Plant_init ["self", "high", "needed_hours", "worth", "kind", "water"] (spPlantI a) := by
  refine M.F_Plant_init.ok sc_Plant_init (fun vs H Q E h => ?_) (fun cdv A outer s H vs Q E hr h => ?_)
  · obtain ⟨_, _, _, _, _, _, _, rfl, _⟩ := h
    rfl
  · obtain ⟨x, dx, v1, v2, v3, v4, v5, rfl, hx, k⟩ := h
    refine ⟨_, (pss_cons (ps_fld (pv 0) (pv 1) rfl)
      (pss_cons (ps_fld (pv 0) (pv 2) rfl)
      (pss_cons (ps_fld (pv 0) (pv 3) rfl)
      (pss_cons (ps_fld (pv 0) (pv 4) rfl)
      (pss_one (ps_fld (pv 0) (pv 5) rfl)))))), ?_⟩
    refine ⟨_, rfl, _, rfl, x, _, dx, _, rfl, hx, M.cl_Plant, M.na_Plant_high, (by decide), ?_⟩
    refine ⟨_, rfl, _, rfl, x, _, dx, _, rfl, upd_same, M.cl_Plant, M.na_Plant_needed_hours, (by show 1 < 1000; decide), ?_⟩
    rw [upd_upd]
    refine ⟨_, rfl, _, rfl, x, _, dx, _, rfl, upd_same, M.cl_Plant, M.na_Plant_worth, (by show 2 < 1000; decide), ?_⟩
    rw [upd_upd]
    refine ⟨_, rfl, _, rfl, x, _, dx, _, rfl, upd_same, M.cl_Plant, M.na_Plant_kind, (by show 3 < 1000; decide), ?_⟩
    rw [upd_upd]
    refine ⟨_, rfl, _, rfl, x, _, dx, _, rfl, upd_same, M.cl_Plant, M.na_Plant_water, (by show 4 < 1000; decide), ?_⟩
    rw [upd_upd]
    exact k
def spLay (a : Ad) : Sp := fun vs H Q _ => ∃ (g dx : Addr) (fs : List (Str × V)) (r c n f : Nat), vs = [.ref g, nat r, nat c, nat n, nat f] ∧ H g = some (.ins a.C_Garden dx fs) ∧ (fs = [] ∨ ∃ p L, fs = gf p L) ∧ r ≤ 8 ∧ c ≤ 8 ∧ 1 ≤ r * c ∧ r * c ≤ 8 ∧
  ∀ H' L', GA a H' L' (laid r c n f) → L'.g = g → L'.n = 0 → (∀ b o, H b = some o → b ≠ g → H' b = some o) → (∀ b, Own L' b → b = g ∨ H b = none) → Q .non H'
theorem rep_nat (k : Nat) : (List.replicate ((k : Int)).toNat [V.int 0]).flatten = nats (List.replicate k 0) := by
  rw [Int.toNat_natCast]
  induction k with
  | zero => rfl
  | succ k ih =>
    rw [List.replicate_succ, List.replicate_succ, List.flatten_cons, ih]
    rfl
theorem one_le {n : Nat} {x : V} (h : n ≤ 64) : ([x] : List V).length * ((n : Int)).toNat ≤ sizeLine := by
  rw [Int.toNat_natCast]
  show 1 * n ≤ sizeLine
  rw [Nat.one_mul]
  exact Nat.le_trans h (by decide)
theorem none_kept {H H' : Hp} {g b : Addr} {o : HO} (hg : H' g = some o) (k : ∀ b o, H b = some o → b ≠ g → H' b = some o) (e : H' b = none) : H b = none := by
  cases q : H b with
  | none => rfl
  | some o =>
    by_cases z : b = g
    · rw [z, hg] at e; cases e
    · rw [k b o q z] at e; cases e
theorem ok_lay_out (M : Md K mg a) : FnOk P w K mg base CX0 1 a.f_Garden_lay_out a.d_Garden_lay_out ["self", "rows", "columns", "can", "longest_way"] (spLay a) := by
  refine M.F_Garden_lay_out.ok sc_Garden_lay_out (fun vs H Q E h => ?_) (fun cdv A outer s H vs Q E hr h => ?_)
  · obtain ⟨_, _, _, _, _, _, _, rfl, _⟩ := h
    rfl
  · obtain ⟨g, dx, fs, r, c, n, f, rfl, hg, hfs, hr8, hc8, hp1, hp8, k⟩ := h
    have epl : ((r : Int) * (c : Int)) = ((r * c : Nat) : Int) := (Int.natCast_mul r c).symm
    have hmul : r * c ≤ 64 := Nat.mul_le_mul hr8 hc8
    refine ⟨_, (pss_cons (ps_fld (pv 0) (pv 1) rfl)
      (pss_cons (ps_fld (pv 0) (pv 2) rfl)
      (pss_cons (ps_fld (pv 0) (pe_op op_mul (pv 1) (pv 2)) rfl)
      (pss_cons (ps_fld (pv 0) (pv 3) rfl)
      (pss_cons (ps_fld (pv 0) (pv 4) rfl)
      (pss_cons (ps_fld (pv 0) pe_int rfl)
      (pss_cons (ps_fld (pv 0) (pe_op op_rep (pe_lst (pa_cons pe_int pa_nil)) (pe_fld (pv 0) rfl)) rfl)
      (pss_cons (ps_fld (pv 0) (pe_op op_rep (pe_lst (pa_cons pe_int pa_nil)) (pe_fld (pv 0) rfl)) rfl)
      (pss_cons (ps_fld (pv 0) (pe_lst pa_nil) rfl)
      (pss_cons (ps_fld (pv 0) (pe_lst pa_nil) rfl)
      (pss_one (ps_fld (pv 0) pe_dnewT rfl)))))))))))), ?_⟩
    rcases hfs with rfl | ⟨p, L, rfl⟩ <;> (
    refine ⟨_, rfl, _, rfl, g, _, dx, _, rfl, hg, M.cl_Garden, M.na_Garden_rows, ltk rfl, ?_⟩
    refine ⟨_, rfl, _, rfl, g, _, dx, _, rfl, upd_same, M.cl_Garden, M.na_Garden_columns, ltk rfl, ?_⟩
    rw [upd_upd]
    refine ⟨_, rfl, _, rfl, _, _, rfl, rfl, .inl ⟨by omega, by omega⟩, _, rfl, g, _, dx, _, rfl, upd_same, M.cl_Garden, M.na_Garden_places, ltk rfl, ?_⟩
    rw [upd_upd]
    refine ⟨_, rfl, _, rfl, g, _, dx, _, rfl, upd_same, M.cl_Garden, M.na_Garden_can, ltk rfl, ?_⟩
    rw [upd_upd]
    refine ⟨_, rfl, _, rfl, g, _, dx, _, rfl, upd_same, M.cl_Garden, M.na_Garden_longest_way, ltk rfl, ?_⟩
    rw [upd_upd]
    refine ⟨_, rfl, g, _, dx, _, rfl, upd_same, M.cl_Garden, M.na_Garden_tap_place, ltk rfl, ?_⟩
    rw [upd_upd, show (fun (i j : Int) => V.int (i * j)) (r : Int) (c : Int) = nat (r * c) from congrArg V.int epl]
    generalize hH1 : upd H g _ = H1
    have g1 := (congrFun hH1 g).symm.trans upd_same
    have k1 : ∀ b o, H b = some o → b ≠ g → H1 b = some o := fun b o e ne => by rw [← hH1, upd_ne ne]; exact e
    -- self.levels = [0] * self.places
    refine ⟨by decide, fun p1 h1 => ⟨_, rfl, g, _, dx, _, _, rfl, kept g1 h1, M.cl_Garden, M.na_Garden_places, rfl, p1, _, _, rfl, rfl, upd_same, by omega, by omega, one_le hmul, fun p2 h2 => ⟨_, rfl, g, _, dx, _, rfl, kept (kept g1 h1) h2, M.cl_Garden, M.na_Garden_levels, ltk rfl, ?_⟩⟩⟩
    rw [rep_nat]
    generalize hH2 : upd (upd (upd H1 p1 _) p2 _) g _ = H2
    have g2 := (congrFun hH2 g).symm.trans upd_same
    have k2 : ∀ b o, H1 b = some o → b ≠ g → H2 b = some o := fun b o e ne => by rw [← hH2, upd_ne ne]; exact kept (kept e h1) h2
    have l2 : H2 p2 = some (.lst (nats (List.replicate (r * c) 0))) := by rw [← hH2, upd_ne (ne_of_none (kept g1 h1) h2).symm]; exact upd_same
    have n2 : H p2 = none := none_kept g1 k1 (by
      cases q : H1 p2 with
      | none => rfl
      | some o => rw [kept q h1] at h2; cases h2)
    refine ⟨by decide, fun p3 h3 => ⟨_, rfl, g, _, dx, _, _, rfl, kept g2 h3, M.cl_Garden, M.na_Garden_places, rfl, p3, _, _, rfl, rfl, upd_same, by omega, by omega, one_le hmul, fun p4 h4 => ⟨_, rfl, g, _, dx, _, rfl, kept (kept g2 h3) h4, M.cl_Garden, M.na_Garden_heights, ltk rfl, ?_⟩⟩⟩
    rw [rep_nat]
    generalize hH3 : upd (upd (upd H2 p3 _) p4 _) g _ = H3
    have g3 := (congrFun hH3 g).symm.trans upd_same
    have k3 : ∀ b o, H2 b = some o → b ≠ g → H3 b = some o := fun b o e ne => by rw [← hH3, upd_ne ne]; exact kept (kept e h3) h4
    have l3 : H3 p4 = some (.lst (nats (List.replicate (r * c) 0))) := by rw [← hH3, upd_ne (ne_of_none (kept g2 h3) h4).symm]; exact upd_same
    have m4 : H2 p4 = none := by
      cases q : H2 p4 with
      | none => rfl
      | some o => rw [kept q h3] at h4; cases h4
    refine ⟨by decide, fun p5 h5 => ⟨_, rfl, g, _, dx, _, rfl, kept g3 h5, M.cl_Garden, M.na_Garden_hours, ltk rfl, ?_⟩⟩
    generalize hH4 : upd (upd H3 p5 _) g _ = H4
    have g4 := (congrFun hH4 g).symm.trans upd_same
    have k4 : ∀ b o, H3 b = some o → b ≠ g → H4 b = some o := fun b o e ne => by rw [← hH4, upd_ne ne]; exact kept e h5
    have l4 : H4 p5 = some (.lst []) := by rw [← hH4, upd_ne (ne_of_none g3 h5).symm]; exact upd_same
    refine ⟨by decide, fun p6 h6 => ⟨_, rfl, g, _, dx, _, rfl, kept g4 h6, M.cl_Garden, M.na_Garden_plants, ltk rfl, ?_⟩⟩
    generalize hH5 : upd (upd H4 p6 _) g _ = H5
    have g5 := (congrFun hH5 g).symm.trans upd_same
    have k5 : ∀ b o, H4 b = some o → b ≠ g → H5 b = some o := fun b o e ne => by rw [← hH5, upd_ne ne]; exact kept e h6
    have l5 : H5 p6 = some (.lst []) := by rw [← hH5, upd_ne (ne_of_none g4 h6).symm]; exact upd_same
    refine fun p7 h7 => ⟨_, rfl, g, _, dx, _, rfl, kept g5 h7, M.cl_Garden, M.na_Garden_likings, ltk rfl, ?_⟩
    generalize hH6 : upd (upd H5 p7 _) g _ = H6
    have g6 := (congrFun hH6 g).symm.trans upd_same
    have k6 : ∀ b o, H5 b = some o → b ≠ g → H6 b = some o := fun b o e ne => by rw [← hH6, upd_ne ne]; exact kept e h7
    have l6 : H6 p7 = some (.dT []) := by rw [← hH6, upd_ne (ne_of_none g5 h7).symm]; exact upd_same
    have b2 : p2 ≠ g := (ne_of_none (kept g1 h1) h2).symm
    have b4 : p4 ≠ g := (ne_of_none (kept g2 h3) h4).symm
    have b5 : p5 ≠ g := (ne_of_none g3 h5).symm
    have b6 : p6 ≠ g := (ne_of_none g4 h6).symm
    have d24 : p2 ≠ p4 := ne_of_none l2 m4
    have d25 : p2 ≠ p5 := ne_of_none (k3 _ _ l2 b2) h5
    have d45 : p4 ≠ p5 := ne_of_none l3 h5
    have d26 : p2 ≠ p6 := ne_of_none (k4 _ _ (k3 _ _ l2 b2) b2) h6
    have d46 : p4 ≠ p6 := ne_of_none (k4 _ _ l3 b4) h6
    have d56 : p5 ≠ p6 := ne_of_none l4 h6
    have z4 : H p4 = none := none_kept g1 k1 (none_kept g2 k2 m4)
    have z5 : H p5 = none := none_kept g1 k1 (none_kept g2 k2 (none_kept g3 k3 h5))
    have z6 : H p6 = none := none_kept g1 k1 (none_kept g2 k2 (none_kept g3 k3 (none_kept g4 k4 h6)))
    have z7 : H p7 = none := none_kept g1 k1 (none_kept g2 k2 (none_kept g3 k3 (none_kept g4 k4 (none_kept g5 k5 h7))))
    refine k H6 ⟨g, dx, p2, p4, p5, p6, p7, [], [], [], 0⟩ ⟨wf_laid hp1 hp8, g6, k6 _ _ (k5 _ _ (k4 _ _ (k3 _ _ l2 b2) b2) b2) b2, k6 _ _ (k5 _ _ (k4 _ _ l3 b4) b4) b4, k6 _ _ (k5 _ _ l4 b5) b5, k6 _ _ l5 b6, l6, rfl, ?_, rfl, ?_, ?_, Nat.le_refl _, ?_⟩ rfl rfl (fun b o e ne => k6 _ _ (k5 _ _ (k4 _ _ (k3 _ _ (k2 _ _ (k1 _ _ e ne) ne) ne) ne) ne) ne) ?_
    · intro i b h
      cases h
    · intro i b h
      cases h
    · intro x y h1 h2 h3 h4
      show V.int 0 = V.int (Si69.init.bed.like x y)
      have : ∀ x y : Fin 6, Si69.init.bed.like x.1 y.1 = 0 := by decide
      rw [this ⟨x, by omega⟩ ⟨y, by omega⟩]
    · show [p2, p4, p5, p6].Nodup
      simp [d24, d25, d26, d45, d46, d56]
    · intro b hb
      rcases hb with e | e | e | e | e | e
      · exact .inl e
      · exact .inr (by rw [e]; exact n2)
      · exact .inr (by rw [e]; exact z4)
      · exact .inr (by rw [e]; exact z5)
      · exact .inr (by rw [e]; exact z6)
      · exact .inr (by rw [e]; exact z7))
def spInit (a : Ad) : Sp := fun vs H Q _ => ∃ (g dx : Addr), vs = [.ref g] ∧ H g = some (.ins a.C_Garden dx []) ∧
  ∀ H' L', GA a H' L' Si69.init → L'.g = g → L'.n = 0 → (∀ b o, H b = some o → b ≠ g → H' b = some o) → (∀ b, Own L' b → b = g ∨ H b = none) → Q .non H'
theorem ok_Garden_init (M : Md K mg a) : FnOk P w K mg base CX0 2 a.f_Garden_init a.d_Garden_init ["self"] (spInit a) := by
  have G_Garden_lay_out := ok_lay_out (P := P) (w := w) (base := base) M
  refine M.F_Garden_init.ok sc_Garden_init (fun vs H Q E h => ?_) (fun cdv A outer s H vs Q E hr h => ?_)
  · obtain ⟨_, _, rfl, _⟩ := h
    rfl
  · obtain ⟨g, dx, rfl, hg, k⟩ := h
    refine ⟨_, (pss_one (ps_expr (pe_meth (pv 0) M.cl_Garden M.m_Garden_lay_out G_Garden_lay_out (hr.mono (by decide)) M.b_Garden_lay_out .nil pass0 (pa_cons pe_int (pa_cons pe_int (pa_cons pe_int (pa_cons pe_int pa_nil))))))), ?_⟩
    refine ⟨_, rfl, g, dx, _, rfl, hg, rfl, g, dx, [], 1, 1, 1, 0, rfl, hg, .inl rfl, by decide, by decide, by decide, by decide, fun H' L' G e1 e2 kp fr => ?_⟩
    exact k H' L' G e1 e2 kp fr
end
end Sb

set_option Elab.async false
set_option linter.all false
set_option maxRecDepth 100000
set_option maxHeartbeats 2000000
namespace Sb
open PySem PySem.Spec PyProof.Rows L2
section
variable {P : Program} {w : World} {K : PySem.W.Frag} {mg : Str → Option Value} {base : Heap} {a : Ad}
def Done (a : Ad) (H : Hp) (L : Lay) (p : Si69.Plot) (q : Si69.Call) (Q : VK) : Prop := After a H L (Si69.step p q).1 (.int (Si69.step p q).2.v) Q
theorem Done.same {H : Hp} {L : Lay} {p : Si69.Plot} {q : Si69.Call} {Q : VK} (h : Done a H L p q Q) (G : GA a H L p) {v : Int} (e : Si69.step p q = (p, Si69.ok v)) : Q (.int v) H := by
  unfold Done at h
  rw [e] at h
  exact h H L G rfl (Nat.le_succ _) (fun b o e _ => e) fun b h => .inl h
theorem Done.to {H : Hp} {L : Lay} {p : Si69.Plot} {q : Si69.Call} {Q : VK} (h : Done a H L p q Q) {p' : Si69.Plot} {v : Int} (e : Si69.step p q = (p', Si69.ok v)) : After a H L p' (.int v) Q := by
  unfold Done at h
  rw [e] at h
  exact h
/-- all but what stands at t is as it was -/
def But (t : Addr) (H H' : Hp) : Prop := ∀ b o, H b = some o → b ≠ t → H' b = some o
theorem but_upd {H : Hp} {t : Addr} {o : HO} : But t H (upd H t o) := fun b u e ne => by rw [upd_ne ne]; exact e
theorem GA.level {H H' : Hp} {L : Lay} {p : Si69.Plot} (G : GA a H L p) (k n : Nat) (hl : H' L.la = some (.lst (nats (p.garden.levels.set k n)))) (kp : But L.la H H') : GA a H' L (withLevel p k n) := by
  have nd := G.nd
  simp only [List.nodup_cons, List.mem_cons, not_or] at nd
  exact { G with
    wf := wf_level G.wf k n
    ins := kp _ _ G.ins (ne_of G.ins G.lev (by intro z; cases z))
    lev := hl
    hei := kp _ _ G.hei (Ne.symm nd.1.1)
    hrs := kp _ _ G.hrs (Ne.symm nd.1.2.1)
    pls := kp _ _ G.pls (Ne.symm nd.1.2.2.1)
    lik := kp _ _ G.lik (ne_of G.lik G.lev (by intro z; cases z))
    hat := fun i b h => by
      obtain ⟨o, d, e, q⟩ := G.hat i b h
      exact ⟨o, d, e, kp _ _ q (ne_of q G.lev (by intro z; cases z))⟩
    pat := fun i b h => by
      obtain ⟨d, q⟩ := G.pat i b h
      exact ⟨d, kp _ _ q (ne_of q G.lev (by intro z; cases z))⟩ }
theorem GA.stand {H H' : Hp} {L : Lay} {p : Si69.Plot} (G : GA a H L p) (k n : Nat) (hl : H' L.ha = some (.lst (nats (p.garden.stands.set k n)))) (kp : But L.ha H H') : GA a H' L (withStand p k n) := by
  have nd := G.nd
  simp only [List.nodup_cons, List.mem_cons, not_or] at nd
  exact { G with
    wf := wf_stand G.wf k n
    ins := kp _ _ G.ins (ne_of G.ins G.hei (by intro z; cases z))
    hei := hl
    lev := kp _ _ G.lev nd.1.1
    hrs := kp _ _ G.hrs (Ne.symm nd.2.1.1)
    pls := kp _ _ G.pls (Ne.symm nd.2.1.2.1)
    lik := kp _ _ G.lik (ne_of G.lik G.hei (by intro z; cases z))
    hat := fun i b h => by
      obtain ⟨o, d, e, q⟩ := G.hat i b h
      exact ⟨o, d, e, kp _ _ q (ne_of q G.hei (by intro z; cases z))⟩
    pat := fun i b h => by
      obtain ⟨d, q⟩ := G.pat i b h
      exact ⟨d, kp _ _ q (ne_of q G.hei (by intro z; cases z))⟩ }
theorem snoc_at {α : Type} {l : List α} {x y : α} {i : Nat} (h : (l ++ [x])[i]? = some y) : l[i]? = some y ∨ (i = l.length ∧ y = x) := by
  by_cases c : i < l.length
  · rw [List.getElem?_append_left c] at h
    exact .inl h
  · rw [List.getElem?_append_right (by omega)] at h
    cases e : i - l.length with
    | zero =>
      rw [e] at h
      exact .inr ⟨by omega, (Option.some.inj h).symm⟩
    | succ j =>
      rw [e] at h
      cases h
theorem GA.hour {H H' : Hp} {L : Lay} {p : Si69.Plot} (G : GA a H L p) {o : Si64.Hour} {x d : Addr} (hb : ¬ (7 < o.whence ∨ 1000 < o.rise)) (h8 : p.garden.hours.length < 8) (hl : H' L.hl = some (.lst ((L.hs ++ [x]).map V.ref))) (hx : H' x = some (.ins a.C_Hour d (hf o))) (kp : But L.hl H H') : GA a H' { L with hs := L.hs ++ [x] } (withHour p o) := by
  have nd := G.nd
  simp only [List.nodup_cons, List.mem_cons, not_or] at nd
  exact { G with
    wf := wf_hour G.wf hb h8
    ins := kp _ _ G.ins (ne_of G.ins G.hrs (by intro z; cases z))
    hrs := hl
    lev := kp _ _ G.lev nd.1.2.1
    hei := kp _ _ G.hei nd.2.1.1
    pls := kp _ _ G.pls (Ne.symm nd.2.2.1.1)
    lik := kp _ _ G.lik (ne_of G.lik G.hrs (by intro z; cases z))
    hlen := by show (L.hs ++ [x]).length = (p.garden.hours ++ [o]).length; rw [List.length_append, List.length_append, G.hlen]; rfl
    hat := fun i b h => by
      rcases snoc_at h with h | ⟨e, rfl⟩
      · obtain ⟨o', d', e, q⟩ := G.hat i b h
        refine ⟨o', d', ?_, kp _ _ q (ne_of q G.hrs (by intro z; cases z))⟩
        show (p.garden.hours ++ [o])[i]? = some o'
        rw [List.getElem?_append_left (List.getElem?_eq_some_iff.mp e).1]
        exact e
      · refine ⟨o, d, ?_, hx⟩
        show (p.garden.hours ++ [o])[i]? = some o
        rw [e, G.hlen]
        exact List.getElem?_concat_length
    pat := fun i b h => by
      obtain ⟨d, q⟩ := G.pat i b h
      exact ⟨d, kp _ _ q (ne_of q G.hrs (by intro z; cases z))⟩ }
theorem getD_snoc {α : Type} {l : List α} {x d : α} {i : Nat} (h : i < l.length) : (l ++ [x]).getD i d = l.getD i d := by
  rw [List.getD_eq_getElem?_getD, List.getD_eq_getElem?_getD, List.getElem?_append_left h]
theorem getD_last {α : Type} {l : List α} {x d : α} {i : Nat} (h : i = l.length) : (l ++ [x]).getD i d = x := by
  rw [List.getD_eq_getElem?_getD, h, List.getElem?_concat_length]
  rfl
theorem GA.plant {H H' : Hp} {L : Lay} {p : Si69.Plot} (G : GA a H L p) {o : Si64.Plant} {k w : Nat} {x d : Addr} (hb : ¬ PlantBad p o k w) (h3 : p.garden.plants.length < 3) (hl : H' L.pl = some (.lst ((L.ps ++ [x]).map V.ref))) (hx : H' x = some (.ins a.C_Plant d (pf o k w))) (kp : But L.pl H H') : GA a H' { L with ps := L.ps ++ [x] } (withPlant p o k w) := by
  have nd := G.nd
  simp only [List.nodup_cons, List.mem_cons, not_or] at nd
  have hk := G.wf.kinds
  have hw := G.wf.waters
  exact { G with
    wf := wf_plant G.wf hb h3
    ins := kp _ _ G.ins (ne_of G.ins G.pls (by intro z; cases z))
    pls := hl
    lev := kp _ _ G.lev nd.1.2.2.1
    hei := kp _ _ G.hei nd.2.1.2.1
    hrs := kp _ _ G.hrs nd.2.2.1.1
    lik := kp _ _ G.lik (ne_of G.lik G.pls (by intro z; cases z))
    plen := by show (L.ps ++ [x]).length = (p.garden.plants ++ [o]).length; rw [List.length_append, List.length_append, G.plen]; rfl
    hat := fun i b h => by
      obtain ⟨o, d, e, q⟩ := G.hat i b h
      exact ⟨o, d, e, kp _ _ q (ne_of q G.pls (by intro z; cases z))⟩
    pat := fun i b h => by
      show ∃ d, H' b = some (.ins a.C_Plant d (pf ((p.garden.plants ++ [o]).getD i ⟨0, 0, 0⟩) ((p.kinds ++ [k]).getD i 0) ((p.waters ++ [w]).getD i 0)))
      rcases snoc_at h with h | ⟨e, rfl⟩
      · have hi := (List.getElem?_eq_some_iff.mp h).1
        rw [G.plen] at hi
        obtain ⟨d', q⟩ := G.pat i b h
        rw [getD_snoc hi, getD_snoc (by omega), getD_snoc (by omega)]
        exact ⟨d', kp _ _ q (ne_of q G.pls (by intro z; cases z))⟩
      · have e' := e.trans G.plen
        rw [getD_last e', getD_last (by omega), getD_last (by omega)]
        exact ⟨d, hx⟩ }
theorem key2_inj {x y u v : Nat} (h : key2 x y = key2 u v) : (x = u ∧ y = v) ∨ (x = v ∧ y = u) := by
  unfold key2 at h
  simp only [List.cons.injEq, Sum.inl.injEq, and_true] at h
  omega
theorem key2_comm (x y : Nat) : key2 x y = key2 y x := by
  unfold key2
  rw [Nat.min_comm, Nat.max_comm]
theorem GA.like {H H' : Hp} {L : Lay} {p : Si69.Plot} (G : GA a H L p) {x y : Nat} {v : Int} (hx : 1 ≤ x ∧ x ≤ 5) (hy : 1 ≤ y ∧ y ≤ 5) (hl : H' L.lk = some (.dT (putK L.kvs (key2 x y) (.int v)))) (kp : But L.lk H H') : GA a H' { L with kvs := putK L.kvs (key2 x y) (.int v), n := L.n + 1 } (withLike p x y v) := by
  exact { G with
    wf := wf_like G.wf v hx hy
    ins := kp _ _ G.ins (ne_of G.ins G.lik (by intro z; cases z))
    lik := hl
    lev := kp _ _ G.lev (ne_of G.lev G.lik (by intro z; cases z))
    hei := kp _ _ G.hei (ne_of G.hei G.lik (by intro z; cases z))
    hrs := kp _ _ G.hrs (ne_of G.hrs G.lik (by intro z; cases z))
    pls := kp _ _ G.pls (ne_of G.pls G.lik (by intro z; cases z))
    hat := fun i b h => by
      obtain ⟨o, d, e, q⟩ := G.hat i b h
      exact ⟨o, d, e, kp _ _ q (ne_of q G.lik (by intro z; cases z))⟩
    pat := fun i b h => by
      obtain ⟨d, q⟩ := G.pat i b h
      exact ⟨d, kp _ _ q (ne_of q G.lik (by intro z; cases z))⟩
    few := Nat.le_trans (length_putK _ _ _) (Nat.succ_le_succ G.few)
    lok := fun u t h1 h2 h3 h4 => by
      show (valV (putK L.kvs (key2 x y) (.int v)) (key2 u t)).getD (.int 0) = .int ((p.bed.tell x y v).like u t)
      rw [valV_put, tell_like _ _ _ _ G.wf.likes (by omega) (by omega) _ _ (by omega) (by omega)]
      by_cases c : (u = x ∧ t = y) ∨ (u = y ∧ t = x)
      · rw [if_pos c, if_pos]
        · rfl
        · rcases c with ⟨rfl, rfl⟩ | ⟨rfl, rfl⟩
          · rfl
          · exact key2_comm _ _
      · rw [if_neg c, if_neg (fun z => c (by rcases key2_inj z with q | q <;> omega))]
        exact G.lok u t h1 h2 h3 h4 }
theorem GA.tap {H H' : Hp} {L : Lay} {p : Si69.Plot} (G : GA a H L p) {k : Nat} (hk : k < p.places) (hl : H' L.g = some (.ins a.C_Garden L.dx (gf (withTap p k) L))) (kp : But L.g H H') : GA a H' L (withTap p k) := by
  exact { G with
    wf := wf_tap G.wf hk
    ins := hl
    lik := kp _ _ G.lik (ne_of G.lik G.ins (by intro z; cases z))
    lev := kp _ _ G.lev (ne_of G.lev G.ins (by intro z; cases z))
    hei := kp _ _ G.hei (ne_of G.hei G.ins (by intro z; cases z))
    hrs := kp _ _ G.hrs (ne_of G.hrs G.ins (by intro z; cases z))
    pls := kp _ _ G.pls (ne_of G.pls G.ins (by intro z; cases z))
    hat := fun i b h => by
      obtain ⟨o, d, e, q⟩ := G.hat i b h
      exact ⟨o, d, e, kp _ _ q (ne_of q G.ins (fun z => by injection z with z1 z2 z3; simp [hf, gf] at z3))⟩
    pat := fun i b h => by
      obtain ⟨d, q⟩ := G.pat i b h
      exact ⟨d, kp _ _ q (ne_of q G.ins (fun z => by injection z with z1 z2 z3; simp [pf, gf] at z3))⟩ }
end
end Sb

set_option Elab.async false
set_option linter.all false
set_option maxRecDepth 100000
set_option maxHeartbeats 2000000
namespace Sb
open PySem PySem.Spec PyProof.Rows L2
section
variable {P : Program} {w : World} {K : PySem.W.Frag} {mg : Str → Option Value} {base : Heap} {a : Ad}
def spBegins (a : Ad) : Sp := fun vs H Q _ => ∃ (L : Lay) (p : Si69.Plot) (r c n f : Nat), vs = [.ref L.g, nat r, nat c, nat n, nat f] ∧ GA a H L p ∧ r < 2 ^ 32 ∧ Done a H L p (.begins r c n f) Q
theorem ok_begins (M : Md K mg a) : FnOk P w K mg base CX0 2 a.f_Garden_begins a.d_Garden_begins ["self", "rows", "columns", "can", "longest_way"] (spBegins a) := by
  have G_within := ok_within (P := P) (w := w) (base := base) M
  have G_Garden_lay_out := ok_lay_out (P := P) (w := w) (base := base) M
  refine M.F_Garden_begins.ok sc_Garden_begins (fun vs H Q E h => ?_) (fun cdv A outer s H vs Q E hr h => ?_)
  · obtain ⟨_, _, _, _, _, _, rfl, _⟩ := h
    rfl
  · obtain ⟨L, p, r, c, n, f, rfl, G, hb, k⟩ := h
    have epl : ((r : Int) * (c : Int)) = ((r * c : Nat) : Int) := (Int.natCast_mul r c).symm
    refine ⟨_, (pss_cons (ps_if (pt_not (pt_val (pe_call G_within (hr.mono (by decide)) rfl M.g_within M.k_within M.b_within .nil pass0 (pa_cons (pe_op op_mul (pv 1) (pv 2)) (pa_cons pe_int (pa_cons (pe_glob (v := V.int (8)) rfl M.c_MOST_PLACES.choose_spec ⟨_, rfl⟩) pa_nil)))))) (pss_one (ps_ret (pe_glob (v := V.int (-1)) rfl M.c_NOT_AS_TOLD.choose_spec ⟨_, rfl⟩))) pss_nil)
      (pss_cons (ps_if (PW.pt (pw_or (pt_not (pt_val (pe_call G_within (hr.mono (by decide)) rfl M.g_within M.k_within M.b_within .nil pass0 (pa_cons (pv 3) (pa_cons pe_int (pa_cons (pe_glob (v := V.int (1000)) rfl M.c_MOST_IN_CAN.choose_spec ⟨_, rfl⟩) pa_nil)))))) (pw_or1 (pt_cmpR op_gt (pv 4) (pe_glob (v := V.int (1000)) rfl M.c_LONGEST_WAY.choose_spec ⟨_, rfl⟩) (nomark _))))) (pss_one (ps_ret (pe_glob (v := V.int (-1)) rfl M.c_NOT_AS_TOLD.choose_spec ⟨_, rfl⟩))) pss_nil)
      (pss_cons (ps_expr (pe_meth (pv 0) M.cl_Garden M.m_Garden_lay_out G_Garden_lay_out (hr.mono (by decide)) M.b_Garden_lay_out .nil pass0 (pa_cons (pv 1) (pa_cons (pv 2) (pa_cons (pv 3) (pa_cons (pv 4) pa_nil))))))
      (pss_one (ps_ret pe_int))))), ?_⟩
    refine ⟨_, rfl, _, rfl, _, _, rfl, rfl, .inl ⟨by omega, by omega⟩, _, _, _, rfl, _, rfl, ?_⟩
    rw [within_eq (c := 1 ≤ r * c ∧ r * c ≤ 8) (by omega)]
    by_cases c1 : 1 ≤ r * c ∧ r * c ≤ 8
    case neg =>
      refine iteNT c1 ?_
      exact k.same G (begins_bad (.inl c1))
    refine iteNF c1 ?_
    refine ⟨_, rfl, _, _, _, rfl, _, rfl, ?_⟩
    rw [within_eq (c := 1 ≤ n ∧ n ≤ 1000) (by omega)]
    by_cases c2 : 1 ≤ n ∧ n ≤ 1000
    case neg =>
      refine iteNT c2 (iteT ?_)
      exact k.same G (begins_bad (.inr (.inl c2)))
    refine iteNF c2 ⟨_, rfl, _, _, rfl, rfl, _, rfl, ?_⟩
    by_cases c3 : 1000 < f
    · refine iteDT (by omega) ?_
      exact k.same G (begins_bad (.inr (.inr c3)))
    refine iteDF (by omega) ?_
    have hr1 : 1 ≤ r := Nat.pos_of_ne_zero fun z => by rw [z, Nat.zero_mul] at c1; omega
    have hc1 : 1 ≤ c := Nat.pos_of_ne_zero fun z => by rw [z, Nat.mul_zero] at c1; omega
    have a1 := Nat.mul_le_mul_left r hc1
    have a2 := Nat.mul_le_mul_right c hr1
    refine ⟨_, rfl, L.g, L.dx, _, rfl, G.ins, rfl, _, rfl, _, rfl, _, rfl, _, rfl, L.g, L.dx, _, r, c, n, f, rfl, G.ins, .inr ⟨p, L, rfl⟩, by omega, by omega, c1.1, c1.2, fun H' L' G' e1 e2 kp fr => ?_⟩
    refine k.to (begins_ok c1.1 c1.2 c2.1 c2.2 (by omega)) H' L' G' e1 (by omega) (fun b o e ne => kp b o e fun z => ne (.inl z)) fun b h => ?_
    rcases fr b h with z | z
    · exact .inl (.inl z)
    · exact .inr z
def spTell (a : Ad) : Sp := fun vs H Q _ => ∃ (L : Lay) (p : Si69.Plot) (t : Addr) (l : List Nat) (k n : Nat), vs = [.ref L.g, .ref t, nat k, nat n] ∧ GA a H L p ∧ H t = some (.lst (nats l)) ∧ l.length = p.places ∧
  (p.places ≤ k → Q (.int (-2)) H) ∧ (k < p.places → 1000 < n → Q (.int (-1)) H) ∧ (k < p.places → n ≤ 1000 → Q (.int 0) (upd H t (.lst (nats (l.set k n)))))
theorem ok_tell_of_place (M : Md K mg a) : FnOk P w K mg base CX0 1 a.f_Garden_tell_of_place a.d_Garden_tell_of_place ["self", "told", "place", "how_high"] (spTell a) := by
  refine M.F_Garden_tell_of_place.ok sc_Garden_tell_of_place (fun vs H Q E h => ?_) (fun cdv A outer s H vs Q E hr h => ?_)
  · obtain ⟨_, _, _, _, _, _, rfl, _⟩ := h
    rfl
  · obtain ⟨L, p, t, l, k, n, rfl, G, ht, hl, k1, k2, k3⟩ := h
    have nd := sc_Garden_tell_of_place.nd
    have ep : p.places = p.garden.rows * p.garden.cols := rfl
    refine ⟨_, (pss_cons (ps_if (pt_cmpR op_ge (pv 2) (pe_fld (pv 0) rfl) (nomark _)) (pss_one (ps_ret (pe_glob (v := V.int (-2)) rfl M.c_NO_SUCH_PLACE.choose_spec ⟨_, rfl⟩))) pss_nil)
      (pss_cons (ps_if (pt_cmpR op_gt (pv 3) (pe_glob (v := V.int (1000)) rfl M.c_HIGHEST.choose_spec ⟨_, rfl⟩) (nomark _)) (pss_one (ps_ret (pe_glob (v := V.int (-1)) rfl M.c_NOT_AS_TOLD.choose_spec ⟨_, rfl⟩))) pss_nil)
      (pss_cons (ps_asg (pv 3) (pg_sub (pv 1) (pv 2) set_list))
      (pss_one (ps_ret pe_int))))), ?_⟩
    refine ⟨_, rfl, _, rfl, L.g, _, L.dx, _, _, rfl, G.ins, M.cl_Garden, M.na_Garden_places, rfl, _, _, rfl, rfl, _, rfl, ?_⟩
    by_cases c1 : p.places ≤ k
    · exact iteDT (by omega) (k1 c1)
    refine iteDF (by omega) ⟨_, rfl, _, _, rfl, rfl, _, rfl, ?_⟩
    by_cases c2 : 1000 < n
    · exact iteDT (by omega) (k2 (by omega) c2)
    refine iteDF (by omega) ⟨_, rfl, _, rfl, _, rfl, t, _, _, k, rfl, rfl, ht, ixN_nat (by rw [List.length_map, hl]; omega), ?_⟩
    have q := k3 (by omega) (by omega)
    rw [nats, List.map_set] at q
    exact q
def spLevel (a : Ad) (f : Nat → Nat → Si69.Call) : Sp := fun vs H Q _ => ∃ (L : Lay) (p : Si69.Plot) (k n : Nat), vs = [.ref L.g, nat k, nat n] ∧ GA a H L p ∧ Done a H L p (f k n) Q
theorem ok_level (M : Md K mg a) : FnOk P w K mg base CX0 2 a.f_Garden_level a.d_Garden_level ["self", "place", "how_high"] (spLevel a .level) := by
  have G_Garden_tell_of_place := ok_tell_of_place (P := P) (w := w) (base := base) M
  refine M.F_Garden_level.ok sc_Garden_level (fun vs H Q E h => ?_) (fun cdv A outer s H vs Q E hr h => ?_)
  · obtain ⟨_, _, _, _, rfl, _⟩ := h
    rfl
  · obtain ⟨L, p, k, n, rfl, G, q⟩ := h
    refine ⟨_, (pss_one (ps_ret (pe_meth (pv 0) M.cl_Garden M.m_Garden_tell_of_place G_Garden_tell_of_place (hr.mono (by decide)) M.b_Garden_tell_of_place .nil pass0 (pa_cons (pe_fld (pv 0) rfl) (pa_cons (pv 1) (pa_cons (pv 2) pa_nil)))))), ?_⟩
    refine ⟨_, rfl, L.g, L.dx, _, rfl, G.ins, rfl, _, rfl, L.g, _, L.dx, _, _, rfl, G.ins, M.cl_Garden, M.na_Garden_levels, rfl, _, rfl, _, rfl, L, p, L.la, _, k, n, rfl, G, G.lev, G.wf.lev, fun c1 => ?_, fun c1 c2 => ?_, fun c1 c2 => ?_⟩
    · exact q.same G (level_none c1)
    · exact q.same G (level_bad c1 c2)
    · exact q.to (level_ok c1 c2) _ L (G.level k n upd_same but_upd) rfl (Nat.le_succ _) (fun b o e ne => but_upd b o e fun z => ne (.inr (.inl z))) fun b h => .inl h
theorem ok_stands (M : Md K mg a) : FnOk P w K mg base CX0 2 a.f_Garden_stands a.d_Garden_stands ["self", "place", "how_high"] (spLevel a .stands) := by
  have G_Garden_tell_of_place := ok_tell_of_place (P := P) (w := w) (base := base) M
  refine M.F_Garden_stands.ok sc_Garden_stands (fun vs H Q E h => ?_) (fun cdv A outer s H vs Q E hr h => ?_)
  · obtain ⟨_, _, _, _, rfl, _⟩ := h
    rfl
  · obtain ⟨L, p, k, n, rfl, G, q⟩ := h
    refine ⟨_, (pss_one (ps_ret (pe_meth (pv 0) M.cl_Garden M.m_Garden_tell_of_place G_Garden_tell_of_place (hr.mono (by decide)) M.b_Garden_tell_of_place .nil pass0 (pa_cons (pe_fld (pv 0) rfl) (pa_cons (pv 1) (pa_cons (pv 2) pa_nil)))))), ?_⟩
    refine ⟨_, rfl, L.g, L.dx, _, rfl, G.ins, rfl, _, rfl, L.g, _, L.dx, _, _, rfl, G.ins, M.cl_Garden, M.na_Garden_heights, rfl, _, rfl, _, rfl, L, p, L.ha, _, k, n, rfl, G, G.hei, G.wf.sta, fun c1 => ?_, fun c1 c2 => ?_, fun c1 c2 => ?_⟩
    · exact q.same G (stands_none c1)
    · exact q.same G (stands_bad c1 c2)
    · exact q.to (stands_ok c1 c2) _ L (G.stand k n upd_same but_upd) rfl (Nat.le_succ _) (fun b o e ne => but_upd b o e fun z => ne (.inr (.inr (.inl z)))) fun b h => .inl h
def spHour (a : Ad) : Sp := fun vs H Q _ => ∃ (L : Lay) (p : Si69.Plot) (w r : Nat), vs = [.ref L.g, nat w, nat r] ∧ GA a H L p ∧ Done a H L p (.hour ⟨w, r⟩) Q
theorem ok_hour (M : Md K mg a) : FnOk P w K mg base CX0 3 a.f_Garden_hour a.d_Garden_hour ["self", "whence", "rise"] (spHour a) := by
  have G_Hour_init := ok_Hour_init (P := P) (w := w) (base := base) M
  refine M.F_Garden_hour.ok sc_Garden_hour (fun vs H Q E h => ?_) (fun cdv A outer s H vs Q E hr h => ?_)
  · obtain ⟨_, _, _, _, rfl, _⟩ := h
    rfl
  · obtain ⟨L, p, wh, r, rfl, G, q⟩ := h
    have nd := sc_Garden_hour.nd
    have h8 := G.wf.hours
    have hlen := G.hlen
    refine ⟨_, (pss_cons (ps_if (PW.pt (pw_or (pt_cmpR op_gt (pv 1) (pe_glob (v := V.int (7)) rfl M.c_LAST_WHENCE.choose_spec ⟨_, rfl⟩) (nomark _)) (pw_or1 (pt_cmpR op_gt (pv 2) (pe_glob (v := V.int (1000)) rfl M.c_STEEPEST_RISE.choose_spec ⟨_, rfl⟩) (nomark _))))) (pss_one (ps_ret (pe_glob (v := V.int (-1)) rfl M.c_NOT_AS_TOLD.choose_spec ⟨_, rfl⟩))) pss_nil)
      (pss_cons (ps_if (pt_cmpR op_eq (pe_callB call_len_seq (by rfl) M.n_len boo_len (pa_cons (pe_fld (pv 0) rfl) pa_nil)) (pe_glob (v := V.int (8)) rfl M.c_MOST_HOURS.choose_spec ⟨_, rfl⟩) (nomark _)) (pss_one (ps_ret (pe_glob (v := V.int (-5)) rfl M.c_NO_MORE.choose_spec ⟨_, rfl⟩))) pss_nil)
      (pss_cons (ps_expr (pe_bm PySem.F.plainAttrs_list PySem.F.slot_list_append PySem.F.type_list_append mt_append (pe_fld (pv 0) rfl) (pa_cons (pe_make M.mk_Hour G_Hour_init (hr.mono (by decide)) rfl M.g_Hour M.b_Hour_init .nil pass0 (pa_cons (pv 1) (pa_cons (pv 2) pa_nil))) pa_nil)))
      (pss_one (ps_ret (pe_op op_sub (pe_callB call_len_seq (by rfl) M.n_len boo_len (pa_cons (pe_fld (pv 0) rfl) pa_nil)) pe_int)))))), ?_⟩
    refine ⟨_, rfl, _, _, rfl, rfl, _, rfl, ?_⟩
    by_cases c1 : 7 < wh
    · refine iteDT (by omega) (iteT ?_)
      exact q.same G (hour_bad (.inl c1))
    refine iteDF (by omega) ⟨_, rfl, _, _, rfl, rfl, _, rfl, ?_⟩
    by_cases c2 : 1000 < r
    · refine iteDT (by omega) ?_
      exact q.same G (hour_bad (.inr c2))
    rw [decide_eq_false (by omega)]
    have cb : ¬ (7 < (⟨wh, r⟩ : Si64.Hour).whence ∨ 1000 < (⟨wh, r⟩ : Si64.Hour).rise) := by
      show ¬ (7 < wh ∨ 1000 < r)
      omega
    refine iteF ⟨_, rfl, L.g, _, L.dx, _, _, rfl, G.ins, M.cl_Garden, M.na_Garden_hours, rfl, L.hl, _, rfl, .inl (SqL.of G.hrs), rfl, _, rfl, ?_⟩
    rw [List.length_map, hlen]
    by_cases c3 : p.garden.hours.length = 8
    · refine iteDT (by rw [c3]; rfl) ?_
      exact q.same G (hour_full cb (by omega))
    refine iteDF (by intro z; injection z with z; omega) ⟨_, rfl, L.g, _, L.dx, _, _, rfl, G.ins, M.cl_Garden, M.na_Garden_hours, rfl, .inl ⟨rfl, _, SqL.of G.hrs⟩, _, rfl, _, rfl, fun x dx nx ndx nex => ⟨x, dx, _, _, rfl, upd_same, rfl, ?_⟩⟩
    rw [upd_upd]
    have s1 : Same H (upd (upd H dx (.own x)) x (.ins a.C_Hour dx [("whence", nat wh), ("rise", nat r)])) := (Same.new ndx).upd nx
    generalize hH1 : upd (upd H dx (.own x)) x (.ins a.C_Hour dx [("whence", nat wh), ("rise", nat r)]) = H1 at s1
    have hx : H1 x = some (.ins a.C_Hour dx (hf ⟨wh, r⟩)) := by rw [← hH1]; exact upd_same
    have G1 := G.same s1
    refine ⟨L.hl, _, _, rfl, rfl, G1.hrs, small_line (by rw [List.length_map]; omega), ?_⟩
    have hnx : x ≠ L.hl := (ne_of_none G.hrs nx).symm
    have el : L.hs.map V.ref ++ [V.ref x] = (L.hs ++ [x]).map V.ref := by rw [List.map_append]; rfl
    rw [el]
    have G2 := G1.hour (H' := upd H1 L.hl (.lst ((L.hs ++ [x]).map V.ref))) (x := x) (d := dx) cb (by omega) upd_same (by rw [upd_ne hnx]; exact hx) but_upd
    refine ⟨_, rfl, L.g, _, L.dx, _, _, rfl, G2.ins, M.cl_Garden, M.na_Garden_hours, rfl, L.hl, _, rfl, .inl (SqL.of upd_same), _, _, rfl, rfl, ?_⟩
    have ev : (((L.hs ++ [x]).map V.ref).length : Int) - 1 = (p.garden.hours.length : Nat) := by
      rw [List.length_map, List.length_append, hlen]
      show ((p.garden.hours.length + 1 : Nat) : Int) - 1 = _
      omega
    show Q (V.int ((((L.hs ++ [x]).map V.ref).length : Int) - 1)) _
    rw [ev]
    refine q.to (hour_ok cb (by omega)) _ _ G2 rfl (Nat.le_succ _) (fun b o e ne => ?_) fun b h => .inl h
    exact but_upd b o (s1 b o e) fun z => ne (.inr (.inr (.inr (.inl z))))
def spPlant (a : Ad) : Sp := fun vs H Q _ => ∃ (L : Lay) (p : Si69.Plot) (h n w k u : Nat), vs = [.ref L.g, nat h, nat n, nat w, nat k, nat u] ∧ GA a H L p ∧ Done a H L p (.plant ⟨h, n, w⟩ k u) Q
theorem ok_plant (M : Md K mg a) : FnOk P w K mg base CX0 3 a.f_Garden_plant a.d_Garden_plant ["self", "high", "needed_hours", "worth", "kind", "water"] (spPlant a) := by
  have G_Plant_init := ok_Plant_init (P := P) (w := w) (base := base) M
  have G_within := ok_within (P := P) (w := w) (base := base) M
  refine M.F_Garden_plant.ok sc_Garden_plant (fun vs H Q E h => ?_) (fun cdv A outer s H vs Q E hr h => ?_)
  · obtain ⟨_, _, _, _, _, _, _, rfl, _⟩ := h
    rfl
  · obtain ⟨L, p, h, n, wo, k, u, rfl, G, q⟩ := h
    have nd := sc_Garden_plant.nd
    have h3 := G.wf.plants
    have plen := G.plen
    refine ⟨_, (pss_cons (ps_if (PW.pt (pw_or (pt_not (pt_val (pe_call G_within (hr.mono (by decide)) rfl M.g_within M.k_within M.b_within .nil pass0 (pa_cons (pv 1) (pa_cons pe_int (pa_cons (pe_glob (v := V.int (1000)) rfl M.c_HIGHEST.choose_spec ⟨_, rfl⟩) pa_nil)))))) (pw_or1 (pt_not (pt_val (pe_call G_within (hr.mono (by decide)) rfl M.g_within M.k_within M.b_within .nil pass0 (pa_cons (pv 2) (pa_cons pe_int (pa_cons (pe_glob (v := V.int (8)) rfl M.c_MOST_HOURS.choose_spec ⟨_, rfl⟩) pa_nil))))))))) (pss_one (ps_ret (pe_glob (v := V.int (-1)) rfl M.c_NOT_AS_TOLD.choose_spec ⟨_, rfl⟩))) pss_nil)
      (pss_cons (ps_if (PW.pt (pw_or (pt_not (pt_val (pe_call G_within (hr.mono (by decide)) rfl M.g_within M.k_within M.b_within .nil pass0 (pa_cons (pv 3) (pa_cons pe_int (pa_cons (pe_glob (v := V.int (100000)) rfl M.c_MOST_WORTH.choose_spec ⟨_, rfl⟩) pa_nil)))))) (pw_or1 (pt_not (pt_val (pe_call G_within (hr.mono (by decide)) rfl M.g_within M.k_within M.b_within .nil pass0 (pa_cons (pv 4) (pa_cons pe_int (pa_cons (pe_glob (v := V.int (5)) rfl M.c_LAST_KIND.choose_spec ⟨_, rfl⟩) pa_nil))))))))) (pss_one (ps_ret (pe_glob (v := V.int (-1)) rfl M.c_NOT_AS_TOLD.choose_spec ⟨_, rfl⟩))) pss_nil)
      (pss_cons (ps_if (pt_not (pt_val (pe_call G_within (hr.mono (by decide)) rfl M.g_within M.k_within M.b_within .nil pass0 (pa_cons (pv 5) (pa_cons pe_int (pa_cons (pe_fld (pv 0) rfl) pa_nil)))))) (pss_one (ps_ret (pe_glob (v := V.int (-1)) rfl M.c_NOT_AS_TOLD.choose_spec ⟨_, rfl⟩))) pss_nil)
      (pss_cons (ps_if (pt_cmpR op_eq (pe_callB call_len_seq (by rfl) M.n_len boo_len (pa_cons (pe_fld (pv 0) rfl) pa_nil)) (pe_glob (v := V.int (3)) rfl M.c_MOST_PLANTS.choose_spec ⟨_, rfl⟩) (nomark _)) (pss_one (ps_ret (pe_glob (v := V.int (-5)) rfl M.c_NO_MORE.choose_spec ⟨_, rfl⟩))) pss_nil)
      (pss_cons (ps_expr (pe_bm PySem.F.plainAttrs_list PySem.F.slot_list_append PySem.F.type_list_append mt_append (pe_fld (pv 0) rfl) (pa_cons (pe_make M.mk_Plant G_Plant_init (hr.mono (by decide)) rfl M.g_Plant M.b_Plant_init .nil pass0 (pa_cons (pv 1) (pa_cons (pv 2) (pa_cons (pv 3) (pa_cons (pv 4) (pa_cons (pv 5) pa_nil)))))) pa_nil)))
      (pss_one (ps_ret (pe_op op_sub (pe_callB call_len_seq (by rfl) M.n_len boo_len (pa_cons (pe_fld (pv 0) rfl) pa_nil)) pe_int)))))))), ?_⟩
    have bad : PlantBad p ⟨h, n, wo⟩ k u → Q (.int (-1)) H := fun z => q.same G (plant_bad z)
    refine ⟨_, rfl, _, _, _, rfl, _, rfl, ?_⟩
    rw [within_eq (c := 1 ≤ h ∧ h ≤ 1000) (by omega)]
    by_cases c1 : 1 ≤ h ∧ h ≤ 1000
    case neg =>
      exact iteNT c1 (iteT (bad (.inl c1)))
    refine iteNF c1 ⟨_, rfl, _, _, _, rfl, _, rfl, ?_⟩
    rw [within_eq (c := n ≤ 8) (by omega)]
    by_cases c2 : n ≤ 8
    case neg =>
      exact iteNT c2 (bad (.inr (.inl (by show 8 < n; omega))))
    refine iteNF c2 ⟨_, rfl, _, _, _, rfl, _, rfl, ?_⟩
    rw [within_eq (c := wo ≤ 100000) (by omega)]
    by_cases c3 : wo ≤ 100000
    case neg =>
      exact iteNT c3 (iteT (bad (.inr (.inr (.inl (by show 100000 < wo; omega))))))
    refine iteNF c3 ⟨_, rfl, _, _, _, rfl, _, rfl, ?_⟩
    rw [within_eq (c := 1 ≤ k ∧ k ≤ 5) (by omega)]
    by_cases c4 : 1 ≤ k ∧ k ≤ 5
    case neg =>
      exact iteNT c4 (bad (.inr (.inr (.inr (.inl c4)))))
    refine iteNF c4 ⟨_, rfl, _, rfl, L.g, _, L.dx, _, _, rfl, G.ins, M.cl_Garden, M.na_Garden_can, rfl, _, _, _, rfl, _, rfl, ?_⟩
    rw [within_eq (c := 1 ≤ u ∧ u ≤ p.can) (by omega)]
    by_cases c5 : 1 ≤ u ∧ u ≤ p.can
    case neg =>
      exact iteNT c5 (bad (.inr (.inr (.inr (.inr c5)))))
    rw [decide_eq_true c5]
    have cb : ¬ PlantBad p ⟨h, n, wo⟩ k u := by
      show ¬ (¬ (1 ≤ h ∧ h ≤ 1000) ∨ 8 < n ∨ 100000 < wo ∨ ¬ (1 ≤ k ∧ k ≤ 5) ∨ ¬ (1 ≤ u ∧ u ≤ p.can))
      omega
    refine iteF ⟨_, rfl, L.g, _, L.dx, _, _, rfl, G.ins, M.cl_Garden, M.na_Garden_plants, rfl, L.pl, _, rfl, .inl (SqL.of G.pls), rfl, _, rfl, ?_⟩
    rw [List.length_map, plen]
    by_cases c6 : p.garden.plants.length = 3
    · refine iteDT (by rw [c6]; rfl) ?_
      exact q.same G (plant_full cb (by omega))
    refine iteDF (by intro z; injection z with z; omega) ⟨_, rfl, L.g, _, L.dx, _, _, rfl, G.ins, M.cl_Garden, M.na_Garden_plants, rfl, .inl ⟨rfl, _, SqL.of G.pls⟩, _, rfl, _, rfl, _, rfl, _, rfl, _, rfl, fun x dx nx ndx nex => ⟨x, dx, _, _, _, _, _, rfl, upd_same, rfl, ?_⟩⟩
    rw [upd_upd]
    have s1 : Same H (upd (upd H dx (.own x)) x (.ins a.C_Plant dx [("high", nat h), ("needed_hours", nat n), ("worth", nat wo), ("kind", nat k), ("water", nat u)])) := (Same.new ndx).upd nx
    generalize hH1 : upd (upd H dx (.own x)) x (.ins a.C_Plant dx [("high", nat h), ("needed_hours", nat n), ("worth", nat wo), ("kind", nat k), ("water", nat u)]) = H1 at s1
    have hx : H1 x = some (.ins a.C_Plant dx (pf ⟨h, n, wo⟩ k u)) := by rw [← hH1]; exact upd_same
    have G1 := G.same s1
    refine ⟨L.pl, _, _, rfl, rfl, G1.pls, small_line (by rw [List.length_map]; omega), ?_⟩
    have hnx : x ≠ L.pl := (ne_of_none G.pls nx).symm
    have el : L.ps.map V.ref ++ [V.ref x] = (L.ps ++ [x]).map V.ref := by rw [List.map_append]; rfl
    rw [el]
    have G2 := G1.plant (H' := upd H1 L.pl (.lst ((L.ps ++ [x]).map V.ref))) (x := x) (d := dx) cb (by omega) upd_same (by rw [upd_ne hnx]; exact hx) but_upd
    refine ⟨_, rfl, L.g, _, L.dx, _, _, rfl, G2.ins, M.cl_Garden, M.na_Garden_plants, rfl, L.pl, _, rfl, .inl (SqL.of upd_same), _, _, rfl, rfl, ?_⟩
    have ev : (((L.ps ++ [x]).map V.ref).length : Int) - 1 = (p.garden.plants.length : Nat) := by
      rw [List.length_map, List.length_append, plen]
      show ((p.garden.plants.length + 1 : Nat) : Int) - 1 = _
      omega
    show Q (V.int ((((L.ps ++ [x]).map V.ref).length : Int) - 1)) _
    rw [ev]
    refine q.to (plant_ok cb (by omega)) _ _ G2 rfl (Nat.le_succ _) (fun b o e ne => ?_) fun b h => .inl h
    exact but_upd b o (s1 b o e) fun z => ne (.inr (.inr (.inr (.inr (.inl z)))))
def spKinds (a : Ad) : Sp := fun vs H Q _ => ∃ (L : Lay) (p : Si69.Plot) (x y v : Nat) (sg : Int), vs = [.ref L.g, nat x, nat y, nat v, .int sg] ∧ GA a H L p ∧ L.n < 10000 ∧ (sg = 1 ∨ sg = -1) ∧
  ((¬ (1 ≤ x ∧ x ≤ 5) ∨ ¬ (1 ≤ y ∧ y ≤ 5) ∨ 9 < v) → Q (.int (-1)) H) ∧ (¬ (¬ (1 ≤ x ∧ x ≤ 5) ∨ ¬ (1 ≤ y ∧ y ≤ 5) ∨ 9 < v) → After a H L (withLike p x y (sg * v)) (.int 0) Q)
theorem ok_tell_of_kinds (M : Md K mg a) : FnOk P w K mg base CX0 2 a.f_Garden_tell_of_kinds a.d_Garden_tell_of_kinds ["self", "kind", "other", "much", "sign"] (spKinds a) := by
  have G_within := ok_within (P := P) (w := w) (base := base) M
  have G_in_order := ok_in_order (P := P) (w := w) (base := base) M
  refine M.F_Garden_tell_of_kinds.ok sc_Garden_tell_of_kinds (fun vs H Q E h => ?_) (fun cdv A outer s H vs Q E hr h => ?_)
  · obtain ⟨_, _, _, _, _, _, rfl, _⟩ := h
    rfl
  · obtain ⟨L, p, x, y, v, sg, rfl, G, hn, hsg, kb, kg⟩ := h
    have nd := sc_Garden_tell_of_kinds.nd
    refine ⟨_, (pss_cons (ps_if (PW.pt (pw_or (pt_not (pt_val (pe_call G_within (hr.mono (by decide)) rfl M.g_within M.k_within M.b_within .nil pass0 (pa_cons (pv 1) (pa_cons pe_int (pa_cons (pe_glob (v := V.int (5)) rfl M.c_LAST_KIND.choose_spec ⟨_, rfl⟩) pa_nil)))))) (pw_or (pt_not (pt_val (pe_call G_within (hr.mono (by decide)) rfl M.g_within M.k_within M.b_within .nil pass0 (pa_cons (pv 2) (pa_cons pe_int (pa_cons (pe_glob (v := V.int (5)) rfl M.c_LAST_KIND.choose_spec ⟨_, rfl⟩) pa_nil)))))) (pw_or1 (pt_cmpR op_gt (pv 3) (pe_glob (v := V.int (9)) rfl M.c_MOST_LIKED.choose_spec ⟨_, rfl⟩) (nomark _)))))) (pss_one (ps_ret (pe_glob (v := V.int (-1)) rfl M.c_NOT_AS_TOLD.choose_spec ⟨_, rfl⟩))) pss_nil)
      (pss_cons (ps_dput (hu_of hr) (pe_fld (pv 0) rfl) (pe_call G_in_order (hr.mono (by decide)) rfl M.g_in_order M.k_in_order M.b_in_order .nil pass0 (pa_cons (pv 1) (pa_cons (pv 2) pa_nil))) (pe_op op_mul (pv 4) (pv 3)) rfl)
      (pss_one (ps_ret pe_int)))), ?_⟩
    refine ⟨_, rfl, _, _, _, rfl, _, rfl, ?_⟩
    rw [within_eq (c := 1 ≤ x ∧ x ≤ 5) (by omega)]
    by_cases c1 : 1 ≤ x ∧ x ≤ 5
    case neg =>
      exact iteNT c1 (iteT (kb (.inl c1)))
    refine iteNF c1 ⟨_, rfl, _, _, _, rfl, _, rfl, ?_⟩
    rw [within_eq (c := 1 ≤ y ∧ y ≤ 5) (by omega)]
    by_cases c2 : 1 ≤ y ∧ y ≤ 5
    case neg =>
      exact iteNT c2 (iteT (kb (.inr (.inl c2))))
    refine iteNF c2 ⟨_, rfl, _, _, rfl, rfl, _, rfl, ?_⟩
    by_cases c3 : 9 < v
    · exact iteDT (by omega) (kb (.inr (.inr c3)))
    refine iteDF (by omega) ⟨_, rfl, _, rfl, _, _, rfl, rfl, .inl ⟨by omega, by omega⟩, _, rfl, L.g, _, L.dx, _, _, rfl, G.ins, M.cl_Garden, M.na_Garden_likings, rfl, _, rfl, _, rfl, x, y, rfl, fun t ht => ?_⟩
    have s1 : Same H (upd H t (.tup ((key2 x y).map kV))) := Same.new ht
    generalize hH1 : upd H t (.tup ((key2 x y).map kV)) = H1 at s1
    have hx : H1 t = some (.tup ((key2 x y).map kV)) := by rw [← hH1]; exact upd_same
    have G1 := G.same s1
    have hf := G.few
    refine ⟨L.lk, _, rfl, DPut.t (k := key2 x y) G1.lik hx (small_line (by omega)), ?_⟩
    refine kg (by omega) _ _ (G1.like c1 c2 upd_same but_upd) rfl (Nat.le_refl _) (fun b o e ne => ?_) fun b h => .inl h
    exact but_upd b o (s1 b o e) fun z => ne (.inr (.inr (.inr (.inr (.inr z)))))
def spLike (a : Ad) (f : Nat → Nat → Nat → Si69.Call) : Sp := fun vs H Q _ => ∃ (L : Lay) (p : Si69.Plot) (x y v : Nat), vs = [.ref L.g, nat x, nat y, nat v] ∧ GA a H L p ∧ L.n < 10000 ∧ Done a H L p (f x y v) Q
theorem ok_like (M : Md K mg a) : FnOk P w K mg base CX0 3 a.f_Garden_like a.d_Garden_like ["self", "kind", "other", "much"] (spLike a .like) := by
  have G_Garden_tell_of_kinds := ok_tell_of_kinds (P := P) (w := w) (base := base) M
  refine M.F_Garden_like.ok sc_Garden_like (fun vs H Q E h => ?_) (fun cdv A outer s H vs Q E hr h => ?_)
  · obtain ⟨_, _, _, _, _, rfl, _⟩ := h
    rfl
  · obtain ⟨L, p, x, y, v, rfl, G, hn, q⟩ := h
    refine ⟨_, (pss_one (ps_ret (pe_meth (pv 0) M.cl_Garden M.m_Garden_tell_of_kinds G_Garden_tell_of_kinds (hr.mono (by decide)) M.b_Garden_tell_of_kinds .nil pass0 (pa_cons (pv 1) (pa_cons (pv 2) (pa_cons (pv 3) (pa_cons pe_int pa_nil))))))), ?_⟩
    refine ⟨_, rfl, L.g, L.dx, _, rfl, G.ins, rfl, _, rfl, _, rfl, _, rfl, L, p, x, y, v, 1, rfl, G, hn, .inl rfl, fun c => ?_, fun c => ?_⟩
    · exact q.same G (like_bad c)
    · exact q.to (like_ok c)
theorem ok_dislike (M : Md K mg a) : FnOk P w K mg base CX0 3 a.f_Garden_dislike a.d_Garden_dislike ["self", "kind", "other", "much"] (spLike a .dislike) := by
  have G_Garden_tell_of_kinds := ok_tell_of_kinds (P := P) (w := w) (base := base) M
  refine M.F_Garden_dislike.ok sc_Garden_dislike (fun vs H Q E h => ?_) (fun cdv A outer s H vs Q E hr h => ?_)
  · obtain ⟨_, _, _, _, _, rfl, _⟩ := h
    rfl
  · obtain ⟨L, p, x, y, v, rfl, G, hn, q⟩ := h
    refine ⟨_, (pss_one (ps_ret (pe_meth (pv 0) M.cl_Garden M.m_Garden_tell_of_kinds G_Garden_tell_of_kinds (hr.mono (by decide)) M.b_Garden_tell_of_kinds .nil pass0 (pa_cons (pv 1) (pa_cons (pv 2) (pa_cons (pv 3) (pa_cons (pe_un un_neg pe_int) pa_nil))))))), ?_⟩
    refine ⟨_, rfl, L.g, L.dx, _, rfl, G.ins, rfl, _, rfl, _, rfl, _, rfl, _, rfl, L, p, x, y, v, -1, rfl, G, hn, .inr rfl, fun c => ?_, fun c => ?_⟩
    · exact q.same G (dislike_bad c)
    · exact q.to (dislike_ok c)
def spTap (a : Ad) : Sp := fun vs H Q _ => ∃ (L : Lay) (p : Si69.Plot) (k : Nat), vs = [.ref L.g, nat k] ∧ GA a H L p ∧ Done a H L p (.tap k) Q
theorem ok_tap (M : Md K mg a) : FnOk P w K mg base CX0 1 a.f_Garden_tap a.d_Garden_tap ["self", "place"] (spTap a) := by
  refine M.F_Garden_tap.ok sc_Garden_tap (fun vs H Q E h => ?_) (fun cdv A outer s H vs Q E hr h => ?_)
  · obtain ⟨_, _, _, rfl, _⟩ := h
    rfl
  · obtain ⟨L, p, k, rfl, G, q⟩ := h
    have nd := sc_Garden_tap.nd
    have ep : p.places = p.garden.rows * p.garden.cols := rfl
    refine ⟨_, (pss_cons (ps_if (pt_cmpR op_ge (pv 1) (pe_fld (pv 0) rfl) (nomark _)) (pss_one (ps_ret (pe_glob (v := V.int (-2)) rfl M.c_NO_SUCH_PLACE.choose_spec ⟨_, rfl⟩))) pss_nil)
      (pss_cons (ps_fld (pv 0) (pv 1) rfl)
      (pss_one (ps_ret pe_int)))), ?_⟩
    refine ⟨_, rfl, _, rfl, L.g, _, L.dx, _, _, rfl, G.ins, M.cl_Garden, M.na_Garden_places, rfl, _, _, rfl, rfl, _, rfl, ?_⟩
    by_cases c1 : p.places ≤ k
    · exact iteDT (by omega) (q.same G (tap_none c1))
    refine iteDF (by omega) ⟨_, rfl, _, rfl, L.g, _, L.dx, _, rfl, G.ins, M.cl_Garden, M.na_Garden_tap_place, ltk rfl, ?_⟩
    exact q.to (tap_ok (by omega)) _ L (G.tap (by omega) upd_same but_upd) rfl (Nat.le_succ _) (fun b o e ne => but_upd b o e fun z => ne (.inl z)) fun b h => .inl h
end
end Sb

set_option Elab.async false
set_option linter.all false
set_option maxRecDepth 100000
set_option maxHeartbeats 2000000
namespace Sb
open PySem PySem.Spec PyProof.Rows L2
section
variable {P : Program} {w : World} {K : PySem.W.Frag} {mg : Str → Option Value} {base : Heap} {a : Ad}
theorem GA.plant_at {H : Hp} {L : Lay} {p : Si69.Plot} (G : GA a H L p) {i : Nat} (h : i < p.garden.plants.length) : ∃ b d, atI (L.ps.map V.ref) (i : Int) = some (.ref b) ∧ H b = some (.ins a.C_Plant d (pf (p.garden.plant i) (p.kinds.getD i 0) (p.waters.getD i 0))) := by
  have hl : i < L.ps.length := by rw [G.plen]; exact h
  obtain ⟨d, q⟩ := G.pat i (L.ps[i]) (List.getElem?_eq_getElem hl)
  refine ⟨L.ps[i], d, atI_nat ?_, q⟩
  rw [List.getElem?_map, List.getElem?_eq_getElem hl]
  rfl
def spLiking (a : Ad) : Sp := fun vs H Q _ => ∃ (L : Lay) (p : Si69.Plot) (x y : Nat), vs = [.ref L.g, nat x, nat y] ∧ GA a H L p ∧ (1 ≤ x ∧ x ≤ 5) ∧ (1 ≤ y ∧ y ≤ 5) ∧ ∀ H', Same H H' → Q (.int (p.bed.like x y)) H'
theorem ok_liking (M : Md K mg a) : FnOk P w K mg base CX0 2 a.f_Garden_liking a.d_Garden_liking ["self", "kind", "other"] (spLiking a) := by
  have G_in_order := ok_in_order (P := P) (w := w) (base := base) M
  refine M.F_Garden_liking.ok sc_Garden_liking (fun vs H Q E h => ?_) (fun cdv A outer s H vs Q E hr h => ?_)
  · obtain ⟨_, _, _, _, rfl, _⟩ := h
    rfl
  · obtain ⟨L, p, x, y, rfl, G, hx, hy, q⟩ := h
    refine ⟨_, (pss_one (ps_ret (pe_dget2 (hu_of hr) (pe_fld (pv 0) rfl) (pe_call G_in_order (hr.mono (by decide)) rfl M.g_in_order M.k_in_order M.b_in_order .nil pass0 (pa_cons (pv 1) (pa_cons (pv 2) pa_nil))) pe_int ⟨rfl, rfl, rfl, rfl⟩))), ?_⟩
    refine ⟨_, rfl, L.g, _, L.dx, _, _, rfl, G.ins, M.cl_Garden, M.na_Garden_likings, rfl, L.lk, rfl, .inr ⟨_, .inl G.lik⟩, _, rfl, _, rfl, x, y, rfl, fun t ht => ⟨_, DGet.t (k := key2 x y) (kept G.lik ht) upd_same, ?_⟩⟩
    rw [G.lok x y hx.1 hx.2 hy.1 hy.2]
    exact q _ (Same.new ht)
def spPlanted (a : Ad) : Sp := fun vs H Q _ => ∃ (L : Lay) (p : Si69.Plot) (b : Addr) (l : List Nat), vs = [.ref L.g, .ref b] ∧ GA a H L p ∧ H b = some (.lst (nats l)) ∧ l.length ≤ 1000 ∧ NewL H (nats (planted p l)) Q
theorem ok_planted (M : Md K mg a) : FnOk P w K mg base CX0 1 a.f_Garden_planted a.d_Garden_planted ["self", "plan"] (spPlanted a) := by
  refine M.F_Garden_planted.ok sc_Garden_planted (fun vs H Q E h => ?_) (fun cdv A outer s H vs Q E hr h => ?_)
  · obtain ⟨_, _, _, _, rfl, _⟩ := h
    rfl
  · obtain ⟨L, p, b, l, rfl, G, hb, hl, q⟩ := h
    have nd := sc_Garden_planted.nd
    have ep : p.places = p.garden.rows * p.garden.cols := rfl
    refine ⟨_, (pss_one (ps_ret (pe_lc (own := [("number", 2)]) rfl nd (pi_range1 rfl M.n_range (pa_cons (pe_callB call_len_seq (by rfl) M.n_len boo_len (pa_cons (pv 1) pa_nil)) pa_nil)) (blkOk_by (N := ["self", "plan", "number"]) (sc := defScope s_Garden_planted) (by decide +kernel)) (fun _ _ _ _ _ => (pg_name (i := 2) nd rfl (Or.inl rfl))) (fun _ _ _ _ _ => (pts_one (pt_cmpR op_lt (pe_ix (ix_listB (K := K) rfl) (pv 1) (pv 2) (fun _ _ => rfl)) (pe_fldB (K := K) rfl (pv 0) rfl) (nomark _)))) (fun _ _ _ _ _ => (pv 2))))), ?_⟩
    have hlen : (nats l).length = l.length := List.length_map _
    refine ⟨_, rfl, b, _, rfl, .inl (SqL.of hb), _, rfl, by omega, by omega, fun D hD => lc_range (n := (nats l).length) (fun i H' => Same H H' ∧ H' D = some (.lst (nats ((List.range i).filter fun i => decide (l.getD i 0 < p.places))))) ⟨Same.new hD, upd_same⟩ (fun i H' hi hP => ?_) (fun H' hP => ?_)⟩
    · obtain ⟨s1, h1⟩ := hP
      rw [hlen] at hi
      have G1 := G.same s1
      rw [Int.zero_add]
      refine ⟨rfl, _, rfl, _, rfl, b, _, _, _, rfl, rfl, SqL.of (s1 _ _ hb), at_nats hi, _, rfl, L.g, _, L.dx, _, _, rfl, G1.ins, M.cl_Garden, M.na_Garden_places, rfl, _, _, rfl, rfl, _, rfl, ?_⟩
      rw [List.range_succ, List.filter_append]
      by_cases c : l.getD i 0 < p.places
      · refine iteDT (by omega) ⟨_, rfl, _, h1, small_line ?_, s1.upd hD, ?_⟩
        · rw [List.length_map]
          have := List.length_filter_le (fun i => decide (l.getD i 0 < p.places)) (List.range i)
          rw [List.length_range] at this
          omega
        · rw [upd_same, List.filter_cons_of_pos (p := fun i => decide (l.getD i 0 < p.places)) (decide_eq_true c), nats_append]
          rfl
      · refine iteDF (by omega) ⟨s1, ?_⟩
        rw [List.filter_cons_of_neg (p := fun i => decide (l.getD i 0 < p.places)) (by rw [decide_eq_false c]; decide), List.filter_nil, List.append_nil]
        exact h1
    · rw [hlen] at hP
      exact q D H' hP.1 hD hP.2
def spSteps (a : Ad) : Sp := fun vs H Q _ => ∃ (L : Lay) (p : Si69.Plot) (x y : Nat), vs = [.ref L.g, nat x, nat y] ∧ GA a H L p ∧ Q (nat (Si65.steps (p.spot x) (p.spot y))) H
theorem ok_steps (M : Md K mg a) : FnOk P w K mg base CX0 1 a.f_Garden_steps a.d_Garden_steps ["self", "place", "other"] (spSteps a) := by
  refine M.F_Garden_steps.ok sc_Garden_steps (fun vs H Q E h => ?_) (fun cdv A outer s H vs Q E hr h => ?_)
  · obtain ⟨_, _, _, _, rfl, _⟩ := h
    rfl
  · obtain ⟨L, p, x, y, rfl, G, q⟩ := h
    have nd := sc_Garden_steps.nd
    obtain ⟨d1, d2, d3, d4⟩ := dims G.wf
    refine ⟨_, (pss_cons (ps_set (i := 3) nd rfl (Or.inl rfl) (pe_callB call_abs (by rfl) M.n_abs boo_abs (pa_cons (pe_op op_sub (pe_op op_fdiv (pv 1) (pe_fld (pv 0) rfl)) (pe_op op_fdiv (pv 2) (pe_fld (pv 0) rfl))) pa_nil)))
      (pss_cons (ps_set (i := 4) nd rfl (Or.inl rfl) (pe_callB call_abs (by rfl) M.n_abs boo_abs (pa_cons (pe_op op_sub (pe_op op_mod (pv 1) (pe_fld (pv 0) rfl)) (pe_op op_mod (pv 2) (pe_fld (pv 0) rfl))) pa_nil)))
      (pss_one (ps_ret (pe_op op_add (pv 3) (pv 4)))))), ?_⟩
    refine ⟨_, rfl, _, rfl, L.g, _, L.dx, _, _, rfl, G.ins, M.cl_Garden, M.na_Garden_columns, rfl, _, _, rfl, rfl, ⟨by omega, by omega⟩, _, rfl, _, rfl, L.g, _, L.dx, _, _, rfl, G.ins, M.cl_Garden, M.na_Garden_columns, rfl, _, _, rfl, rfl, ⟨by omega, by omega⟩, _, _, rfl, rfl, _, rfl, ?_⟩
    refine ⟨_, rfl, _, rfl, L.g, _, L.dx, _, _, rfl, G.ins, M.cl_Garden, M.na_Garden_columns, rfl, _, _, rfl, rfl, by omega, _, rfl, _, rfl, L.g, _, L.dx, _, _, rfl, G.ins, M.cl_Garden, M.na_Garden_columns, rfl, _, _, rfl, rfl, by omega, _, _, rfl, rfl, _, rfl, ?_⟩
    refine ⟨_, rfl, _, rfl, _, _, rfl, rfl, ?_⟩
    have e := steps_int (x / p.garden.cols) (x % p.garden.cols) (y / p.garden.cols) (y % p.garden.cols)
    have q' : Q (.int ((Si65.steps (x / p.garden.cols, x % p.garden.cols) (y / p.garden.cols, y % p.garden.cols) : Nat) : Int)) H := q
    rw [e] at q'
    exact q'
end
end Sb

set_option Elab.async false
set_option linter.all false
set_option maxRecDepth 100000
set_option maxHeartbeats 2000000
namespace Sb
open PySem PySem.Spec PyProof.Rows L2
section
variable {P : Program} {w : World} {K : PySem.W.Frag} {mg : Str → Option Value} {base : Heap} {a : Ad}
theorem at_of_map {α : Type} {l : List α} {f : α → V} {i : Nat} {y : V} (h : (l.map f)[i]? = some y) : ∃ x, l[i]? = some x ∧ y = f x := by
  rw [List.getElem?_map] at h
  cases e : l[i]? with
  | none => rw [e] at h; cases h
  | some x => rw [e] at h; exact ⟨x, rfl, (Option.some.inj h).symm⟩
theorem take_snoc {α : Type} : ∀ {l : List α} {i : Nat} {x : α}, l[i]? = some x → l.take (i + 1) = l.take i ++ [x]
  | [], i, x, h => by simp at h
  | b :: l, 0, x, h => by
    have e : b = x := Option.some.inj h
    subst e
    rfl
  | b :: l, i + 1, x, h => by
    have ih := take_snoc (l := l) (i := i) (x := x) h
    show b :: l.take (i + 1) = b :: l.take i ++ [x]
    rw [ih]
    rfl
/-- a plan that lies at b and has a number for each plant at the most -/
structure PlanAt (H : Hp) (p : Si69.Plot) (b : Addr) (l : List Nat) : Prop where
  at_ : H b = some (.lst (nats l))
  len : l.length ≤ p.garden.plants.length
theorem PlanAt.same {H H' : Hp} {p : Si69.Plot} {b : Addr} {l : List Nat} (A : PlanAt H p b l) (s : Same H H') : PlanAt H' p b l := ⟨s _ _ A.at_, A.len⟩
theorem PlanAt.short {a : Ad} {H : Hp} {L : Lay} {p : Si69.Plot} {b : Addr} {l : List Nat} (A : PlanAt H p b l) (G : GA a H L p) : l.length ≤ 3 := Nat.le_trans A.len G.wf.plants
theorem level_at {a : Ad} {H : Hp} {L : Lay} {p : Si69.Plot} (G : GA a H L p) {i : Nat} (h : i < p.places) : atI (nats p.garden.levels) (i : Int) = some (nat (p.garden.level i)) := at_nats (by rw [G.wf.lev]; exact h)
theorem stand_at {a : Ad} {H : Hp} {L : Lay} {p : Si69.Plot} (G : GA a H L p) {i : Nat} (h : i < p.places) : atI (nats p.garden.stands) (i : Int) = some (nat (p.garden.stand i)) := at_nats (by rw [G.wf.sta]; exact h)
def spTops (a : Ad) : Sp := fun vs H Q _ => ∃ (L : Lay) (p : Si69.Plot) (b : Addr) (l : List Nat), vs = [.ref L.g, .ref b] ∧ GA a H L p ∧ PlanAt H p b l ∧ NewL H (nats (topsM p l)) Q
theorem ok_tops (M : Md K mg a) : FnOk P w K mg base CX0 2 a.f_tops a.d_tops ["garden", "plan"] (spTops a) := by
  have G_Garden_planted := ok_planted (P := P) (w := w) (base := base) M
  refine M.F_tops.ok sc_tops (fun vs H Q E h => ?_) (fun cdv A outer s H vs Q E hr h => ?_)
  · obtain ⟨_, _, _, _, rfl, _⟩ := h
    rfl
  · obtain ⟨L, p, b, l, rfl, G, PA, q⟩ := h
    have nd := sc_tops.nd
    have ep : p.places = p.garden.rows * p.garden.cols := rfl
    have h8 := G.wf.most
    have h3 := PA.short G
    refine ⟨_, (pss_cons (ps_setLc (i := 2) (own := [("place", 4)]) rfl nd rfl rfl rfl (pi_range1 rfl M.n_range (pa_cons (pe_fld (pv 0) rfl) pa_nil)) (blkOk_by (N := ["garden", "plan", "found", "number", "place"]) (sc := defScope s_tops) (by decide +kernel)) (fun _ _ _ _ _ => (pg_name (i := 4) nd rfl (Or.inl rfl))) (fun _ _ _ _ _ => pts_nil) (fun _ _ _ _ _ => (pe_op op_add (pe_ix (ix_listB (K := K) rfl) (pe_fldB (K := K) rfl (pv 0) rfl) (pv 4) (fun _ _ => rfl)) (pe_ix (ix_listB (K := K) rfl) (pe_fldB (K := K) rfl (pv 0) rfl) (pv 4) (fun _ _ => rfl)))))
      (pss_cons (ps_for PassesOwn.never rfl (pi_list (pe_meth (pv 0) M.cl_Garden M.m_Garden_planted G_Garden_planted (hr.mono (by decide)) M.b_Garden_planted .nil pass0 (pa_cons (pv 1) pa_nil))) (pg_name (i := 3) nd rfl (Or.inl rfl)) (pss_one (ps_augS (pv 2) (pe_ix ix_list (pv 1) (pv 3) (fun _ _ => rfl)) pget_list (pe_fld (pe_ix ix_list (pe_fld (pv 0) rfl) (pv 3) (fun _ _ => rfl)) rfl) ip_add set_list)))
      (pss_one (ps_ret (pv 2))))), ?_⟩
    refine ⟨_, rfl, L.g, _, L.dx, _, _, rfl, G.ins, M.cl_Garden, M.na_Garden_places, rfl, _, rfl, by omega, by omega, fun D hD => lc_range (n := p.places) (fun i H' => Same H H' ∧ H' D = some (.lst (nats ((List.range i).map fun q => p.garden.level q + p.garden.stand q)))) ⟨Same.new hD, upd_same⟩ (fun i H' hi hP => ?_) (fun H1 hP => ?_)⟩
    · obtain ⟨s1, h1⟩ := hP
      have G1 := G.same s1
      rw [Int.zero_add]
      refine ⟨rfl, in_yes ⟨_, rfl, L.g, _, L.dx, _, _, rfl, G1.ins, M.cl_Garden, M.na_Garden_levels, rfl, _, rfl, L.la, _, _, _, rfl, rfl, SqL.of G1.lev, level_at G1 hi, _, rfl, L.g, _, L.dx, _, _, rfl, G1.ins, M.cl_Garden, M.na_Garden_heights, rfl, _, rfl, L.ha, _, _, _, rfl, rfl, SqL.of G1.hei, stand_at G1 hi, _, _, rfl, rfl, _, h1, small_line ?_, s1.upd hD, ?_⟩⟩
      · rw [List.length_map, List.length_map, List.length_range]
        omega
      · rw [upd_same, List.range_succ, List.map_append, nats_append]
        rfl
    · obtain ⟨s1, h1⟩ := hP
      have G1 := G.same s1
      have PA1 := PA.same s1
      refine ⟨_, rfl, L.g, L.dx, _, rfl, G1.ins, rfl, _, rfl, L, p, b, l, rfl, G1, PA1.at_, by omega, fun D2 H2 s2 n2 h2 => ⟨D2, rfl, ⟨_, SqL.of h2⟩, for_list (K := K) (a := D2) (xs := nats (planted p l)) (fun i σ H' => ∃ v : Option V, σ = [some (.ref L.g), some (.ref b), some (.ref D), v, none] ∧ Same H H' ∧ H' D2 = some (.lst (nats (planted p l))) ∧ H' D = some (.lst (nats (((planted p l).take i).foldl (topStep p l) (tops0 p)))))
        ⟨none, rfl, s1.trans s2, h2, s2 _ _ h1⟩ (fun i σ H' _ ⟨_, _, _, z, _⟩ => SqL.of z) ?_ ?_⟩⟩
      · rintro i y σ H' hi ⟨v, rfl, s3, h3', h4⟩
        obtain ⟨k, hk, rfl⟩ := at_of_map hi
        have G3 := G.same s3
        have PA3 := PA.same s3
        have hm := List.mem_of_getElem? hk
        obtain ⟨m1, m2⟩ := mem_planted.mp hm
        have nD2 : D ≠ D2 := ne_of_none h1 n2
        have hlen : (((planted p l).take i).foldl (topStep p l) (tops0 p)).length = p.places :=
          ((fold_tops p l _ _ fun j hj => by rw [tops0_len]; exact (mem_planted.mp (List.mem_of_mem_take hj)).2).1).trans (tops0_len p)
        obtain ⟨c, d, e1, e2⟩ := G3.plant_at (i := k) (by have := PA.len; omega)
        refine ⟨_, rfl, _, rfl, _, rfl, b, _, _, _, rfl, rfl, SqL.of PA3.at_, at_nats m1, D, _, l.getD k 0, _, rfl, rfl, h4, nats_at (by rw [hlen]; exact m2), _, rfl, L.g, _, L.dx, _, _, rfl, G3.ins, M.cl_Garden, M.na_Garden_plants, rfl, _, rfl, L.pl, _, _, _, rfl, rfl, SqL.of G3.pls, e1, c, _, d, _, _, rfl, e2, M.cl_Plant, M.na_Plant_high, rfl, _, _, rfl, rfl, D, _, _, l.getD k 0, rfl, rfl, h4, ixN_nat (by rw [List.length_map, hlen]; exact m2), ?_⟩
        refine ⟨_, rfl, s3.upd hD, ?_, ?_⟩
        · rw [upd_ne (Ne.symm nD2)]
          exact h3'
        · rw [upd_same, take_snoc hk, List.foldl_append]
          show some (HO.lst ((nats _).set _ _)) = some (HO.lst (nats (topStep p l _ k)))
          unfold topStep
          rw [nats_set]
          rfl
      · rintro σ H' ⟨v, rfl, s3, h3', h4⟩
        rw [List.length_map, List.take_length] at h4
        exact ⟨_, rfl, q D H' s3 hD h4⟩
theorem row_steps_at {d : Nat} (h : d < 8) : atI (([(-1), (-1), (0), (1), (1), (1), (0), (-1)] : List Int).map V.int) (d : Int) = some (.int (Si64.stepOf d).1) := by
  refine atI_nat ?_
  match d, h with
  | 0, _ => rfl
  | 1, _ => rfl
  | 2, _ => rfl
  | 3, _ => rfl
  | 4, _ => rfl
  | 5, _ => rfl
  | 6, _ => rfl
  | 7, _ => rfl
theorem col_steps_at {d : Nat} (h : d < 8) : atI (([(0), (1), (1), (1), (0), (-1), (-1), (-1)] : List Int).map V.int) (d : Int) = some (.int (Si64.stepOf d).2) := by
  refine atI_nat ?_
  match d, h with
  | 0, _ => rfl
  | 1, _ => rfl
  | 2, _ => rfl
  | 3, _ => rfl
  | 4, _ => rfl
  | 5, _ => rfl
  | 6, _ => rfl
  | 7, _ => rfl
def spTowards (a : Ad) : Sp := fun vs H Q _ => ∃ (L : Lay) (p : Si69.Plot) (k d : Nat), vs = [.ref L.g, nat k, nat d] ∧ GA a H L p ∧ k < p.places ∧ d < 8 ∧ NewL H (nats (p.garden.towards k d)) Q
theorem ok_towards (M : Md K mg a) : FnOk P w K mg base CX0 2 a.f_places_towards_sun a.d_places_towards_sun ["garden", "place", "whence"] (spTowards a) := by
  have G_within := ok_within (P := P) (w := w) (base := base) M
  refine M.F_places_towards_sun.ok sc_places_towards_sun (fun vs H Q E h => ?_) (fun cdv A outer s H vs Q E hr h => ?_)
  · obtain ⟨_, _, _, _, rfl, _⟩ := h
    rfl
  · obtain ⟨L, p, k, d, rfl, G, hk, hd, q⟩ := h
    have nd := sc_places_towards_sun.nd
    obtain ⟨d1, d2, d3, d4⟩ := dims G.wf
    have h8 := G.wf.most
    obtain ⟨z1, z2, z3, z4⟩ := step_small d hd
    refine ⟨_, (pss_cons (ps_set (i := 3) nd rfl (Or.inl rfl) (pe_lst pa_nil))
      (pss_cons (ps_set (i := 4) nd rfl (Or.inl rfl) (pe_op op_add (pe_op op_fdiv (pv 1) (pe_fld (pv 0) rfl)) (pe_ix ix_tup (pe_glob (v := V.ref a.o_ROW_STEPS) rfl M.c_ROW_STEPS rfl) (pv 2) (fun _ _ => rfl))))
      (pss_cons (ps_set (i := 5) nd rfl (Or.inl rfl) (pe_op op_add (pe_op op_mod (pv 1) (pe_fld (pv 0) rfl)) (pe_ix ix_tup (pe_glob (v := V.ref a.o_COLUMN_STEPS) rfl M.c_COLUMN_STEPS rfl) (pv 2) (fun _ _ => rfl))))
      (pss_cons (ps_while PassesOwn.never (PW.pt (pw_and (pt_val (pe_call G_within (hr.mono (by decide)) rfl M.g_within M.k_within M.b_within .nil pass0 (pa_cons (pv 4) (pa_cons pe_int (pa_cons (pe_op op_sub (pe_fld (pv 0) rfl) pe_int) pa_nil))))) (pw_and1 (pt_val (pe_call G_within (hr.mono (by decide)) rfl M.g_within M.k_within M.b_within .nil pass0 (pa_cons (pv 5) (pa_cons pe_int (pa_cons (pe_op op_sub (pe_fld (pv 0) rfl) pe_int) pa_nil)))))))) (pss_cons (ps_expr (pe_bm PySem.F.plainAttrs_list PySem.F.slot_list_append PySem.F.type_list_append mt_append (pv 3) (pa_cons (pe_op op_add (pe_op op_mul (pv 4) (pe_fld (pv 0) rfl)) (pv 5)) pa_nil)))
      (pss_cons (ps_aug (i := 4) nd rfl (Or.inl rfl) (pe_ix ix_tup (pe_glob (v := V.ref a.o_ROW_STEPS) rfl M.c_ROW_STEPS rfl) (pv 2) (fun _ _ => rfl)) ip_add)
      (pss_one (ps_aug (i := 5) nd rfl (Or.inl rfl) (pe_ix ix_tup (pe_glob (v := V.ref a.o_COLUMN_STEPS) rfl M.c_COLUMN_STEPS rfl) (pv 2) (fun _ _ => rfl)) ip_add)))))
      (pss_one (ps_ret (pv 3))))))), ?_⟩
    refine ⟨by decide, fun D hD => ?_⟩
    have s1 : Same H (upd H D (.lst [])) := Same.new hD
    have G1 := G.same s1
    refine ⟨_, rfl, _, rfl, L.g, _, L.dx, _, _, rfl, G1.ins, M.cl_Garden, M.na_Garden_columns, rfl, _, _, rfl, rfl, ⟨by omega, by omega⟩, _, rfl, _, _, _, _, rfl, rfl, tup_of M.t_ROW_STEPS (by decide), row_steps_at hd, _, _, rfl, rfl, ?_⟩
    refine ⟨_, rfl, _, rfl, L.g, _, L.dx, _, _, rfl, G1.ins, M.cl_Garden, M.na_Garden_columns, rfl, _, _, rfl, rfl, by omega, _, rfl, _, _, _, _, rfl, rfl, tup_of M.t_COLUMN_STEPS (by decide), col_steps_at hd, _, _, rfl, rfl, ?_⟩
    refine ⟨fun m σ H' => ∃ (r c : Int) (fl : List Nat), σ = [some (.ref L.g), some (nat k), some (nat d), some (.ref D), some (.int r), some (.int c)] ∧ Same H H' ∧ H' D = some (.lst (nats fl)) ∧ fl ++ p.garden.ray (Si64.stepOf d) m (r - (Si64.stepOf d).1) (c - (Si64.stepOf d).2) = p.garden.towards k d ∧ bnd p.garden (Si64.stepOf d) r c ≤ m ∧ fl.length + m ≤ 8,
      ⟨p.places, ((k / p.garden.cols : Nat) : Int) + (Si64.stepOf d).1, ((k % p.garden.cols : Nat) : Int) + (Si64.stepOf d).2, [], rfl, s1, upd_same, ?_, bnd_start G.wf hk hd, by show 0 + p.places ≤ 8; omega⟩, ?_⟩
    · rw [List.nil_append, Int.add_sub_cancel, Int.add_sub_cancel]
      rfl
    rintro m σ H' ⟨r, c, fl, rfl, s2, h2, ef, hb, hl⟩
    have G2 := G.same s2
    refine ⟨_, rfl, _, rfl, L.g, _, L.dx, _, _, rfl, G2.ins, M.cl_Garden, M.na_Garden_rows, rfl, _, _, rfl, rfl, _, _, _, rfl, _, rfl, ?_⟩
    rw [within_eq (c := 0 ≤ r ∧ r < (p.garden.rows : Int)) (by omega)]
    by_cases c1 : 0 ≤ r ∧ r < (p.garden.rows : Int)
    case neg =>
      refine iteDF c1 (iteF ⟨_, rfl, ?_⟩)
      rw [ray_out _ _ _ (fun z => c1 ⟨z.1, z.2.1⟩), List.append_nil] at ef
      rw [ef] at h2
      exact q D H' s2 hD h2
    refine iteDT c1 ⟨_, rfl, _, rfl, L.g, _, L.dx, _, _, rfl, G2.ins, M.cl_Garden, M.na_Garden_columns, rfl, _, _, rfl, rfl, _, _, _, rfl, _, rfl, ?_⟩
    rw [within_eq (c := 0 ≤ c ∧ c < (p.garden.cols : Int)) (by omega)]
    by_cases c2 : 0 ≤ c ∧ c < (p.garden.cols : Int)
    case neg =>
      refine iteDF c2 ⟨_, rfl, ?_⟩
      rw [ray_out _ _ _ (fun z => c2 ⟨z.2.2.1, z.2.2.2⟩), List.append_nil] at ef
      rw [ef] at h2
      exact q D H' s2 hD h2
    rw [decide_eq_true c2]
    have ig : inG p.garden r c := ⟨c1.1, c1.2, c2.1, c2.2⟩
    have hb2 := bnd_in hd ig
    obtain ⟨m', rfl⟩ : ∃ m', m = m' + 1 := ⟨m - 1, by omega⟩
    rw [ray_in _ _ _ ig] at ef
    refine iteT ⟨fun σ' H'' => ∃ (r c : Int) (fl : List Nat), σ' = [some (.ref L.g), some (nat k), some (nat d), some (.ref D), some (.int r), some (.int c)] ∧ Same H H'' ∧ H'' D = some (.lst (nats fl)) ∧ fl ++ p.garden.ray (Si64.stepOf d) m' (r - (Si64.stepOf d).1) (c - (Si64.stepOf d).2) = p.garden.towards k d ∧ bnd p.garden (Si64.stepOf d) r c ≤ m' ∧ fl.length + m' ≤ 8, fun σ' H'' z => ⟨m', by omega, z⟩, ?_⟩
    refine ⟨_, rfl, .inl ⟨rfl, _, SqL.of h2⟩, _, rfl, _, rfl, L.g, _, L.dx, _, _, rfl, G2.ins, M.cl_Garden, M.na_Garden_columns, rfl, _, _, rfl, rfl, .inl ⟨by omega, by omega⟩, _, rfl, _, _, rfl, rfl, D, _, _, rfl, rfl, h2, small_line (by rw [List.length_map]; omega), ?_⟩
    refine ⟨_, rfl, _, rfl, _, _, _, _, rfl, rfl, tup_of M.t_ROW_STEPS (by decide), row_steps_at hd, _, _, rfl, rfl, ?_⟩
    refine ⟨_, rfl, _, rfl, _, _, _, _, rfl, rfl, tup_of M.t_COLUMN_STEPS (by decide), col_steps_at hd, _, _, rfl, rfl, ?_⟩
    refine ⟨r + (Si64.stepOf d).1, c + (Si64.stepOf d).2, fl ++ [r.toNat * p.garden.cols + c.toNat], rfl, s2.upd hD, ?_, ?_, by omega, ?_⟩
    · have e : (r * (p.garden.cols : Int) + c) = ((r.toNat * p.garden.cols + c.toNat : Nat) : Int) := by
        rw [Int.natCast_add, Int.natCast_mul, Int.toNat_of_nonneg c1.1, Int.toNat_of_nonneg c2.1]
      rw [upd_same, nats_append]
      show some (HO.lst (nats fl ++ [V.int (r * (p.garden.cols : Int) + c)])) = _
      rw [e]
      rfl
    · rw [List.append_assoc]
      exact ef
    · rw [List.length_append]
      show fl.length + 1 + m' ≤ 8
      omega
end
end Sb

set_option Elab.async false
set_option linter.all false
set_option maxRecDepth 100000
set_option maxHeartbeats 2000000
namespace Sb
open PySem PySem.Spec PyProof.Rows L2
section
variable {P : Program} {w : World} {K : PySem.W.Frag} {mg : Str → Option Value} {base : Heap} {a : Ad}
def spInSun (a : Ad) : Sp := fun vs H Q _ => ∃ (L : Lay) (p : Si69.Plot) (t : Addr) (T : List Nat) (k : Nat) (b d : Addr) (o : Si64.Hour), vs = [.ref L.g, .ref t, nat k, .ref b] ∧ GA a H L p ∧ H t = some (.lst (nats T)) ∧ T.length = p.places ∧ k < p.places ∧ H b = some (.ins a.C_Hour d (hf o)) ∧ o.whence < 8 ∧ ∀ H', Same H H' → Q (.bl (inSunM p T k o)) H'
theorem ok_in_sun (M : Md K mg a) : FnOk P w K mg base CX0 3 a.f_in_sun a.d_in_sun ["garden", "all_tops", "place", "hour"] (spInSun a) := by
  have G_places_towards_sun := ok_towards (P := P) (w := w) (base := base) M
  refine M.F_in_sun.ok sc_in_sun (fun vs H Q E h => ?_) (fun cdv A outer s H vs Q E hr h => ?_)
  · obtain ⟨_, _, _, _, _, _, _, _, rfl, _⟩ := h
    rfl
  · obtain ⟨L, p, t, T, k, b, d, o, rfl, G, ht, hT, hk, hb, hw, q⟩ := h
    have nd := sc_in_sun.nd
    refine ⟨_, (pss_cons (ps_set (i := 4) nd rfl (Or.inl rfl) (pe_ix ix_list (pv 1) (pv 2) (fun _ _ => rfl)))
      (pss_cons (ps_for PassesOwn.never rfl (pi_list (pe_call G_places_towards_sun (hr.mono (by decide)) rfl M.g_places_towards_sun M.k_places_towards_sun M.b_places_towards_sun .nil pass0 (pa_cons (pv 0) (pa_cons (pv 2) (pa_cons (pe_fld (pv 3) rfl) pa_nil))))) (pg_name (i := 5) nd rfl (Or.inl rfl)) (pss_cons (ps_aug (i := 4) nd rfl (Or.inl rfl) (pe_fld (pv 3) rfl) ip_add)
      (pss_one (ps_if (pt_cmpR op_gt (pe_ix ix_list (pv 1) (pv 5) (fun _ _ => rfl)) (pv 4) (nomark _)) (pss_one (ps_ret pe_bl)) pss_nil))))
      (pss_one (ps_ret pe_bl)))), ?_⟩
    refine ⟨_, rfl, _, rfl, t, _, _, _, rfl, rfl, SqL.of ht, at_nats (by rw [hT]; exact hk), ?_⟩
    refine ⟨_, rfl, _, rfl, _, rfl, b, _, d, _, _, rfl, hb, M.cl_Hour, M.na_Hour_whence, rfl, L, p, k, o.whence, rfl, G, hk, hw, fun D H1 s1 n1 h1 => ⟨D, rfl, ⟨_, SqL.of h1⟩, for_list (K := K) (a := D) (xs := nats (p.garden.towards k o.whence))
      (fun i σ H' => ∃ v : Option V, σ = [some (.ref L.g), some (.ref t), some (nat k), some (.ref b), some (nat (T.getD k 0 + i * o.rise)), v] ∧ Same H1 H' ∧ ∀ j x, j < i → (p.garden.towards k o.whence)[j]? = some x → T.getD x 0 ≤ T.getD k 0 + (j + 1) * o.rise)
      ⟨none, ?_, Same.refl _, fun j x h => absurd h (by omega)⟩ (fun i σ H' _ ⟨_, _, z, _⟩ => SqL.of (z _ _ h1)) ?_ ?_⟩⟩
    · rw [Nat.zero_mul, Nat.add_zero]
      rfl
    · rintro i y σ H' hi ⟨v, rfl, s2, hj⟩
      obtain ⟨x, hx, rfl⟩ := at_of_map hi
      have s3 := s1.trans s2
      have hxp : x < p.places := towards_lt p _ _ _ (List.mem_of_getElem? hx)
      refine ⟨_, rfl, _, rfl, b, _, d, _, _, rfl, s3 _ _ hb, M.cl_Hour, M.na_Hour_rise, rfl, _, _, rfl, rfl, ?_⟩
      have ev : (((T.getD k 0 + i * o.rise : Nat) : Int) + (o.rise : Int)) = ((T.getD k 0 + (i + 1) * o.rise : Nat) : Int) := by
        rw [Nat.add_mul]
        omega
      have em : (i + 1) * o.rise = i * o.rise + o.rise := Nat.succ_mul i o.rise
      refine ⟨_, rfl, _, rfl, t, _, _, _, rfl, rfl, SqL.of (s3 _ _ ht), at_nats (by rw [hT]; exact hxp), _, rfl, _, _, rfl, rfl, _, rfl, ?_⟩
      by_cases c : T.getD x 0 ≤ T.getD k 0 + (i + 1) * o.rise
      · refine iteDF (by show ¬ ((((T.getD k 0 + i * o.rise : Nat) : Int) + (o.rise : Int)) < ((T.getD x 0 : Nat) : Int)); omega) ⟨some (nat x), by show [some (V.ref L.g), some (V.ref t), some (nat k), some (V.ref b), some (V.int (((T.getD k 0 + i * o.rise : Nat) : Int) + (o.rise : Int))), some (nat x)] = _; rw [ev], s2, fun j z hji hz => ?_⟩
        by_cases e : j = i
        · subst e
          rw [hx] at hz
          cases hz
          exact c
        · exact hj j z (by omega) hz
      · refine iteDT (by show (((T.getD k 0 + i * o.rise : Nat) : Int) + (o.rise : Int)) < ((T.getD x 0 : Nat) : Int); omega) ?_
        have e : inSunM p T k o = false := by
          cases z : inSunM p T k o with
          | false => rfl
          | true => exact absurd ((sun_iff p T k o).mp z i x hx) c
        have := q H' s3
        rw [e] at this
        exact this
    · rintro σ H' ⟨v, rfl, s2, hj⟩
      have e : inSunM p T k o = true := (sun_iff p T k o).mpr fun j x hx => hj j x (by rw [List.length_map]; exact (List.getElem?_eq_some_iff.mp hx).1) hx
      have := q H' (s1.trans s2)
      rw [e] at this
      exact this
def spHours (a : Ad) : Sp := fun vs H Q _ => ∃ (L : Lay) (p : Si69.Plot) (t : Addr) (T : List Nat) (k : Nat), vs = [.ref L.g, .ref t, nat k] ∧ GA a H L p ∧ H t = some (.lst (nats T)) ∧ T.length = p.places ∧ k < p.places ∧ ∀ H', Same H H' → Q (nat (hoursM p T k)) H'
theorem ok_hours_in_sun (M : Md K mg a) : FnOk P w K mg base CX0 4 a.f_hours_in_sun a.d_hours_in_sun ["garden", "all_tops", "place"] (spHours a) := by
  have G_in_sun := ok_in_sun (P := P) (w := w) (base := base) M
  refine M.F_hours_in_sun.ok sc_hours_in_sun (fun vs H Q E h => ?_) (fun cdv A outer s H vs Q E hr h => ?_)
  · obtain ⟨_, _, _, _, _, rfl, _⟩ := h
    rfl
  · obtain ⟨L, p, t, T, k, rfl, G, ht, hT, hk, q⟩ := h
    have nd := sc_hours_in_sun.nd
    have h8 := G.wf.hours
    refine ⟨_, (pss_one (ps_ret (pe_callB call_len_seq (by rfl) M.n_len boo_len (pa_cons (pe_lc (own := [("hour", 3)]) rfl nd (pi_list (pe_fld (pv 0) rfl)) (blkOk_by (N := ["garden", "all_tops", "place", "hour"]) (sc := defScope s_hours_in_sun) (by decide +kernel)) (fun _ _ _ _ _ => (pg_name (i := 3) nd rfl (Or.inl rfl))) (fun _ _ _ _ _ => (pts_one (pt_val (pe_call G_in_sun (hr.mono (by decide)) rfl M.g_in_sun M.k_in_sun M.b_in_sun .nil pass0 (pa_cons (pv 0) (pa_cons (pv 1) (pa_cons (pv 2) (pa_cons (pv 3) pa_nil)))))))) (fun _ _ _ _ _ => (pv 3))) pa_nil)))), ?_⟩
    refine ⟨_, rfl, L.g, _, L.dx, _, _, rfl, G.ins, M.cl_Garden, M.na_Garden_hours, rfl, L.hl, rfl, ⟨_, SqL.of G.hrs⟩, fun D hD => lc_list (K := K) (a := L.hl) (xs := L.hs.map V.ref) (fun i H' => Same H H' ∧ ∃ acc : List V, H' D = some (.lst acc) ∧ acc.length = ((p.garden.hours.take i).filter (inSunM p T k)).length) ⟨Same.new hD, [], upd_same, rfl⟩ (fun i H' _ z => SqL.of (z.1 _ _ G.hrs)) (fun i x H' hi hP => ?_) (fun H' hP => ?_)⟩
    · obtain ⟨s1, acc, h1, hlen⟩ := hP
      obtain ⟨b, hb, rfl⟩ := at_of_map hi
      have G1 := G.same s1
      obtain ⟨o, d, ho, hob⟩ := G1.hat i b hb
      have hw := G.wf.whence o (List.mem_of_getElem? ho)
      refine ⟨rfl, _, rfl, _, rfl, _, rfl, _, rfl, L, p, t, T, k, b, d, o, rfl, G1, s1 _ _ ht, hT, hk, hob, hw, fun H2 s2 => ⟨_, rfl, ?_⟩⟩
      rw [take_snoc ho, List.filter_append, List.length_append, ← hlen]
      cases e : inSunM p T k o with
      | true =>
        refine iteT ⟨_, rfl, acc, s2 _ _ h1, small_line ?_, (s1.trans s2).upd hD, _, upd_same, ?_⟩
        · rw [hlen]
          have z1 := List.length_filter_le (inSunM p T k) (p.garden.hours.take i)
          have z2 := List.length_take_le i p.garden.hours
          have z3 := List.length_take_le' i p.garden.hours
          omega
        · rw [List.length_append, List.filter_cons_of_pos e]
          rfl
      | false =>
        refine iteF ⟨s1.trans s2, acc, s2 _ _ h1, ?_⟩
        rw [List.filter_cons_of_neg (by rw [e]; decide)]
        rfl
    · obtain ⟨s1, acc, h1, hlen⟩ := hP
      rw [List.length_map, G.hlen, List.take_length] at hlen
      refine ⟨D, _, rfl, .inl (SqL.of h1), ?_⟩
      have := q H' s1
      unfold hoursM at this
      rw [← hlen] at this
      exact this
end
end Sb

set_option Elab.async false
set_option linter.all false
set_option maxRecDepth 100000
set_option maxHeartbeats 4000000
namespace Sb
open PySem PySem.Spec PyProof.Rows L2
section
variable {P : Program} {w : World} {K : PySem.W.Frag} {mg : Str → Option Value} {base : Heap} {a : Ad}
theorem min_int {l : List Nat} {m : Int} (h1 : m ∈ l.map fun n : Nat => (n : Int)) (h2 : ∀ y, y ∈ (l.map fun n : Nat => (n : Int)) → m ≤ y) : m = ((l.min?.getD 0 : Nat) : Int) := by
  obtain ⟨x, hx, rfl⟩ := List.mem_map.mp h1
  have hl : l ≠ [] := fun z => by rw [z] at hx; cases hx
  have e : Least (fun y => y ∈ l) x := ⟨hx, fun y hy => by
    have := h2 _ (List.mem_map.mpr ⟨y, hy, rfl⟩)
    omega⟩
  rw [e.eq (min_least hl)]
/-- the ways over the plant i -/
def wopt (p : Si69.Plot) (l : List Nat) (f : Nat) (dry : List Nat) (k c i : Nat) : List Nat :=
  (Si65.steps (p.spot k) (p.spot p.tap) + Si65.steps (p.spot p.tap) (p.spot (l.getD i 0)) + wayM p l f (dry.filter fun j => j != i) (l.getD i 0) (p.can - p.waters.getD i 0)) ::
    (if p.waters.getD i 0 ≤ c then [Si65.steps (p.spot k) (p.spot (l.getD i 0)) + wayM p l f (dry.filter fun j => j != i) (l.getD i 0) (c - p.waters.getD i 0)] else [])
theorem way_min' (p : Si69.Plot) (l : List Nat) (f : Nat) {dry : List Nat} (h : dry ≠ []) (k c : Nat) : wayM p l (f + 1) dry k c = ((dry.flatMap (wopt p l f dry k c)).min?).getD 0 := wayG_succ f h _ _
def spWay (a : Ad) (N : Nat) : Sp := fun vs H Q _ => ∃ (L : Lay) (p : Si69.Plot) (b : Addr) (l : List Nat) (d : Addr) (dry : List Nat) (n k c : Nat), vs = [.ref L.g, .ref b, .ref d, nat k, nat c] ∧ GA a H L p ∧ PlanAt H p b l ∧ H d = some (.lst (nats dry)) ∧ (∀ i ∈ dry, i ∈ planted p l) ∧ dry.length ≤ n ∧ n ≤ N ∧ n ≤ 100 ∧ ∀ H', Same H H' → Q (nat (wayM p l n dry k c)) H'
theorem way_step (M : Md K mg a) (N : Nat) (sp' : Sp) (G_way_on : FnOk P w K mg base CX0 (N + 1) a.f_way_on a.d_way_on ["garden", "plan", "dry", "place", "in_can"] sp') (hsp : ∀ vs H Q E, 1 ≤ N → spWay a (N - 1) vs H Q E → sp' vs H Q E) :
    FnOk P w K mg base CX0 (N + 2) a.f_way_on a.d_way_on ["garden", "plan", "dry", "place", "in_can"] (spWay a N) := by
  have G_Garden_steps := ok_steps (P := P) (w := w) (base := base) M
  refine M.F_way_on.ok sc_way_on (fun vs H Q E h => ?_) (fun cdv A outer s H vs Q E hr h => ?_)
  · obtain ⟨_, _, _, _, _, _, _, _, _, rfl, _⟩ := h
    rfl
  · obtain ⟨L, p, b, l, d, dry, n, k, c, rfl, G, PA, hd, hdry, hn, hN, h100, q⟩ := h
    have nd := sc_way_on.nd
    refine ⟨_, (pss_cons (ps_set (i := 5) nd rfl (Or.inl rfl) (pe_meth (pv 0) M.cl_Garden M.m_Garden_steps G_Garden_steps (hr.mono (by omega)) M.b_Garden_steps .nil pass0 (pa_cons (pv 3) (pa_cons (pe_fld (pv 0) rfl) pa_nil))))
      (pss_cons (ps_if (pt_cmpR op_eq (pe_callB call_len_seq (by rfl) M.n_len boo_len (pa_cons (pv 2) pa_nil)) pe_int (nomark _)) (pss_one (ps_ret (pv 5))) pss_nil)
      (pss_cons (ps_set (i := 6) nd rfl (Or.inl rfl) (pe_lst pa_nil))
      (pss_cons (ps_for PassesOwn.never rfl (pi_list (pv 2)) (pg_name (i := 7) nd rfl (Or.inr rfl)) (pss_cons (ps_set (i := 8) nd rfl (Or.inl rfl) (pe_ix ix_list (pv 1) (pv 7) (fun _ _ => rfl)))
      (pss_cons (ps_set (i := 9) nd rfl (Or.inl rfl) (pe_fld (pe_ix ix_list (pe_fld (pv 0) rfl) (pv 7) (fun _ _ => rfl)) rfl))
      (pss_cons (ps_setLc (i := 10) (own := [("other", 12)]) rfl nd rfl rfl rfl (pi_list (pv 2)) (blkOk_by (N := ["garden", "plan", "dry", "place", "in_can", "to_tap", "ways", "number", "goal", "water", "rest", "over_tap", "other"]) (sc := defScope s_way_on) (by decide +kernel)) (fun _ _ _ _ _ => (pg_name (i := 12) nd rfl (Or.inl rfl))) (fun _ _ _ _ _ => (pts_one (pt_cmpR op_ne (pv 12) (pv 7) (nomark _)))) (fun _ _ _ _ _ => (pv 12)))
      (pss_cons (ps_set (i := 11) nd rfl (Or.inl rfl) (pe_op op_add (pv 5) (pe_meth (pv 0) M.cl_Garden M.m_Garden_steps G_Garden_steps (hr.mono (by omega)) M.b_Garden_steps .nil pass0 (pa_cons (pe_fld (pv 0) rfl) (pa_cons (pv 8) pa_nil)))))
      (pss_cons (ps_expr (pe_bm PySem.F.plainAttrs_list PySem.F.slot_list_append PySem.F.type_list_append mt_append (pv 6) (pa_cons (pe_op op_add (pv 11) (pe_call G_way_on (hr.mono (by omega)) rfl M.g_way_on M.k_way_on M.b_way_on .nil pass0 (pa_cons (pv 0) (pa_cons (pv 1) (pa_cons (pv 10) (pa_cons (pv 8) (pa_cons (pe_op op_sub (pe_fld (pv 0) rfl) (pv 9)) pa_nil))))))) pa_nil)))
      (pss_one (ps_if (pt_cmpR op_le (pv 9) (pv 4) (nomark _)) (pss_one (ps_expr (pe_bm PySem.F.plainAttrs_list PySem.F.slot_list_append PySem.F.type_list_append mt_append (pv 6) (pa_cons (pe_op op_add (pe_meth (pv 0) M.cl_Garden M.m_Garden_steps G_Garden_steps (hr.mono (by omega)) M.b_Garden_steps .nil pass0 (pa_cons (pv 3) (pa_cons (pv 8) pa_nil))) (pe_call G_way_on (hr.mono (by omega)) rfl M.g_way_on M.k_way_on M.b_way_on .nil pass0 (pa_cons (pv 0) (pa_cons (pv 1) (pa_cons (pv 10) (pa_cons (pv 8) (pa_cons (pe_op op_sub (pv 4) (pv 9)) pa_nil))))))) pa_nil)))) pss_nil))))))))
      (pss_one (ps_ret (pe_callB (cr_min rfl) (by rfl) M.n_min boo_min (pa_cons (pv 6) pa_nil)))))))), ?_⟩
    refine ⟨_, rfl, L.g, L.dx, _, rfl, G.ins, rfl, _, rfl, _, rfl, L.g, _, L.dx, _, _, rfl, G.ins, M.cl_Garden, M.na_Garden_tap_place, rfl, L, p, k, p.tap, rfl, G, ?_⟩
    refine ⟨_, rfl, d, _, rfl, .inl (SqL.of hd), rfl, _, rfl, ?_⟩
    by_cases he : dry = []
    · subst he
      refine iteT ⟨_, rfl, ?_⟩
      have := q H (Same.refl H)
      unfold wayM at this
      rw [wayG_nil] at this
      exact this
    have hlen : 0 < dry.length := List.length_pos_iff.mpr he
    obtain ⟨m, rfl⟩ : ∃ m, n = m + 1 := ⟨n - 1, by omega⟩
    refine iteDF (by intro z; injection z with z; rw [List.length_map] at z; omega) ⟨by decide, fun D hD => ?_⟩
    have s1 : Same H (upd H D (.lst [])) := Same.new hD
    refine ⟨_, rfl, d, rfl, ⟨_, SqL.of (s1 _ _ hd)⟩, for_list (K := K) (a := d) (xs := nats dry)
      (fun i σ H' => ∃ v7 v8 v9 v10 v11 : Option V, σ = [some (.ref L.g), some (.ref b), some (.ref d), some (nat k), some (nat c), some (nat (Si65.steps (p.spot k) (p.spot p.tap))), some (.ref D), v7, v8, v9, v10, v11, none] ∧ Same H H' ∧ H' D = some (.lst (nats ((dry.take i).flatMap (wopt p l m dry k c)))) ∧ ((dry.take i).flatMap (wopt p l m dry k c)).length ≤ 2 * i)
      ⟨none, none, none, none, none, rfl, s1, upd_same, Nat.le_refl 0⟩ (fun i σ H' _ ⟨_, _, _, _, _, _, z, _⟩ => SqL.of (z _ _ hd)) ?_ ?_⟩
    · rintro i y σ H' hi ⟨v7, v8, v9, v10, v11, rfl, s2, h2, hl2⟩
      obtain ⟨x, hx, rfl⟩ := at_of_map hi
      have hxm := List.mem_of_getElem? hx
      have hil : i < dry.length := (List.getElem?_eq_some_iff.mp hx).1
      obtain ⟨m1, m2⟩ := mem_planted.mp (hdry x hxm)
      have G2 := G.same s2
      have PA2 := PA.same s2
      obtain ⟨e, de, e1, e2⟩ := G2.plant_at (i := x) (by have := PA.len; omega)
      refine ⟨_, rfl, _, rfl, b, _, _, _, rfl, rfl, SqL.of PA2.at_, at_nats m1, ?_⟩
      refine ⟨_, rfl, L.g, _, L.dx, _, _, rfl, G2.ins, M.cl_Garden, M.na_Garden_plants, rfl, _, rfl, L.pl, _, _, _, rfl, rfl, SqL.of G2.pls, e1, e, _, de, _, _, rfl, e2, M.cl_Plant, M.na_Plant_water, rfl, ?_⟩
      refine ⟨_, rfl, d, rfl, ⟨_, SqL.of (s2 _ _ hd)⟩, fun R hR => lc_list (K := K) (a := d) (xs := nats dry) (fun j H'' => Same H' H'' ∧ H'' R = some (.lst (nats ((dry.take j).filter fun j => j != x)))) ⟨Same.new hR, upd_same⟩ (fun j H'' _ z => SqL.of (z.1 _ _ (s2 _ _ hd))) (fun j y H'' hj hP => ?_) (fun H3 hP => ?_)⟩
      · obtain ⟨s3, h3⟩ := hP
        obtain ⟨z, hz, rfl⟩ := at_of_map hj
        have hjl : j < dry.length := (List.getElem?_eq_some_iff.mp hz).1
        refine ⟨rfl, _, rfl, _, rfl, rfl, _, rfl, ?_⟩
        rw [take_snoc hz, List.filter_append]
        by_cases cz : z = x
        · subst cz
          refine iteNF rfl ⟨s3, ?_⟩
          rw [List.filter_cons_of_neg (by simp), List.filter_nil, List.append_nil]
          exact h3
        · refine iteNT (by intro q; injection q with q; omega) ⟨_, rfl, _, h3, small_line ?_, s3.upd hR, ?_⟩
          · rw [List.length_map]
            have z1 := List.length_filter_le (fun j => j != x) (dry.take j)
            have z2 := List.length_take_le j dry
            omega
          · rw [upd_same, List.filter_cons_of_pos (by simpa using cz), nats_append]
            rfl
      · obtain ⟨s3, h3⟩ := hP
        rw [List.length_map, List.take_length] at h3
        have s23 := s2.trans s3
        have G3 := G.same s23
        have PA3 := PA.same s23
        have hfl := filter_lt hxm
        have hwc := water_le G.wf x
        have ew : ((p.can : Int) - (p.waters.getD x 0 : Nat)) = ((p.can - p.waters.getD x 0 : Nat) : Int) := by omega
        refine ⟨_, rfl, _, rfl, L.g, L.dx, _, rfl, G3.ins, rfl, _, rfl, L.g, _, L.dx, _, _, rfl, G3.ins, M.cl_Garden, M.na_Garden_tap_place, rfl, _, rfl, L, p, p.tap, l.getD x 0, rfl, G3, _, _, rfl, rfl, ?_⟩
        have hsub : ∀ j ∈ (dry.filter fun j => j != x), j ∈ planted p l := fun j hj => hdry j (List.mem_filter.mp hj).1
        refine ⟨_, rfl, .inl ⟨rfl, _, SqL.of (s3 _ _ h2)⟩, _, rfl, _, rfl, _, rfl, _, rfl, _, rfl, _, rfl, L.g, _, L.dx, _, _, rfl, G3.ins, M.cl_Garden, M.na_Garden_can, rfl, _, rfl, _, _, rfl, rfl, hsp _ _ _ _ (by omega) ⟨L, p, b, l, R, _, m, l.getD x 0, p.can - p.waters.getD x 0, congrArg (fun z => [V.ref L.g, .ref b, .ref R, nat (l.getD x 0), V.int z]) ew, G3, PA3, h3, hsub, by omega, by omega, by omega, fun H4 s4 => ?_⟩⟩
        have h24 := s4 _ _ (s3 _ _ h2)
        refine ⟨_, _, rfl, rfl, D, _, _, rfl, rfl, h24, small_line (by rw [List.length_map]; omega), ?_⟩
        have s5 : Same H (upd H4 D (.lst (nats ((dry.take i).flatMap (wopt p l m dry k c)) ++ [V.int (((Si65.steps (p.spot k) (p.spot p.tap) : Nat) : Int) + ((Si65.steps (p.spot p.tap) (p.spot (l.getD x 0)) : Nat) : Int) + ((wayM p l m (dry.filter fun j => j != x) (l.getD x 0) (p.can - p.waters.getD x 0) : Nat) : Int))]))) := (s23.trans s4).upd hD
        have RD : R ≠ D := (ne_of_none h2 hR).symm
        generalize hH5 : upd H4 D _ = H5 at s5 ⊢
        have h5 : H5 D = _ := (congrFun hH5 D).symm.trans upd_same
        have hR5 : H5 R = some (.lst (nats (dry.filter fun j => j != x))) := by rw [← hH5, upd_ne RD]; exact s4 _ _ h3
        have G5 := G.same s5
        have PA5 := PA.same s5
        have ec : ((((Si65.steps (p.spot k) (p.spot p.tap) : Nat) : Int) + ((Si65.steps (p.spot p.tap) (p.spot (l.getD x 0)) : Nat) : Int)) + ((wayM p l m (dry.filter fun j => j != x) (l.getD x 0) (p.can - p.waters.getD x 0) : Nat) : Int)) = ((Si65.steps (p.spot k) (p.spot p.tap) + Si65.steps (p.spot p.tap) (p.spot (l.getD x 0)) + wayM p l m (dry.filter fun j => j != x) (l.getD x 0) (p.can - p.waters.getD x 0) : Nat) : Int) := by omega
        refine ⟨_, rfl, _, rfl, _, _, rfl, rfl, _, rfl, ?_⟩
        rw [take_snoc hx, List.flatMap_append, List.flatMap_cons, List.flatMap_nil, List.append_nil, List.length_append]
        by_cases cw : p.waters.getD x 0 ≤ c
        · rw [decide_eq_true (by omega)]
          have eq : wopt p l m dry k c x = [Si65.steps (p.spot k) (p.spot p.tap) + Si65.steps (p.spot p.tap) (p.spot (l.getD x 0)) + wayM p l m (dry.filter fun j => j != x) (l.getD x 0) (p.can - p.waters.getD x 0), Si65.steps (p.spot k) (p.spot (l.getD x 0)) + wayM p l m (dry.filter fun j => j != x) (l.getD x 0) (c - p.waters.getD x 0)] := by
            unfold wopt
            rw [if_pos cw]
          have ew2 : ((c : Int) - (p.waters.getD x 0 : Nat)) = ((c - p.waters.getD x 0 : Nat) : Int) := by omega
          refine iteT ⟨_, rfl, .inl ⟨rfl, _, SqL.of h5⟩, _, rfl, L.g, L.dx, _, rfl, G5.ins, rfl, _, rfl, _, rfl, L, p, k, l.getD x 0, rfl, G5, _, rfl, _, rfl, _, rfl, _, rfl, _, rfl, _, rfl, _, _, rfl, rfl, hsp _ _ _ _ (by omega) ⟨L, p, b, l, R, _, m, l.getD x 0, c - p.waters.getD x 0, congrArg (fun z => [V.ref L.g, .ref b, .ref R, nat (l.getD x 0), V.int z]) ew2, G5, PA5, hR5, hsub, by omega, by omega, by omega, fun H6 s6 => ?_⟩⟩
          refine ⟨_, _, rfl, rfl, D, _, _, rfl, rfl, s6 _ _ h5, small_line (by rw [List.length_append, List.length_map]; show _ + 1 ≤ _; omega), ?_⟩
          refine ⟨_, _, _, _, _, rfl, (s5.trans s6).upd hD, ?_, ?_⟩
          · rw [upd_same, eq, ec, nats_append, List.append_assoc]
            have e6 : (((Si65.steps (p.spot k) (p.spot (l.getD x 0)) : Nat) : Int) + ((wayM p l m (dry.filter fun j => j != x) (l.getD x 0) (c - p.waters.getD x 0) : Nat) : Int)) = ((Si65.steps (p.spot k) (p.spot (l.getD x 0)) + wayM p l m (dry.filter fun j => j != x) (l.getD x 0) (c - p.waters.getD x 0) : Nat) : Int) := by omega
            dsimp only
            rw [e6]
            rfl
          · rw [eq]
            show _ + 2 ≤ _
            omega
        · rw [decide_eq_false (by omega)]
          have eq : wopt p l m dry k c x = [Si65.steps (p.spot k) (p.spot p.tap) + Si65.steps (p.spot p.tap) (p.spot (l.getD x 0)) + wayM p l m (dry.filter fun j => j != x) (l.getD x 0) (p.can - p.waters.getD x 0)] := by
            unfold wopt
            rw [if_neg cw]
          refine iteF ⟨_, _, _, _, _, rfl, s5, ?_, ?_⟩
          · rw [h5, eq, ec, nats_append]
            rfl
          · rw [eq]
            show _ + 1 ≤ _
            omega
    · rintro σ H' ⟨v7, v8, v9, v10, v11, rfl, s2, h2, hl2⟩
      rw [List.length_map, List.take_length] at h2
      have hne : dry.flatMap (wopt p l m dry k c) ≠ [] := opts_ne (sp := fun i => p.spot (l.getD i 0)) (wt := fun i => p.waters.getD i 0) (tap := p.spot p.tap) (can := p.can) (f := m) (a := p.spot k) (c := c) he
      refine ⟨_, rfl, D, (dry.flatMap (wopt p l m dry k c)).map fun n : Nat => (n : Int), rfl, by rw [List.map_map]; exact SqL.of h2, by rw [List.length_map]; exact List.length_pos_iff.mpr hne, fun x h3 h4 => ?_⟩
      have := q H' s2
      rw [way_min' p l m he] at this
      rw [min_int h3 h4]
      exact this
theorem ok_way_on (M : Md K mg a) : ∀ N : Nat, FnOk P w K mg base CX0 (N + 2) a.f_way_on a.d_way_on ["garden", "plan", "dry", "place", "in_can"] (spWay a N)
  | 0 => way_step M 0 (fun _ _ _ _ => False) ⟨fun _ _ _ _ h => h.elim, fun _ _ _ _ _ _ _ _ _ _ _ _ _ h => h.elim⟩ fun _ _ _ _ h => absurd h (by omega)
  | N + 1 => way_step M (N + 1) (spWay a N) (ok_way_on M N) fun _ _ _ _ _ h => h
def spShort (a : Ad) : Sp := fun vs H Q _ => ∃ (L : Lay) (p : Si69.Plot) (b : Addr) (l : List Nat), vs = [.ref L.g, .ref b] ∧ GA a H L p ∧ PlanAt H p b l ∧ ∀ H', Same H H' → Q (nat (wayM p l (planted p l).length (planted p l) p.tap p.can)) H'
theorem ok_shortest_way (M : Md K mg a) : FnOk P w K mg base CX0 6 a.f_shortest_way a.d_shortest_way ["garden", "plan"] (spShort a) := by
  have G_way_on := ok_way_on (P := P) (w := w) (base := base) M 3
  have G_Garden_planted := ok_planted (P := P) (w := w) (base := base) M
  refine M.F_shortest_way.ok sc_shortest_way (fun vs H Q E h => ?_) (fun cdv A outer s H vs Q E hr h => ?_)
  · obtain ⟨_, _, _, _, rfl, _⟩ := h
    rfl
  · obtain ⟨L, p, b, l, rfl, G, PA, q⟩ := h
    have h3 := PA.short G
    have hp := planted_len p l
    refine ⟨_, (pss_one (ps_ret (pe_call G_way_on (hr.mono (by decide)) rfl M.g_way_on M.k_way_on M.b_way_on .nil pass0 (pa_cons (pv 0) (pa_cons (pv 1) (pa_cons (pe_meth (pv 0) M.cl_Garden M.m_Garden_planted G_Garden_planted (hr.mono (by decide)) M.b_Garden_planted .nil pass0 (pa_cons (pv 1) pa_nil)) (pa_cons (pe_fld (pv 0) rfl) (pa_cons (pe_fld (pv 0) rfl) pa_nil)))))))), ?_⟩
    refine ⟨_, rfl, _, rfl, _, rfl, L.g, L.dx, _, rfl, G.ins, rfl, _, rfl, L, p, b, l, rfl, G, PA.at_, by omega, fun D H1 s1 n1 h1 => ?_⟩
    have G1 := G.same s1
    refine ⟨_, rfl, L.g, _, L.dx, _, _, rfl, G1.ins, M.cl_Garden, M.na_Garden_tap_place, rfl, _, rfl, L.g, _, L.dx, _, _, rfl, G1.ins, M.cl_Garden, M.na_Garden_can, rfl, L, p, b, l, D, _, _, p.tap, p.can, rfl, G1, PA.same s1, h1, fun i hi => hi, Nat.le_refl _, by omega, by omega, fun H2 s2 => ?_⟩
    exact q H2 (s1.trans s2)
end
end Sb

set_option Elab.async false
set_option linter.all false
set_option maxRecDepth 100000
set_option maxHeartbeats 4000000
namespace Sb
open PySem PySem.Spec PyProof.Rows L2
section
variable {P : Program} {w : World} {K : PySem.W.Frag} {mg : Str → Option Value} {base : Heap} {a : Ad}
def spIsPlan (a : Ad) : Sp := fun vs H Q _ => ∃ (L : Lay) (p : Si69.Plot) (b : Addr) (l : List Nat), vs = [.ref L.g, .ref b] ∧ GA a H L p ∧ H b = some (.lst (nats l)) ∧ l.length ≤ 1000 ∧ ∀ H', Same H H' → Q (.bl (p.garden.told l)) H'
theorem all_bls (l : List Nat) (f : Nat → Bool) : (l.map f).all id = l.all f := by
  rw [List.all_map]
  rfl
theorem ok_is_plan (M : Md K mg a) : FnOk P w K mg base CX0 1 a.f_is_plan a.d_is_plan ["garden", "plan"] (spIsPlan a) := by
  refine M.F_is_plan.ok sc_is_plan (fun vs H Q E h => ?_) (fun cdv A outer s H vs Q E hr h => ?_)
  · obtain ⟨_, _, _, _, rfl, _⟩ := h
    rfl
  · obtain ⟨L, p, b, l, rfl, G, hb, hl, q⟩ := h
    have nd := sc_is_plan.nd
    have ep : p.places = p.garden.rows * p.garden.cols := rfl
    refine ⟨_, (pss_one (ps_ret (pe_and (pe_cmpR op_eq (pe_callB call_len_seq (by rfl) M.n_len boo_len (pa_cons (pv 1) pa_nil)) (pe_callB call_len_seq (by rfl) M.n_len boo_len (pa_cons (pe_fld (pv 0) rfl) pa_nil)) (nomark _)) (pe_one (pe_callB (cr_all rfl) (by rfl) M.n_all boo_all (pa_cons (pe_lc (own := [("place", 2)]) rfl nd (pi_list (pv 1)) (blkOk_by (N := ["garden", "plan", "place"]) (sc := defScope s_is_plan) (by decide +kernel)) (fun _ _ _ _ _ => (pg_name (i := 2) nd rfl (Or.inl rfl))) (fun _ _ _ _ _ => pts_nil) (fun _ _ _ _ _ => (pe_cmpR op_le (pv 2) (pe_fldB (K := K) rfl (pv 0) rfl) (nomark _)))) pa_nil)))))), ?_⟩
    refine ⟨_, rfl, b, _, rfl, .inl (SqL.of hb), _, rfl, L.g, _, L.dx, _, _, rfl, G.ins, M.cl_Garden, M.na_Garden_plants, rfl, L.pl, _, rfl, .inl (SqL.of G.pls), rfl, _, rfl, ?_⟩
    rw [List.length_map, List.length_map, G.plen]
    have et : p.garden.told l = (l.length == p.garden.plants.length && l.all fun k => decide (k ≤ p.places)) := rfl
    by_cases c : l.length = p.garden.plants.length
    · refine iteDT (by rw [c]) ⟨_, rfl, b, rfl, ⟨_, SqL.of hb⟩, fun D hD => lc_list (K := K) (a := b) (xs := nats l) (fun i H' => Same H H' ∧ H' D = some (.lst (((l.take i).map fun k => decide (k ≤ p.places)).map V.bl))) ⟨Same.new hD, upd_same⟩ (fun i H' _ z => SqL.of (z.1 _ _ hb)) (fun i y H' hi hP => ?_) (fun H' hP => ?_)⟩
      · obtain ⟨s1, h1⟩ := hP
        obtain ⟨x, hx, rfl⟩ := at_of_map hi
        have G1 := G.same s1
        have hil : i < l.length := (List.getElem?_eq_some_iff.mp hx).1
        refine ⟨rfl, in_yes ⟨_, rfl, _, rfl, L.g, _, L.dx, _, _, rfl, G1.ins, M.cl_Garden, M.na_Garden_places, rfl, _, _, rfl, rfl, _, h1, small_line ?_, s1.upd hD, ?_⟩⟩
        · rw [List.length_map, List.length_map]
          have z2 := List.length_take_le i l
          omega
        · have ed : decide ((x : Int) ≤ ((p.garden.rows * p.garden.cols : Nat) : Int)) = decide (x ≤ p.places) := by
            by_cases c : x ≤ p.places
            · rw [decide_eq_true c, decide_eq_true (by omega)]
            · rw [decide_eq_false c, decide_eq_false (by omega)]
          rw [upd_same, take_snoc hx, List.map_append, List.map_append]
          dsimp only
          rw [ed]
          rfl
      · obtain ⟨s1, h1⟩ := hP
        rw [List.length_map, List.take_length] at h1
        refine ⟨D, _, rfl, SqL.of h1, ?_⟩
        have := q H' s1
        rw [et, beq_iff_eq.mpr c, Bool.true_and] at this
        rw [all_bls]
        exact this
    · refine iteDF (by intro z; injection z with z; omega) ?_
      have := q H (Same.refl H)
      rw [et, beq_eq_false_iff_ne.mpr c, Bool.false_and] at this
      exact this
/-! ### set(xs) -/
theorem dedup_len : ∀ (ns acc : List Int), acc.Nodup → ((ns.foldl step_dedup acc).length = acc.length + ns.length ↔ (acc ++ ns).Nodup)
  | [], acc, h => by simp [h]
  | n :: ns, acc, h => by
    have le : ∀ (ns acc : List Int), (ns.foldl step_dedup acc).length ≤ acc.length + ns.length := fun ns => by
      induction ns with
      | nil => intro acc; exact Nat.le_refl _
      | cons n ns ih =>
        intro acc
        rw [List.foldl_cons, List.length_cons]
        refine Nat.le_trans (ih _) ?_
        unfold step_dedup
        split
        · omega
        · rw [List.length_append]
          show acc.length + 1 + ns.length ≤ _
          omega
    rw [List.foldl_cons]
    by_cases c : acc.any (fun x => x == n) = true
    · have e : step_dedup acc n = acc := if_pos c
      rw [e]
      obtain ⟨x, hx, hxn⟩ := List.any_eq_true.mp c
      have hm : n ∈ acc := by rw [← eq_of_beq hxn]; exact hx
      constructor
      · intro z
        have := le ns acc
        rw [List.length_cons] at z
        omega
      · intro z
        rw [List.nodup_append] at z
        exact absurd rfl (z.2.2 n hm n (List.mem_cons_self ..))
    · have e : step_dedup acc n = acc ++ [n] := if_neg c
      have hm : n ∉ acc := fun z => c (List.any_eq_true.mpr ⟨n, z, beq_self_eq_true _⟩)
      have nd' : (acc ++ [n]).Nodup := nd_snoc h hm
      rw [e]
      have ih := dedup_len ns (acc ++ [n]) nd'
      rw [List.length_append, List.append_assoc] at ih
      have : acc.length + (n :: ns).length = acc.length + [n].length + ns.length := by
        rw [List.length_cons]
        show _ = acc.length + 1 + _
        omega
      rw [this]
      exact ih
theorem range_getI : ∀ (l : List Int), (List.range l.length).map (fun i => l.getD i 0) = l
  | [] => rfl
  | a :: r => by
    rw [List.length_cons, List.range_succ_eq_map, List.map_cons, List.map_map]
    have := range_getI r
    show a :: (List.range r.length).map (fun i => r.getD i 0) = a :: r
    rw [this]
theorem set_len (ns : List Int) : (firstMet (fun i => ns.getD i 0) ns.length).length = ns.length ↔ ns.Nodup := by
  unfold firstMet
  rw [range_getI]
  have := dedup_len ns [] List.nodup_nil
  rw [List.length_nil, Nat.zero_add, List.nil_append] at this
  exact this
theorem cast_nd (l : List Nat) : (l.map fun n : Nat => (n : Int)).Nodup ↔ l.Nodup := by
  unfold List.Nodup
  rw [List.pairwise_map]
  constructor
  · intro h
    exact h.imp fun z e => z (by rw [e])
  · intro h
    exact h.imp fun z e => z (by omega)
def spPlaces (a : Ad) : Sp := fun vs H Q _ => ∃ (L : Lay) (p : Si69.Plot) (b : Addr) (l : List Nat), vs = [.ref L.g, .ref b] ∧ GA a H L p ∧ PlanAt H p b l ∧ ∀ H', Same H H' → Q (.bl (p.garden.fits l)) H'
theorem ok_has_places (M : Md K mg a) : FnOk P w K mg base CX0 2 a.f_has_places_of_its_own a.d_has_places_of_its_own ["garden", "plan"] (spPlaces a) := by
  have G_Garden_planted := ok_planted (P := P) (w := w) (base := base) M
  refine M.F_has_places_of_its_own.ok sc_has_places_of_its_own (fun vs H Q E h => ?_) (fun cdv A outer s H vs Q E hr h => ?_)
  · obtain ⟨_, _, _, _, rfl, _⟩ := h
    rfl
  · obtain ⟨L, p, b, l, rfl, G, PA, q⟩ := h
    have nd := sc_has_places_of_its_own.nd
    have h3 := PA.short G
    have hp := planted_len p l
    have htl : (taken p l).length = (planted p l).length := List.length_map _
    refine ⟨_, (pss_cons (ps_setLc (i := 2) (own := [("number", 3)]) rfl nd rfl rfl rfl (pi_list (pe_meth (pv 0) M.cl_Garden M.m_Garden_planted G_Garden_planted (hr.mono (by decide)) M.b_Garden_planted .nil pass0 (pa_cons (pv 1) pa_nil))) (blkOk_by (N := ["garden", "plan", "taken", "number", "place"]) (sc := defScope s_has_places_of_its_own) (by decide +kernel)) (fun _ _ _ _ _ => (pg_name (i := 3) nd rfl (Or.inl rfl))) (fun _ _ _ _ _ => pts_nil) (fun _ _ _ _ _ => (pe_ix (ix_listB (K := K) rfl) (pv 1) (pv 3) (fun _ _ => rfl))))
      (pss_one (ps_ret (pe_and (pe_cmpR op_eq (pe_callB call_lenSet (by rfl) M.n_len boo_len (pa_cons (pe_callTy (cr_setL rfl) (by rfl) M.n_set boo_set (pa_cons (pv 2) pa_nil)) pa_nil)) (pe_callB call_len_seq (by rfl) M.n_len boo_len (pa_cons (pv 2) pa_nil)) (nomark _)) (pe_one (pe_callB (cr_all rfl) (by rfl) M.n_all boo_all (pa_cons (pe_lc (own := [("place", 4)]) rfl nd (pi_list (pv 2)) (blkOk_by (N := ["garden", "plan", "taken", "number", "place"]) (sc := defScope s_has_places_of_its_own) (by decide +kernel)) (fun _ _ _ _ _ => (pg_name (i := 4) nd rfl (Or.inl rfl))) (fun _ _ _ _ _ => pts_nil) (fun _ _ _ _ _ => (pe_cmpR op_eq (pe_ix (ix_listB (K := K) rfl) (pe_fldB (K := K) rfl (pv 0) rfl) (pv 4) (fun _ _ => rfl)) pe_int (nomark _)))) pa_nil))))))), ?_⟩
    refine ⟨_, rfl, L.g, L.dx, _, rfl, G.ins, rfl, _, rfl, L, p, b, l, rfl, G, PA.at_, by omega, fun D1 H1 s1 n1 h1 => ⟨D1, rfl, ⟨_, SqL.of h1⟩, fun D hD => lc_list (K := K) (a := D1) (xs := nats (planted p l)) (fun i H' => Same H1 H' ∧ H' D = some (.lst (nats ((taken p l).take i)))) ⟨Same.new hD, upd_same⟩ (fun i H' _ z => SqL.of (z.1 _ _ h1)) (fun i y H' hi hP => ?_) (fun H2 hP => ?_)⟩⟩
    · obtain ⟨s2, h2⟩ := hP
      obtain ⟨x, hx, rfl⟩ := at_of_map hi
      have hxm := List.mem_of_getElem? hx
      have hil : i < (planted p l).length := (List.getElem?_eq_some_iff.mp hx).1
      obtain ⟨m1, m2⟩ := mem_planted.mp hxm
      have PA2 := PA.same (s1.trans s2)
      have htx : (taken p l)[i]? = some (l.getD x 0) := by
        unfold taken
        rw [List.getElem?_map, hx]
        rfl
      refine ⟨rfl, in_yes ⟨_, rfl, _, rfl, b, _, _, _, rfl, rfl, SqL.of PA2.at_, at_nats m1, _, h2, small_line ?_, s2.upd hD, ?_⟩⟩
      · rw [List.length_map]
        have z2 := List.length_take_le i (taken p l)
        omega
      · rw [upd_same, take_snoc htx, nats_append]
        rfl
    · obtain ⟨s2, h2⟩ := hP
      rw [List.length_map, ← htl, List.take_length] at h2
      have s12 := s1.trans s2
      have ens : nats (taken p l) = ((taken p l).map fun n : Nat => (n : Int)).map V.int := by rw [List.map_map]; rfl
      refine ⟨_, rfl, D, (taken p l).map fun n : Nat => (n : Int), rfl, by rw [← ens]; exact SqL.of h2, by rw [List.length_map]; omega, fun S hS Sf => ?_⟩
      have s3 : Same H2 (upd H2 S (.set Sf (firstMet (fun i => ((taken p l).map fun n : Nat => (n : Int)).getD i 0) ((taken p l).map fun n : Nat => (n : Int)).length).length)) := Same.new hS
      refine ⟨S, _, _, rfl, upd_same, Nat.le_trans (firstMet_length_le _ _) (by rw [List.length_map]; omega), _, rfl, D, _, rfl, .inl (SqL.of (s3 _ _ h2)), rfl, _, rfl, ?_⟩
      generalize hH3 : upd H2 S _ = H3 at s3 ⊢
      have s13 := s12.trans s3
      have G3 := G.same s13
      have h2' := s3 _ _ h2
      have en := set_len ((taken p l).map fun n : Nat => (n : Int))
      rw [cast_nd] at en
      by_cases c : (taken p l).Nodup
      · refine iteDT (by rw [en.mpr c, List.length_map, List.length_map]) ⟨_, rfl, D, rfl, ⟨_, SqL.of h2'⟩, fun D4 hD4 => lc_list (K := K) (a := D) (xs := nats (taken p l)) (fun i H' => Same H3 H' ∧ H' D4 = some (.lst ((((taken p l).take i).map fun k => p.garden.stand k == 0).map V.bl))) ⟨Same.new hD4, upd_same⟩ (fun i H' _ z => SqL.of (z.1 _ _ h2')) (fun i y H' hi hP => ?_) (fun H' hP => ?_)⟩
        · obtain ⟨s4, h4⟩ := hP
          obtain ⟨x, hx, rfl⟩ := at_of_map hi
          have G4 := G.same (s13.trans s4)
          have hil : i < (taken p l).length := (List.getElem?_eq_some_iff.mp hx).1
          have hxp : x < p.places := by
            obtain ⟨j, hj, rfl⟩ := List.mem_map.mp (List.mem_of_getElem? hx)
            exact (mem_planted.mp hj).2
          refine ⟨rfl, in_yes ⟨_, rfl, L.g, _, L.dx, _, _, rfl, G4.ins, M.cl_Garden, M.na_Garden_heights, rfl, _, rfl, L.ha, _, _, _, rfl, rfl, SqL.of G4.hei, stand_at G4 hxp, rfl, _, h4, small_line ?_, s4.upd hD4, ?_⟩⟩
          · rw [List.length_map, List.length_map]
            have z2 := List.length_take_le i (taken p l)
            omega
          · have ed : decide (nat (p.garden.stand x) = V.int 0) = (p.garden.stand x == 0) := by
              by_cases c : p.garden.stand x = 0
              · rw [c]; rfl
              · rw [beq_eq_false_iff_ne.mpr c, decide_eq_false]
                intro z
                injection z with z
                omega
            rw [upd_same, take_snoc hx, List.map_append, List.map_append, ed]
            rfl
        · obtain ⟨s4, h4⟩ := hP
          rw [List.length_map, List.take_length] at h4
          refine ⟨D4, _, rfl, SqL.of h4, ?_⟩
          have := q H' (s13.trans s4)
          rw [fits_iff, decide_eq_true c, Bool.true_and] at this
          rw [all_bls]
          exact this
      · refine iteDF (by intro z; injection z with z; refine c (en.mp ?_); rw [List.length_map] at z ⊢; rw [List.length_map] at z; omega) ?_
        have := q H3 s13
        rw [fits_iff, decide_eq_false c, Bool.false_and] at this
        exact this
/-! ### the first that has too little sun -/
def shadedM (p : Si69.Plot) (l : List Nat) : List Nat := match lackM p l with
  | some i => [i, hoursM p (topsM p l) (l.getD i 0)]
  | none => []
theorem find_at {α : Type} {f : α → Bool} : ∀ {l : List α} {i : Nat} {x : α}, l[i]? = some x → f x = true → (∀ j y, j < i → l[j]? = some y → f y = false) → l.find? f = some x
  | [], i, x, h, _, _ => by simp at h
  | b :: l, 0, x, h, hf, _ => by
    have e : b = x := Option.some.inj h
    subst e
    rw [List.find?_cons, hf]
  | b :: l, i + 1, x, h, hf, hn => by
    rw [List.find?_cons, hn 0 b (by omega) rfl]
    exact find_at (l := l) (i := i) h hf fun j y hj hy => hn (j + 1) y (by omega) hy
def spShaded (a : Ad) : Sp := fun vs H Q _ => ∃ (L : Lay) (p : Si69.Plot) (b : Addr) (l : List Nat), vs = [.ref L.g, .ref b] ∧ GA a H L p ∧ PlanAt H p b l ∧ NewL H (nats (shadedM p l)) Q
theorem ok_first_shaded (M : Md K mg a) : FnOk P w K mg base CX0 5 a.f_first_shaded a.d_first_shaded ["garden", "plan"] (spShaded a) := by
  have G_Garden_planted := ok_planted (P := P) (w := w) (base := base) M
  have G_tops := ok_tops (P := P) (w := w) (base := base) M
  have G_hours_in_sun := ok_hours_in_sun (P := P) (w := w) (base := base) M
  refine M.F_first_shaded.ok sc_first_shaded (fun vs H Q E h => ?_) (fun cdv A outer s H vs Q E hr h => ?_)
  · obtain ⟨_, _, _, _, rfl, _⟩ := h
    rfl
  · obtain ⟨L, p, b, l, rfl, G, PA, q⟩ := h
    have nd := sc_first_shaded.nd
    have h3 := PA.short G
    refine ⟨_, (pss_cons (ps_set (i := 2) nd rfl (Or.inl rfl) (pe_call G_tops (hr.mono (by decide)) rfl M.g_tops M.k_tops M.b_tops .nil pass0 (pa_cons (pv 0) (pa_cons (pv 1) pa_nil))))
      (pss_cons (ps_for PassesOwn.never rfl (pi_list (pe_meth (pv 0) M.cl_Garden M.m_Garden_planted G_Garden_planted (hr.mono (by decide)) M.b_Garden_planted .nil pass0 (pa_cons (pv 1) pa_nil))) (pg_name (i := 3) nd rfl (Or.inl rfl)) (pss_cons (ps_set (i := 4) nd rfl (Or.inl rfl) (pe_call G_hours_in_sun (hr.mono (by decide)) rfl M.g_hours_in_sun M.k_hours_in_sun M.b_hours_in_sun .nil pass0 (pa_cons (pv 0) (pa_cons (pv 2) (pa_cons (pe_ix ix_list (pv 1) (pv 3) (fun _ _ => rfl)) pa_nil)))))
      (pss_one (ps_if (pt_cmpR op_lt (pv 4) (pe_fld (pe_ix ix_list (pe_fld (pv 0) rfl) (pv 3) (fun _ _ => rfl)) rfl) (nomark _)) (pss_one (ps_ret (pe_lst (pa_cons (pv 3) (pa_cons (pv 4) pa_nil))))) pss_nil))))
      (pss_one (ps_ret (pe_lst pa_nil))))), ?_⟩
    refine ⟨_, rfl, _, rfl, L, p, b, l, rfl, G, PA, fun D H1 s1 n1 h1 => ?_⟩
    have G1 := G.same s1
    have PA1 := PA.same s1
    refine ⟨_, rfl, L.g, L.dx, _, rfl, G1.ins, rfl, _, rfl, L, p, b, l, rfl, G1, PA1.at_, by omega, fun D2 H2 s2 n2 h2 => ⟨D2, rfl, ⟨_, SqL.of h2⟩, for_list (K := K) (a := D2) (xs := nats (planted p l))
      (fun i σ H' => ∃ v3 v4 : Option V, σ = [some (.ref L.g), some (.ref b), some (.ref D), v3, v4] ∧ Same H2 H' ∧ ∀ j y, j < i → (planted p l)[j]? = some y → decide (hoursM p (topsM p l) (l.getD y 0) < (p.garden.plant y).need) = false)
      ⟨none, none, rfl, Same.refl _, fun j y h => absurd h (by omega)⟩ (fun i σ H' _ ⟨_, _, _, z, _⟩ => SqL.of (z _ _ h2)) ?_ ?_⟩⟩
    · rintro i y σ H' hi ⟨v3, v4, rfl, s3, hj⟩
      obtain ⟨x, hx, rfl⟩ := at_of_map hi
      obtain ⟨m1, m2⟩ := mem_planted.mp (List.mem_of_getElem? hx)
      have sA := (s1.trans s2).trans s3
      have GA' := G.same sA
      have PA' := PA.same sA
      refine ⟨_, rfl, _, rfl, _, rfl, _, rfl, b, _, _, _, rfl, rfl, SqL.of PA'.at_, at_nats m1, L, p, D, topsM p l, l.getD x 0, rfl, GA', s3 _ _ (s2 _ _ h1), tops_len p l, m2, fun H4 s4 => ?_⟩
      have s5 := sA.trans s4
      have G5 := G.same s5
      obtain ⟨e, de, e1, e2⟩ := G5.plant_at (i := x) (by have := PA.len; omega)
      refine ⟨_, rfl, _, rfl, L.g, _, L.dx, _, _, rfl, G5.ins, M.cl_Garden, M.na_Garden_plants, rfl, _, rfl, L.pl, _, _, _, rfl, rfl, SqL.of G5.pls, e1, e, _, de, _, _, rfl, e2, M.cl_Plant, M.na_Plant_needed_hours, rfl, _, _, rfl, rfl, _, rfl, ?_⟩
      by_cases c : hoursM p (topsM p l) (l.getD x 0) < (p.garden.plant x).need
      · refine iteDT (by omega) ⟨_, rfl, _, rfl, len_ok rfl, fun R hR => ?_⟩
        have ef : lackM p l = some x := find_at hx (decide_eq_true c) hj
        have es : shadedM p l = [x, hoursM p (topsM p l) (l.getD x 0)] := by unfold shadedM; rw [ef]
        have := q R _ (s5.upd (s5.free hR)) (s5.free hR) (by rw [es]; exact upd_same)
        exact this
      · refine iteDF (by omega) ⟨_, _, rfl, s3.trans s4, fun j z hji hz => ?_⟩
        by_cases e : j = i
        · subst e
          rw [hx] at hz
          cases hz
          exact decide_eq_false c
        · exact hj j z (by omega) hz
    · rintro σ H' ⟨v3, v4, rfl, s3, hj⟩
      have sA := (s1.trans s2).trans s3
      refine ⟨len_ok rfl, fun R hR => ?_⟩
      have ef : lackM p l = none := by
        unfold lackM
        rw [List.find?_eq_none]
        intro x hx
        obtain ⟨j, hj', e⟩ := List.mem_iff_getElem?.mp hx |>.imp fun j e => (⟨(List.getElem?_eq_some_iff.mp e).1, e⟩ : j < (planted p l).length ∧ _)
        rw [hj j x (by rw [List.length_map]; exact hj') e]
        decide
      have es : shadedM p l = [] := by unfold shadedM; rw [ef]
      exact q R _ (sA.upd (sA.free hR)) (sA.free hR) (by rw [es]; exact upd_same)
end
end Sb

set_option Elab.async false
set_option linter.all false
set_option maxRecDepth 100000
set_option maxHeartbeats 4000000
namespace Sb
open PySem PySem.Spec PyProof.Rows L2
section
variable {P : Program} {w : World} {K : PySem.W.Frag} {mg : Str → Option Value} {base : Heap} {a : Ad}
theorem sum_snocI : ∀ (l : List Int) (z : Int), (l ++ [z]).sum = l.sum + z
  | [], z => by
    show ([z] : List Int).sum = ([] : List Int).sum + z
    rw [List.sum_cons]
    exact Int.add_comm _ _
  | b :: l, z => by
    show (b :: (l ++ [z])).sum = (b :: l).sum + z
    rw [List.sum_cons, List.sum_cons, sum_snocI l z]
    omega
theorem sum_step {f : Nat → Int} {is : List Nat} {i x : Nat} (h : is[i]? = some x) : ((is.take (i + 1)).map f).sum = ((is.take i).map f).sum + f x := by
  rw [take_snoc h, List.map_append]
  exact sum_snocI _ _
theorem kind_at {p : Si69.Plot} (W : WF p) {i : Nat} (h : i < p.garden.plants.length) : 1 ≤ p.kinds.getD i 0 ∧ p.kinds.getD i 0 ≤ 5 := W.kind _ (getD_mem (by rw [W.kinds]; exact h))
def spWorth (a : Ad) : Sp := fun vs H Q _ => ∃ (L : Lay) (p : Si69.Plot) (b : Addr) (l : List Nat), vs = [.ref L.g, .ref b] ∧ GA a H L p ∧ PlanAt H p b l ∧ ∀ H', Same H H' → Q (.int (worthM p l)) H'
theorem ok_plan_worth (M : Md K mg a) : FnOk P w K mg base CX0 3 a.f_plan_worth a.d_plan_worth ["garden", "plan"] (spWorth a) := by
  have G_Garden_planted := ok_planted (P := P) (w := w) (base := base) M
  have G_Garden_steps := ok_steps (P := P) (w := w) (base := base) M
  have G_Garden_liking := ok_liking (P := P) (w := w) (base := base) M
  refine M.F_plan_worth.ok sc_plan_worth (fun vs H Q E h => ?_) (fun cdv A outer s H vs Q E hr h => ?_)
  · obtain ⟨_, _, _, _, rfl, _⟩ := h
    rfl
  · obtain ⟨L, p, b, l, rfl, G, PA, q⟩ := h
    have nd := sc_plan_worth.nd
    have h3 := PA.short G
    have hp := planted_len p l
    refine ⟨_, (pss_cons (ps_set (i := 2) nd rfl (Or.inl rfl) (pe_meth (pv 0) M.cl_Garden M.m_Garden_planted G_Garden_planted (hr.mono (by decide)) M.b_Garden_planted .nil pass0 (pa_cons (pv 1) pa_nil)))
      (pss_cons (ps_set (i := 3) nd rfl (Or.inl rfl) (pe_callB (cr_sum rfl) (by rfl) M.n_sum boo_sum (pa_cons (pe_lc (own := [("number", 4)]) rfl nd (pi_list (pv 2)) (blkOk_by (N := ["garden", "plan", "planted", "worth", "number", "other"]) (sc := defScope s_plan_worth) (by decide +kernel)) (fun _ _ _ _ _ => (pg_name (i := 4) nd rfl (Or.inl rfl))) (fun _ _ _ _ _ => pts_nil) (fun _ _ _ _ _ => (pe_fldB (K := K) rfl (pe_ix (ix_listB (K := K) rfl) (pe_fldB (K := K) rfl (pv 0) rfl) (pv 4) (fun _ _ => rfl)) rfl))) pa_nil)))
      (pss_cons (ps_for PassesOwn.never rfl (pi_list (pv 2)) (pg_name (i := 4) nd rfl (Or.inl rfl)) (pss_one (ps_for PassesOwn.never rfl (pi_list (pv 2)) (pg_name (i := 5) nd rfl (Or.inl rfl)) (pss_one (ps_if (PW.pt (pw_and (pt_cmpR op_lt (pv 4) (pv 5) (nomark _)) (pw_and1 (pt_cmpR op_eq (pe_meth (pv 0) M.cl_Garden M.m_Garden_steps G_Garden_steps (hr.mono (by decide)) M.b_Garden_steps .nil pass0 (pa_cons (pe_ix ix_list (pv 1) (pv 4) (fun _ _ => rfl)) (pa_cons (pe_ix ix_list (pv 1) (pv 5) (fun _ _ => rfl)) pa_nil))) pe_int (nomark _))))) (pss_one (ps_aug (i := 3) nd rfl (Or.inl rfl) (pe_meth (pv 0) M.cl_Garden M.m_Garden_liking G_Garden_liking (hr.mono (by decide)) M.b_Garden_liking .nil pass0 (pa_cons (pe_fld (pe_ix ix_list (pe_fld (pv 0) rfl) (pv 4) (fun _ _ => rfl)) rfl) (pa_cons (pe_fld (pe_ix ix_list (pe_fld (pv 0) rfl) (pv 5) (fun _ _ => rfl)) rfl) pa_nil))) ip_add)) pss_nil)))))
      (pss_one (ps_ret (pv 3)))))), ?_⟩
    refine ⟨_, rfl, L.g, L.dx, _, rfl, G.ins, rfl, _, rfl, L, p, b, l, rfl, G, PA.at_, by omega, fun D1 H1 s1 n1 h1 => ?_⟩
    have inl : ∀ {i x}, (planted p l)[i]? = some x → x < l.length ∧ x < p.garden.plants.length := fun {i x} h => by
      have := (mem_planted.mp (List.mem_of_getElem? h)).1
      have := PA.len
      omega
    refine ⟨_, rfl, D1, rfl, ⟨_, SqL.of h1⟩, fun D hD => lc_list (K := K) (a := D1) (xs := nats (planted p l)) (fun i H' => Same H1 H' ∧ H' D = some (.lst ((((planted p l).take i).map fun i => ((p.garden.plant i).worth : Int)).map V.int))) ⟨Same.new hD, upd_same⟩ (fun i H' _ z => SqL.of (z.1 _ _ h1)) (fun i y H' hi hP => ?_) (fun H2 hP => ?_)⟩
    · obtain ⟨s2, h2⟩ := hP
      obtain ⟨x, hx, rfl⟩ := at_of_map hi
      have hil : i < (planted p l).length := (List.getElem?_eq_some_iff.mp hx).1
      have G2 := G.same (s1.trans s2)
      obtain ⟨e, de, e1, e2⟩ := G2.plant_at (inl hx).2
      refine ⟨rfl, in_yes ⟨_, rfl, L.g, _, L.dx, _, _, rfl, G2.ins, M.cl_Garden, M.na_Garden_plants, rfl, _, rfl, L.pl, _, _, _, rfl, rfl, SqL.of G2.pls, e1, e, _, de, _, _, rfl, e2, M.cl_Plant, M.na_Plant_worth, rfl, _, h2, small_line ?_, s2.upd hD, ?_⟩⟩
      · rw [List.length_map, List.length_map]
        have z2 := List.length_take_le i (planted p l)
        omega
      · rw [upd_same, take_snoc hx, List.map_append, List.map_append]
        rfl
    · obtain ⟨s2, h2⟩ := hP
      rw [List.length_map, List.take_length] at h2
      refine ⟨D, _, rfl, SqL.of h2, ?_⟩
      have h1' := s2 _ _ h1
      generalize hB : ((planted p l).map fun i => ((p.garden.plant i).worth : Int)).sum = B
      refine ⟨_, rfl, D1, rfl, ⟨_, SqL.of h1'⟩, for_list (K := K) (a := D1) (xs := nats (planted p l))
        (fun i σ H' => ∃ v4 v5 : Option V, σ = [some (.ref L.g), some (.ref b), some (.ref D1), some (.int (B + (((planted p l).take i).map fun i => ((planted p l).map fun j => pairTerm p l i j).sum).sum)), v4, v5] ∧ Same H2 H')
        ⟨none, none, by show _ = [some (V.ref L.g), some (V.ref b), some (V.ref D1), some (V.int (B + 0)), none, none]; rw [Int.add_zero]; rfl, Same.refl _⟩ (fun i σ H' _ ⟨_, _, _, z⟩ => SqL.of (z _ _ h1')) ?_ ?_⟩
      · rintro i y σ H' hi ⟨v4, v5, rfl, s3⟩
        obtain ⟨x, hx, rfl⟩ := at_of_map hi
        generalize hW : B + (((planted p l).take i).map fun i => ((planted p l).map fun j => pairTerm p l i j).sum).sum = W
        refine ⟨_, rfl, D1, rfl, ⟨_, SqL.of (s3 _ _ h1')⟩, for_list (K := K) (a := D1) (xs := nats (planted p l))
          (fun j σ H' => ∃ v5 : Option V, σ = [some (.ref L.g), some (.ref b), some (.ref D1), some (.int (W + (((planted p l).take j).map fun j => pairTerm p l x j).sum)), some (nat x), v5] ∧ Same H2 H')
          ⟨v5, by show _ = [some (V.ref L.g), some (V.ref b), some (V.ref D1), some (V.int (W + 0)), some (nat x), v5]; rw [Int.add_zero]; rfl, s3⟩ (fun i σ H' _ ⟨_, _, z⟩ => SqL.of (z _ _ h1')) ?_ ?_⟩
        · rintro j y σ H3 hj ⟨v5', rfl, s4⟩
          obtain ⟨z, hz, rfl⟩ := at_of_map hj
          have sA := (s1.trans s2).trans s4
          have G4 := G.same sA
          have PA4 := PA.same sA
          rw [sum_step (f := fun j => pairTerm p l x j) hz, ← Int.add_assoc]
          generalize hV : W + (((planted p l).take j).map fun j => pairTerm p l x j).sum = V0
          refine ⟨_, rfl, _, rfl, _, _, rfl, rfl, _, rfl, ?_⟩
          have skip : ∀ H', Same H2 H' → ¬ (x < z ∧ Si65.steps (p.spot (l.getD x 0)) (p.spot (l.getD z 0)) = 1) → ∃ v5 : Option V, ([some (.ref L.g), some (.ref b), some (.ref D1), some (.int V0), some (nat x), some (nat z)] : L2.St) = [some (.ref L.g), some (.ref b), some (.ref D1), some (.int (V0 + pairTerm p l x z)), some (nat x), v5] ∧ Same H2 H' := fun H' s' c => by
            refine ⟨some (nat z), ?_, s'⟩
            unfold pairTerm
            rw [if_neg c, Int.add_zero]
          by_cases c1 : x < z
          case neg =>
            exact iteDF (by omega) (iteF (skip H3 s4 fun q => c1 q.1))
          refine iteDT (by omega) ⟨_, rfl, L.g, L.dx, _, rfl, G4.ins, rfl, _, rfl, _, rfl, b, _, _, _, rfl, rfl, SqL.of PA4.at_, at_nats (inl hx).1, _, rfl, _, rfl, b, _, _, _, rfl, rfl, SqL.of PA4.at_, at_nats (inl hz).1, L, p, l.getD x 0, l.getD z 0, rfl, G4, rfl, _, rfl, ?_⟩
          by_cases c2 : Si65.steps (p.spot (l.getD x 0)) (p.spot (l.getD z 0)) = 1
          case neg =>
            exact iteDF (by intro q; injection q with q; omega) (skip H3 s4 fun q => c2 q.2)
          rw [decide_eq_true (by rw [c2]; rfl)]
          obtain ⟨e, de, e1, e2⟩ := G4.plant_at (inl hx).2
          obtain ⟨f, df, f1, f2⟩ := G4.plant_at (inl hz).2
          refine iteT ⟨_, rfl, _, rfl, L.g, L.dx, _, rfl, G4.ins, rfl, _, rfl, L.g, _, L.dx, _, _, rfl, G4.ins, M.cl_Garden, M.na_Garden_plants, rfl, _, rfl, L.pl, _, _, _, rfl, rfl, SqL.of G4.pls, e1, e, _, de, _, _, rfl, e2, M.cl_Plant, M.na_Plant_kind, rfl,
            _, rfl, L.g, _, L.dx, _, _, rfl, G4.ins, M.cl_Garden, M.na_Garden_plants, rfl, _, rfl, L.pl, _, _, _, rfl, rfl, SqL.of G4.pls, f1, f, _, df, _, _, rfl, f2, M.cl_Plant, M.na_Plant_kind, rfl,
            L, p, _, _, rfl, G4, kind_at G.wf (inl hx).2, kind_at G.wf (inl hz).2, fun H5 s5 => ⟨_, _, rfl, rfl, some (nat z), ?_, s4.trans s5⟩⟩
          unfold pairTerm
          rw [if_pos ⟨c1, c2⟩]
          rfl
        · rintro σ H3 ⟨v5', rfl, s4⟩
          refine ⟨some (nat x), v5', ?_, s4⟩
          rw [List.length_map, List.take_length, sum_step (f := fun i => ((planted p l).map fun j => pairTerm p l i j).sum) hx, ← Int.add_assoc, hW]
      · rintro σ H' ⟨v4, v5, rfl, s3⟩
        refine ⟨_, rfl, ?_⟩
        rw [List.length_map, List.take_length]
        have := q H' ((s1.trans s2).trans s3)
        unfold worthM at this
        rw [hB] at this
        exact this
/-! ### check -/
abbrev iV (l : List Int) : List V := l.map V.int
def spCheck (a : Ad) : Sp := fun vs H Q _ => ∃ (L : Lay) (p : Si69.Plot) (b : Addr) (l : List Nat), vs = [.ref L.g, .ref b] ∧ GA a H L p ∧ H b = some (.lst (nats l)) ∧ l.length ≤ 1000 ∧ NewL H (iV (checkM p l)) Q
theorem ok_check (M : Md K mg a) : FnOk P w K mg base CX0 7 a.f_check a.d_check ["garden", "plan"] (spCheck a) := by
  have G_is_plan := ok_is_plan (P := P) (w := w) (base := base) M
  have G_has_places_of_its_own := ok_has_places (P := P) (w := w) (base := base) M
  have G_first_shaded := ok_first_shaded (P := P) (w := w) (base := base) M
  have G_shortest_way := ok_shortest_way (P := P) (w := w) (base := base) M
  have G_plan_worth := ok_plan_worth (P := P) (w := w) (base := base) M
  refine M.F_check.ok sc_check (fun vs H Q E h => ?_) (fun cdv A outer s H vs Q E hr h => ?_)
  · obtain ⟨_, _, _, _, rfl, _⟩ := h
    rfl
  · obtain ⟨L, p, b, l, rfl, G, hb, hl, q⟩ := h
    have nd := sc_check.nd
    refine ⟨_, (pss_cons (ps_if (pt_not (pt_val (pe_call G_is_plan (hr.mono (by decide)) rfl M.g_is_plan M.k_is_plan M.b_is_plan .nil pass0 (pa_cons (pv 0) (pa_cons (pv 1) pa_nil))))) (pss_one (ps_ret (pe_lst (pa_cons (pe_glob (v := V.int (-1)) rfl M.c_NOT_AS_TOLD.choose_spec ⟨_, rfl⟩) pa_nil)))) pss_nil)
      (pss_cons (ps_if (pt_not (pt_val (pe_call G_has_places_of_its_own (hr.mono (by decide)) rfl M.g_has_places_of_its_own M.k_has_places_of_its_own M.b_has_places_of_its_own .nil pass0 (pa_cons (pv 0) (pa_cons (pv 1) pa_nil))))) (pss_one (ps_ret (pe_lst (pa_cons (pe_glob (v := V.int (-4)) rfl M.c_NO_PLACE_OF_ITS_OWN.choose_spec ⟨_, rfl⟩) pa_nil)))) pss_nil)
      (pss_cons (ps_set (i := 2) nd rfl (Or.inl rfl) (pe_call G_first_shaded (hr.mono (by decide)) rfl M.g_first_shaded M.k_first_shaded M.b_first_shaded .nil pass0 (pa_cons (pv 0) (pa_cons (pv 1) pa_nil))))
      (pss_cons (ps_if (pt_cmpR op_gt (pe_callB call_len_seq (by rfl) M.n_len boo_len (pa_cons (pv 2) pa_nil)) pe_int (nomark _)) (pss_one (ps_ret (pe_op op_cat (pe_lst (pa_cons (pe_glob (v := V.int (-6)) rfl M.c_CANNOT_BE.choose_spec ⟨_, rfl⟩) (pa_cons (pe_glob (v := V.int (1)) rfl M.c_TOO_LITTLE_SUN.choose_spec ⟨_, rfl⟩) pa_nil))) (pv 2)))) pss_nil)
      (pss_cons (ps_set (i := 3) nd rfl (Or.inl rfl) (pe_call G_shortest_way (hr.mono (by decide)) rfl M.g_shortest_way M.k_shortest_way M.b_shortest_way .nil pass0 (pa_cons (pv 0) (pa_cons (pv 1) pa_nil))))
      (pss_cons (ps_if (pt_cmpR op_gt (pv 3) (pe_fld (pv 0) rfl) (nomark _)) (pss_one (ps_ret (pe_lst (pa_cons (pe_glob (v := V.int (-6)) rfl M.c_CANNOT_BE.choose_spec ⟨_, rfl⟩) (pa_cons (pe_glob (v := V.int (2)) rfl M.c_TOO_LONG_A_WAY.choose_spec ⟨_, rfl⟩) (pa_cons (pv 3) pa_nil)))))) pss_nil)
      (pss_one (ps_ret (pe_lst (pa_cons pe_int (pa_cons (pe_call G_plan_worth (hr.mono (by decide)) rfl M.g_plan_worth M.k_plan_worth M.b_plan_worth .nil pass0 (pa_cons (pv 0) (pa_cons (pv 1) pa_nil))) (pa_cons (pv 3) pa_nil)))))))))))), ?_⟩
    refine ⟨_, rfl, _, rfl, L, p, b, l, rfl, G, hb, hl, fun H1 s1 => ⟨_, rfl, ?_⟩⟩
    have fin : ∀ (R : Addr) (H' : Hp) (xs : List Int), Same H H' → H' R = none → checkM p l = xs → Q (.ref R) (upd H' R (.lst (iV xs))) := fun R H' xs s' hR e =>
      q R _ (s'.upd (s'.free hR)) (s'.free hR) (by rw [e]; exact upd_same)
    have e0 : checkM p l = if p.garden.told l = false then [-1] else if p.garden.fits l = false then [-4] else match lackM p l with
      | some i => [-6, 1, (i : Int), (hoursM p (topsM p l) (l.getD i 0) : Int)]
      | none => if p.far < wayM p l (planted p l).length (planted p l) p.tap p.can then [-6, 2, (wayM p l (planted p l).length (planted p l) p.tap p.can : Int)] else [0, worthM p l, (wayM p l (planted p l).length (planted p l) p.tap p.can : Int)] := rfl
    cases c1 : p.garden.told l with
    | false =>
      rw [c1, if_pos rfl] at e0
      exact iteT ⟨len_ok rfl, fun R hR => fin R H1 _ s1 hR e0⟩
    | true =>
      rw [c1, if_neg (by decide)] at e0
      have PA : PlanAt H p b l := ⟨hb, by rw [told_len c1]; exact Nat.le_refl _⟩
      refine iteF ⟨_, rfl, _, rfl, L, p, b, l, rfl, G.same s1, PA.same s1, fun H2 s2 => ⟨_, rfl, ?_⟩⟩
      cases c2 : p.garden.fits l with
      | false =>
        rw [c2, if_pos rfl] at e0
        exact iteT ⟨len_ok rfl, fun R hR => fin R H2 _ (s1.trans s2) hR e0⟩
      | true =>
        rw [c2, if_neg (by decide)] at e0
        have s12 := s1.trans s2
        refine iteF ⟨_, rfl, _, rfl, L, p, b, l, rfl, G.same s12, PA.same s12, fun D H3 s3 n3 h3 => ?_⟩
        have s13 := s12.trans s3
        refine ⟨_, rfl, D, _, rfl, .inl (SqL.of h3), _, _, rfl, rfl, _, rfl, ?_⟩
        cases c3 : lackM p l with
        | some i =>
          have es : shadedM p l = [i, hoursM p (topsM p l) (l.getD i 0)] := by unfold shadedM; rw [c3]
          rw [es] at h3
          rw [c3] at e0
          refine iteDT (by rw [es]; show (0 : Int) < ((2 : Nat) : Int); decide) ⟨len_ok rfl, fun R1 hR1 => ⟨_, rfl, R1, D, _, _, rfl, rfl, upd_same, kept h3 hR1, len_ok rfl, fun R hR => ?_⟩⟩
          exact fin R _ _ (s13.upd (s13.free hR1)) hR e0
        | none =>
          have es : shadedM p l = [] := by unfold shadedM; rw [c3]
          rw [c3] at e0
          refine iteDF (by rw [es]; decide) ⟨_, rfl, _, rfl, L, p, b, l, rfl, G.same s13, PA.same s13, fun H4 s4 => ?_⟩
          have s14 := s13.trans s4
          have G4 := G.same s14
          refine ⟨_, rfl, _, rfl, L.g, _, L.dx, _, _, rfl, G4.ins, M.cl_Garden, M.na_Garden_longest_way, rfl, _, _, rfl, rfl, _, rfl, ?_⟩
          by_cases c4 : p.far < wayM p l (planted p l).length (planted p l) p.tap p.can
          · simp only [if_pos c4] at e0
            refine iteDT (by omega) ⟨_, rfl, len_ok rfl, fun R hR => fin R _ _ s14 hR e0⟩
          · simp only [if_neg c4] at e0
            refine iteDF (by omega) ⟨_, rfl, _, rfl, L, p, b, l, rfl, G4, PA.same s14, fun H5 s5 => ⟨_, rfl, len_ok rfl, fun R hR => fin R _ _ (s14.trans s5) hR e0⟩⟩
end
end Sb

set_option Elab.async false
set_option linter.all false
set_option maxRecDepth 100000
set_option maxHeartbeats 4000000
namespace Sb
open PySem PySem.Spec PyProof.Rows L2
/-- the plans ls lie at refs -/
def LA (H : Hp) (refs : List Addr) (ls : List (List Nat)) : Prop := Paired (fun b pl => H b = some (.lst (nats pl))) refs ls
theorem LA.kept {H H' : Hp} : ∀ {refs : List Addr} {ls : List (List Nat)}, LA H refs ls → (∀ b ∈ refs, ∀ o, H b = some o → H' b = some o) → LA H' refs ls
  | _, _, .nil, _ => .nil
  | _, _, .cons r t, k => .cons (k _ (List.mem_cons_self ..) _ r) (LA.kept t fun b hb => k b (List.mem_cons_of_mem _ hb))
theorem LA.append {H : Hp} : ∀ {refs rs : List Addr} {ls ms : List (List Nat)}, LA H refs ls → LA H rs ms → LA H (refs ++ rs) (ls ++ ms)
  | _, _, _, _, .nil, s => s
  | _, _, _, _, .cons r t, s => .cons r (LA.append t s)
theorem LA.at_ {H : Hp} : ∀ {refs : List Addr} {ls : List (List Nat)} {i : Nat} {b : Addr}, LA H refs ls → refs[i]? = some b → ∃ pl, ls[i]? = some pl ∧ H b = some (.lst (nats pl))
  | _, _, _, _, .nil, e => by simp at e
  | _, _, 0, _, .cons r _, e => by simp at e; subst e; exact ⟨_, rfl, r⟩
  | _, _, i + 1, b, .cons _ t, e => by
    obtain ⟨u, h1, h2⟩ := LA.at_ (i := i) (b := b) t (by simpa using e)
    exact ⟨u, by simpa using h1, h2⟩
theorem LA.len {H : Hp} {refs : List Addr} {ls : List (List Nat)} (h : LA H refs ls) : refs.length = ls.length := Paired.length h
theorem flat_len (n : Nat) : ∀ ls : List (List Nat), (ls.flatMap fun l => (List.range n).map fun t => l ++ [t]).length = ls.length * n
  | [] => by simp
  | l :: ls => by rw [List.flatMap_cons, List.length_append, List.length_map, List.length_range, flat_len n ls, List.length_cons, Nat.add_mul, Nat.one_mul, Nat.add_comm]
theorem pow_small {k i : Nat} (hk : k ≤ 8) (hi : i ≤ 2) : (k + 1) ^ i ≤ 81 := by
  have h1 : (k + 1) ^ i ≤ 9 ^ i := Nat.pow_le_pow_left (by omega) i
  have h2 : 9 ^ i ≤ 9 ^ 2 := Nat.pow_le_pow_right (by omega) hi
  omega
section
variable {P : Program} {w : World} {K : PySem.W.Frag} {mg : Str → Option Value} {base : Heap} {a : Ad}
def spAll (a : Ad) : Sp := fun vs H Q _ => ∃ (L : Lay) (p : Si69.Plot), vs = [.ref L.g] ∧ GA a H L p ∧ ∀ D H' refs, Same H H' → H D = none → H' D = some (.lst (refs.map V.ref)) → LA H' refs (Si64.rows p.places p.garden.plants.length) → Q (.ref D) H'
theorem ok_all_plans (M : Md K mg a) : FnOk P w K mg base CX0 1 a.f_all_plans a.d_all_plans ["garden"] (spAll a) := by
  refine M.F_all_plans.ok sc_all_plans (fun vs H Q E h => ?_) (fun cdv A outer s H vs Q E hr h => ?_)
  · obtain ⟨_, _, rfl, _⟩ := h
    rfl
  · obtain ⟨L, p, rfl, G, q⟩ := h
    have nd := sc_all_plans.nd
    have ep : p.places = p.garden.rows * p.garden.cols := rfl
    have h8 := G.wf.most
    have h3 := G.wf.plants
    refine ⟨_, (pss_cons (ps_set (i := 1) nd rfl (Or.inl rfl) (pe_lst (pa_cons (pe_lst pa_nil) pa_nil)))
      (pss_cons (ps_for PassesOwn.never rfl (pi_range1 rfl M.n_range (pa_cons (pe_callB call_len_seq (by rfl) M.n_len boo_len (pa_cons (pe_fld (pv 0) rfl) pa_nil)) pa_nil)) (pg_name (i := 2) nd rfl (Or.inl rfl)) (pss_cons (ps_set (i := 3) nd rfl (Or.inl rfl) (pe_lst pa_nil))
      (pss_cons (ps_for PassesOwn.never rfl (pi_list (pv 1)) (pg_name (i := 4) nd rfl (Or.inr rfl)) (pss_one (ps_expr (pe_bm PySem.F.plainAttrs_list PySem.F.slot_list_extend PySem.F.type_list_extend mt_extend (pv 3) (pa_cons (pe_lc (own := [("place", 5)]) rfl nd (pi_range1 rfl M.n_range (pa_cons (pe_op op_add (pe_fld (pv 0) rfl) pe_int) pa_nil)) (blkOk_by (N := ["garden", "plans", "known", "longer", "plan", "place"]) (sc := defScope s_all_plans) (by decide +kernel)) (fun _ _ _ _ _ => (pg_name (i := 5) nd rfl (Or.inl rfl))) (fun _ _ _ _ _ => pts_nil) (fun _ _ _ _ _ => (pe_op op_cat (pv 4) (pe_lst (pa_cons (pv 5) pa_nil))))) pa_nil)))))
      (pss_one (ps_set (i := 1) nd rfl (Or.inl rfl) (pv 3))))))
      (pss_one (ps_ret (pv 1))))), ?_⟩
    refine ⟨len_ok rfl, fun E0 hE0 => ⟨len_ok rfl, fun D0 hD0 => ?_⟩⟩
    have s0 : Same H (upd H E0 (.lst [])) := Same.new hE0
    have s1 : Same H (upd (upd H E0 (.lst [])) D0 (.lst [.ref E0])) := s0.upd (s0.free hD0)
    have G1 := G.same s1
    refine ⟨_, rfl, L.g, _, L.dx, _, _, rfl, G1.ins, M.cl_Garden, M.na_Garden_plants, rfl, L.pl, _, rfl, .inl (SqL.of G1.pls), _, rfl, by rw [List.length_map, G.plen]; omega, by rw [List.length_map, G.plen]; omega, for_range (n := (L.ps.map V.ref).length)
      (fun i σ H' => ∃ (D : Addr) (refs : List Addr) (v2 v3 v4 : Option V), σ = [some (.ref L.g), some (.ref D), v2, v3, v4, none] ∧ Same H H' ∧ H D = none ∧ H' D = some (.lst (refs.map V.ref)) ∧ LA H' refs (Si64.rows p.places i)) ?_ ?_ ?_⟩
    · refine ⟨D0, [E0], none, none, none, rfl, s1, s0.free hD0, upd_same, .cons ?_ .nil⟩
      exact L2.upd_ne (ne_of_none upd_same hD0) |>.trans upd_same
    · rintro i σ H' hi ⟨D, refs, v2, v3, v4, rfl, s2, nD, h2, la⟩
      rw [List.length_map, G.plen] at hi
      refine ⟨len_ok rfl, fun Lg hLg => ?_⟩
      have s3 : Same H' (upd H' Lg (.lst [])) := Same.new hLg
      have hrl : refs.length ≤ 81 := by
        rw [la.len, rows_len]
        exact pow_small h8 (by omega)
      refine ⟨_, rfl, D, rfl, ⟨_, SqL.of (s3 _ _ h2)⟩, for_list (K := K) (a := D) (xs := refs.map V.ref)
        (fun j σ H'' => ∃ (refs2 : List Addr) (v2 v4 : Option V), σ = [some (.ref L.g), some (.ref D), v2, some (.ref Lg), v4, none] ∧ Same H' H'' ∧ H'' Lg = some (.lst (refs2.map V.ref)) ∧ LA H'' refs2 (((Si64.rows p.places i).take j).flatMap fun l => (List.range (p.places + 1)).map fun t => l ++ [t]) ∧ Lg ∉ refs2)
        ⟨[], _, _, rfl, s3, upd_same, .nil, by simp⟩ (fun j σ H'' _ ⟨_, _, _, _, z, _⟩ => SqL.of (z _ _ h2)) ?_ ?_⟩
      · rintro j y σ H2 hj ⟨refs2, w2, w4, rfl, s4, h4, la4, nm⟩
        obtain ⟨pb, hpb, rfl⟩ := at_of_map hj
        obtain ⟨pl, hpl, hpa⟩ := la.at_ hpb
        have hjl : j < refs.length := (List.getElem?_eq_some_iff.mp hpb).1
        have G2 := G.same (s2.trans s4)
        have hpl3 : pl.length ≤ 3 := by
          have := (rows_mem (List.mem_of_getElem? hpl)).1
          omega
        have hr2 : refs2.length ≤ 81 * 9 := by
          rw [la4.len, flat_len]
          refine Nat.mul_le_mul ?_ (by omega)
          have z2 := List.length_take_le' j (Si64.rows p.places i)
          have := la.len
          omega
        refine ⟨_, rfl, .inl ⟨rfl, _, SqL.of h4⟩, _, rfl, L.g, _, L.dx, _, _, rfl, G2.ins, M.cl_Garden, M.na_Garden_places, rfl, _, _, rfl, rfl, _, rfl, by omega, by omega, fun R hR => lc_range (n := p.places + 1)
          (fun t H3 => ∃ rs : List Addr, Same H2 H3 ∧ H3 R = some (.lst (rs.map V.ref)) ∧ LA H3 rs ((List.range t).map fun t => pl ++ [t]) ∧ ∀ b ∈ rs, H2 b = none ∧ b ≠ R) ⟨[], Same.new hR, upd_same, .nil, by simp⟩ (fun t H3 ht hP => ?_) (fun H3 hP => ?_)⟩
        · obtain ⟨rs, s5, h5, la5, fr⟩ := hP
          have hrs : rs.length ≤ 9 := by
            rw [la5.len, List.length_map, List.length_range]
            omega
          rw [Int.zero_add]
          refine ⟨rfl, in_yes ⟨_, rfl, _, rfl, len_ok rfl, fun E1 hE1 => ?_⟩⟩
          have s6 : Same H3 (upd H3 E1 (.lst [nat t])) := Same.new hE1
          refine ⟨pb, E1, _, _, rfl, rfl, s6 _ _ (s5 _ _ (s4 _ _ hpa)), upd_same, by rw [List.length_map]; exact Nat.le_of_lt (small_line (by show pl.length + 1 ≤ _; omega)), fun E2 hE2 => ?_⟩
          have s7 : Same H3 (upd (upd H3 E1 (.lst [nat t])) E2 (.lst (nats pl ++ [nat t]))) := s6.upd (s6.free hE2)
          have nE2 : H3 E2 = none := s6.free hE2
          have e2R : E2 ≠ R := (ne_of_none h5 nE2).symm
          refine ⟨_, s7 _ _ h5, small_line (by rw [List.length_map]; omega), rs ++ [E2], (s5.trans s7).upd hR, ?_, ?_, ?_⟩
          · rw [upd_same, List.map_append]
            rfl
          · rw [List.range_succ, List.map_append]
            refine LA.append (la5.kept fun b hb o e => ?_) (.cons ?_ .nil)
            · rw [upd_ne (fr b hb).2]
              exact s7 b o e
            · rw [upd_ne e2R, upd_same, nats_append]
              rfl
          · intro b hb
            rcases List.mem_append.mp hb with z | z
            · exact fr b z
            · rw [List.mem_singleton.mp z]
              exact ⟨s5.free nE2, e2R⟩
        · obtain ⟨rs, s5, h5, la5, fr⟩ := hP
          have hrs : rs.length ≤ 9 := by
            rw [la5.len, List.length_map, List.length_range]
            omega
          have h4' := s5 _ _ h4
          refine ⟨Lg, R, _, _, rfl, rfl, h4', h5, by rw [List.length_map, List.length_map]; exact Nat.le_of_lt (small_line (by omega)), refs2 ++ rs, _, _, rfl, (s4.trans s5).upd hLg, ?_, ?_, ?_⟩
          · rw [upd_same, List.map_append]
          · rw [take_snoc hpl, List.flatMap_append, List.flatMap_cons, List.flatMap_nil, List.append_nil]
            refine LA.append (la4.kept fun b hb o e => ?_) (la5.kept fun b hb o e => ?_)
            · rw [upd_ne (fun z => nm (by rw [← z]; exact hb))]
              exact s5 b o e
            · rw [upd_ne (fun z => by have := (fr b hb).1; rw [z, h4] at this; cases this)]
              exact e
          · intro z
            rcases List.mem_append.mp z with z | z
            · exact nm z
            · have := (fr Lg z).1
              rw [h4] at this
              cases this
      · rintro σ H2 ⟨refs2, w2, w4, rfl, s4, h4, la4, nm⟩
        rw [List.length_map, la.len, List.take_length, ← rows_snoc] at la4
        exact ⟨_, rfl, Lg, refs2, _, _, _, rfl, s2.trans s4, s2.free hLg, h4, la4⟩
    · rintro σ H' ⟨D, refs, v2, v3, v4, rfl, s2, nD, h2, la⟩
      rw [List.length_map, G.plen] at la
      exact ⟨_, rfl, q D H' refs s2 nD h2 la⟩
def spBest (a : Ad) : Sp := fun vs H Q _ => ∃ (L : Lay) (p : Si69.Plot), vs = [.ref L.g] ∧ GA a H L p ∧ NewL H (iV (0 :: (bestM p).1 :: ((bestM p).2.1 : Int) :: Si69.ints (bestM p).2.2)) Q
theorem best_skip {p : Si69.Plot} {S : BS} {l : List Nat} (h : p.right l = false ∨ p.worth l < S.1) : bestStep p S l = S := if_pos h
theorem bestM_len {p : Si69.Plot} {n : Nat} : ∀ (ls : List (List Nat)) (S : BS), (∀ l ∈ ls, l.length ≤ n) → S.2.2.length ≤ n → (ls.foldl (bestStep p) S).2.2.length ≤ n
  | [], S, _, h => h
  | l :: ls, S, hl, h => by
    refine bestM_len ls _ (fun m hm => hl m (List.mem_cons_of_mem _ hm)) ?_
    have := hl l (List.mem_cons_self ..)
    unfold bestStep
    split
    · exact h
    · split
      · exact this
      · show (if S.2.1 = 0 then l else S.2.2).length ≤ n
        split
        · exact this
        · exact h
theorem ok_best (M : Md K mg a) : FnOk P w K mg base CX0 8 a.f_best a.d_best ["garden"] (spBest a) := by
  have G_all_plans := ok_all_plans (P := P) (w := w) (base := base) M
  have G_check := ok_check (P := P) (w := w) (base := base) M
  refine M.F_best.ok sc_best (fun vs H Q E h => ?_) (fun cdv A outer s H vs Q E hr h => ?_)
  · obtain ⟨_, _, rfl, _⟩ := h
    rfl
  · obtain ⟨L, p, rfl, G, q⟩ := h
    have nd := sc_best.nd
    have h3 := G.wf.plants
    refine ⟨_, (pss_cons (ps_set (i := 1) nd rfl (Or.inl rfl) pe_int)
      (pss_cons (ps_set (i := 2) nd rfl (Or.inl rfl) pe_int)
      (pss_cons (ps_set (i := 3) nd rfl (Or.inl rfl) (pe_lst pa_nil))
      (pss_cons (ps_for PassesOwn.never rfl (pi_list (pe_call G_all_plans (hr.mono (by decide)) rfl M.g_all_plans M.k_all_plans M.b_all_plans .nil pass0 (pa_cons (pv 0) pa_nil))) (pg_name (i := 4) nd rfl (Or.inl rfl)) (pss_cons (ps_set (i := 5) nd rfl (Or.inl rfl) (pe_call G_check (hr.mono (by decide)) rfl M.g_check M.k_check M.b_check .nil pass0 (pa_cons (pv 0) (pa_cons (pv 4) pa_nil))))
      (pss_cons (ps_if (PW.pt (pw_or (pt_cmpR op_ne (pe_ix ix_list (pv 5) pe_int (fun _ _ => rfl)) pe_int (nomark _)) (pw_or1 (pt_cmpR op_lt (pe_ix ix_list (pv 5) pe_int (fun _ _ => rfl)) (pv 1) (nomark _))))) (pss_one ps_continue) pss_nil)
      (pss_cons (ps_if (pt_cmpR op_gt (pe_ix ix_list (pv 5) pe_int (fun _ _ => rfl)) (pv 1) (nomark _)) (pss_cons (ps_set (i := 1) nd rfl (Or.inl rfl) (pe_ix ix_list (pv 5) pe_int (fun _ _ => rfl)))
      (pss_one (ps_set (i := 2) nd rfl (Or.inl rfl) pe_int))) pss_nil)
      (pss_cons (ps_if (pt_cmpR op_eq (pv 2) pe_int (nomark _)) (pss_one (ps_set (i := 3) nd rfl (Or.inl rfl) (pv 4))) pss_nil)
      (pss_one (ps_aug (i := 2) nd rfl (Or.inl rfl) pe_int ip_add)))))))
      (pss_one (ps_ret (pe_op op_cat (pe_lst (pa_cons pe_int (pa_cons (pv 1) (pa_cons (pv 2) pa_nil)))) (pv 3)))))))), ?_⟩
    refine ⟨len_ok rfl, fun E0 hE0 => ?_⟩
    have s0 : Same H (upd H E0 (.lst [])) := Same.new hE0
    refine ⟨_, rfl, L, p, rfl, G.same s0, fun D H2 refs s2 n2 h2 la => ⟨D, rfl, ⟨_, SqL.of h2⟩, for_list (K := K) (a := D) (xs := refs.map V.ref)
      (fun i σ H' => ∃ (eb : Addr) (v4 v5 : Option V), σ = [some (.ref L.g), some (.int (((Si64.rows p.places p.garden.plants.length).take i).foldl (bestStep p) (0, 0, [])).1), some (nat (((Si64.rows p.places p.garden.plants.length).take i).foldl (bestStep p) (0, 0, [])).2.1), some (.ref eb), v4, v5] ∧ Same H2 H' ∧ H' eb = some (.lst (nats (((Si64.rows p.places p.garden.plants.length).take i).foldl (bestStep p) (0, 0, [])).2.2)))
      ⟨E0, none, none, rfl, Same.refl _, s2 _ _ upd_same⟩ (fun i σ H' _ ⟨_, _, _, _, z, _⟩ => SqL.of (z _ _ h2)) ?_ ?_⟩⟩
    · rintro i y σ H' hi ⟨eb, v4, v5, rfl, s3, he⟩
      obtain ⟨b, hb, rfl⟩ := at_of_map hi
      obtain ⟨l, hl, hbl⟩ := la.at_ hb
      have hlm := List.mem_of_getElem? hl
      have ht := rows_told hlm
      have hll := (rows_mem hlm).1
      have sA := (s0.trans s2).trans s3
      generalize hS : ((Si64.rows p.places p.garden.plants.length).take i).foldl (bestStep p) (0, 0, []) = S at he ⊢
      have eS : ((Si64.rows p.places p.garden.plants.length).take (i + 1)).foldl (bestStep p) (0, 0, []) = bestStep p S l := by
        rw [take_snoc hl, List.foldl_append, hS]
        rfl
      refine ⟨_, rfl, _, rfl, L, p, b, l, rfl, G.same sA, s3 _ _ hbl, by omega, fun C H3 s4 n4 h4 => ?_⟩
      have s34 := s3.trans s4
      have he' := s4 _ _ he
      have put : ∀ (S' : BS) (eb' : Addr) (v4 v5 : Option V), bestStep p S l = S' → H3 eb' = some (.lst (nats S'.2.2)) → ∃ (eb : Addr) (v4' v5' : Option V), ([some (.ref L.g), some (.int S'.1), some (nat S'.2.1), some (.ref eb'), v4, v5] : L2.St) = [some (.ref L.g), some (.int (((Si64.rows p.places p.garden.plants.length).take (i + 1)).foldl (bestStep p) (0, 0, [])).1), some (nat (((Si64.rows p.places p.garden.plants.length).take (i + 1)).foldl (bestStep p) (0, 0, [])).2.1), some (.ref eb), v4', v5'] ∧ Same H2 H3 ∧ H3 eb = some (.lst (nats (((Si64.rows p.places p.garden.plants.length).take (i + 1)).foldl (bestStep p) (0, 0, [])).2.2)) := fun S' eb' v4 v5 e h => by
        rw [eS, e]
        exact ⟨eb', _, _, rfl, s34, h⟩
      rcases check_right G.wf ht with ⟨hrt, w', ec⟩ | ⟨hrt, z, r, ec, hz⟩
      · rw [ec] at h4
        refine ⟨_, rfl, C, _, _, _, rfl, rfl, SqL.of h4, rfl, rfl, _, rfl, ?_⟩
        refine iteNF rfl ⟨_, rfl, C, _, _, _, rfl, rfl, SqL.of h4, rfl, _, rfl, _, _, rfl, rfl, _, rfl, ?_⟩
        by_cases c1 : p.worth l < S.1
        · exact iteDT c1 (put S eb _ _ (best_skip (.inr c1)) he')
        rw [decide_eq_false c1]
        have nb : ¬ (p.right l = false ∨ p.worth l < S.1) := fun z => z.elim (fun z => by rw [hrt] at z; cases z) c1
        refine iteF ⟨_, rfl, C, _, _, _, rfl, rfl, SqL.of h4, rfl, _, rfl, _, _, rfl, rfl, _, rfl, ?_⟩
        by_cases c2 : S.1 < p.worth l
        · refine iteDT c2 ⟨_, rfl, C, _, _, _, rfl, rfl, SqL.of h4, rfl, ?_⟩
          refine ⟨_, rfl, rfl, _, rfl, ?_⟩
          refine iteDT rfl ⟨_, rfl, _, rfl, _, _, rfl, rfl, ?_⟩
          exact put (p.worth l, 1, l) b _ _ (by unfold bestStep; rw [if_neg nb, if_pos c2]) (s4 _ _ (s3 _ _ hbl))
        refine iteDF c2 ⟨_, rfl, rfl, _, rfl, ?_⟩
        by_cases c3 : S.2.1 = 0
        · refine iteDT (by rw [c3]; rfl) ⟨_, rfl, _, rfl, _, _, rfl, rfl, ?_⟩
          exact put (S.1, S.2.1 + 1, l) b _ _ (by unfold bestStep; rw [if_neg nb, if_neg c2, if_pos c3]) (s4 _ _ (s3 _ _ hbl))
        · refine iteDF (by intro z; injection z with z; omega) ⟨_, rfl, _, _, rfl, rfl, ?_⟩
          exact put (S.1, S.2.1 + 1, S.2.2) eb _ _ (by unfold bestStep; rw [if_neg nb, if_neg c2, if_neg c3]) he'
      · rw [ec] at h4
        refine ⟨_, rfl, C, _, _, _, rfl, rfl, SqL.of h4, (show atI (iV (z :: r)) ((0 : Nat) : Int) = some (V.int z) from atI_nat rfl), rfl, _, rfl, ?_⟩
        exact iteNT (by intro e; injection e with e; exact hz e) (iteT (put S eb _ _ (best_skip (.inl hrt)) he'))
    · rintro σ H' ⟨eb, v4, v5, rfl, s3, he⟩
      have eT : (Si64.rows p.places p.garden.plants.length).take (refs.map V.ref).length = Si64.rows p.places p.garden.plants.length := by rw [List.length_map, la.len, List.take_length]
      rw [eT] at he ⊢
      have sA := (s0.trans s2).trans s3
      have hbl : (bestM p).2.2.length ≤ 3 := bestM_len _ _ (fun l hl => by rw [(rows_mem hl).1]; exact h3) (Nat.zero_le _)
      refine ⟨_, rfl, _, rfl, len_ok rfl, fun R1 hR1 => ⟨_, rfl, R1, eb, _, _, rfl, rfl, upd_same, kept he hR1, ?_, fun R hR => ?_⟩⟩
      · rw [List.length_map]
        exact Nat.le_of_lt (small_line (by show 3 + (bestM p).2.2.length ≤ _; omega))
      · have sB := sA.upd (o := .lst [V.int 0, V.int (bestM p).1, nat (bestM p).2.1]) (sA.free hR1)
        refine q R _ (sB.upd (sB.free hR)) (sB.free hR) ?_
        rw [upd_same, iV, List.map_cons, List.map_cons, List.map_cons, Si69.ints, List.map_map]
        rfl
end
end Sb

set_option Elab.async false
set_option linter.all false
set_option maxRecDepth 100000
set_option maxHeartbeats 4000000
namespace Sb
open PySem PySem.Spec PyProof.Rows L2
section
variable {P : Program} {w : World} {K : PySem.W.Frag} {mg : Str → Option Value} {base : Heap} {a : Ad}
def AfterL (a : Ad) (H : Hp) (L : Lay) (p' : Si69.Plot) (xs : List V) (Q : VK) : Prop := ∀ D H' L', GA a H' L' p' → L'.g = L.g → L'.n ≤ L.n + 1 → (∀ b o, H b = some o → ¬ Own L b → H' b = some o ∧ b ≠ D) → (∀ b, Own L' b → Own L b ∨ H b = none) → H' D = some (.lst xs) → Q (.ref D) H'
def told1 (p : Si69.Plot) (q : Si69.Call) : List Int := (Si69.step p q).2.v :: (Si69.step p q).2.l
/-- a call that changes: its one number goes into a new list -/
theorem AfterL.one {H : Hp} {L : Lay} {p : Si69.Plot} {q : Si69.Call} {Q : VK} (h : AfterL a H L (Si69.step p q).1 (iV (told1 p q)) Q) (h1 : ∀ l, q ≠ .check l) (h2 : q ≠ .best) :
    Done a H L p q (fun v H' => ([v] : List V).length ≤ sizeLine ∧ ∀ D, H' D = none → Q (.ref D) (upd H' D (.lst [v]))) := by
  intro H' L' G' e1 e2 kp fr
  refine ⟨len_ok rfl, fun D hD => ?_⟩
  refine h D _ L' (G'.same (Same.new hD)) e1 e2 (fun b o e ne => ?_) fr ?_
  · have := kp b o e ne
    exact ⟨kept this hD, ne_of_none this hD⟩
  · rw [upd_same, told1, one_told p q h1 h2]
    rfl
theorem AfterL.new {H : Hp} {L : Lay} {p : Si69.Plot} {xs : List V} {Q : VK} (G : GA a H L p) (h : AfterL a H L p xs Q) : NewL H xs Q := fun D H' s n e =>
  h D H' L (G.same s) rfl (Nat.le_succ _) (fun b o eb _ => ⟨s b o eb, ne_of_none eb n⟩) (fun b hb => .inl hb) e
def spCall (a : Ad) : Sp := fun vs H Q _ => ∃ (L : Lay) (p : Si69.Plot) (b : Addr) (o : Nat) (ns : List Nat) (q : Si69.Call), vs = [.ref L.g, nat o, .ref b] ∧ GA a H L p ∧ H b = some (.lst (nats ns)) ∧ Shape o ns q ∧ (∀ n ∈ ns, n < 2 ^ 32) ∧ L.n < 10000 ∧ AfterL a H L (Si69.step p q).1 (iV (told1 p q)) Q
theorem ok_answer_call (M : Md K mg a) : FnOk P w K mg base CX0 9 a.f_answer_call a.d_answer_call ["garden", "call", "numbers"] (spCall a) := by
  have G_Garden_begins := ok_begins (P := P) (w := w) (base := base) M
  have G_Garden_level := ok_level (P := P) (w := w) (base := base) M
  have G_Garden_stands := ok_stands (P := P) (w := w) (base := base) M
  have G_Garden_hour := ok_hour (P := P) (w := w) (base := base) M
  have G_Garden_plant := ok_plant (P := P) (w := w) (base := base) M
  have G_Garden_like := ok_like (P := P) (w := w) (base := base) M
  have G_Garden_dislike := ok_dislike (P := P) (w := w) (base := base) M
  have G_Garden_tap := ok_tap (P := P) (w := w) (base := base) M
  have G_check := ok_check (P := P) (w := w) (base := base) M
  have G_best := ok_best (P := P) (w := w) (base := base) M
  refine M.F_answer_call.ok sc_answer_call (fun vs H Q E h => ?_) (fun cdv A outer s H vs Q E hr h => ?_)
  · obtain ⟨_, _, _, _, _, _, rfl, _⟩ := h
    rfl
  · obtain ⟨L, p, b, o, ns, q, rfl, G, hb, sh, hlt, hn, k⟩ := h
    refine ⟨_, (pss_cons (ps_if (pt_cmpR op_eq (pv 1) (pe_glob (v := V.int (0)) rfl M.c_BEGINS.choose_spec ⟨_, rfl⟩) (nomark _)) (pss_one (ps_ret (pe_lst (pa_cons (pe_meth (pv 0) M.cl_Garden M.m_Garden_begins G_Garden_begins (hr.mono (by decide)) M.b_Garden_begins .nil pass0 (pa_cons (pe_ix ix_list (pv 2) pe_int (fun _ _ => rfl)) (pa_cons (pe_ix ix_list (pv 2) pe_int (fun _ _ => rfl)) (pa_cons (pe_ix ix_list (pv 2) pe_int (fun _ _ => rfl)) (pa_cons (pe_ix ix_list (pv 2) pe_int (fun _ _ => rfl)) pa_nil))))) pa_nil)))) pss_nil)
      (pss_cons (ps_if (pt_cmpR op_eq (pv 1) (pe_glob (v := V.int (1)) rfl M.c_LEVEL.choose_spec ⟨_, rfl⟩) (nomark _)) (pss_one (ps_ret (pe_lst (pa_cons (pe_meth (pv 0) M.cl_Garden M.m_Garden_level G_Garden_level (hr.mono (by decide)) M.b_Garden_level .nil pass0 (pa_cons (pe_ix ix_list (pv 2) pe_int (fun _ _ => rfl)) (pa_cons (pe_ix ix_list (pv 2) pe_int (fun _ _ => rfl)) pa_nil))) pa_nil)))) pss_nil)
      (pss_cons (ps_if (pt_cmpR op_eq (pv 1) (pe_glob (v := V.int (2)) rfl M.c_STANDS.choose_spec ⟨_, rfl⟩) (nomark _)) (pss_one (ps_ret (pe_lst (pa_cons (pe_meth (pv 0) M.cl_Garden M.m_Garden_stands G_Garden_stands (hr.mono (by decide)) M.b_Garden_stands .nil pass0 (pa_cons (pe_ix ix_list (pv 2) pe_int (fun _ _ => rfl)) (pa_cons (pe_ix ix_list (pv 2) pe_int (fun _ _ => rfl)) pa_nil))) pa_nil)))) pss_nil)
      (pss_cons (ps_if (pt_cmpR op_eq (pv 1) (pe_glob (v := V.int (3)) rfl M.c_HOUR.choose_spec ⟨_, rfl⟩) (nomark _)) (pss_one (ps_ret (pe_lst (pa_cons (pe_meth (pv 0) M.cl_Garden M.m_Garden_hour G_Garden_hour (hr.mono (by decide)) M.b_Garden_hour .nil pass0 (pa_cons (pe_ix ix_list (pv 2) pe_int (fun _ _ => rfl)) (pa_cons (pe_ix ix_list (pv 2) pe_int (fun _ _ => rfl)) pa_nil))) pa_nil)))) pss_nil)
      (pss_cons (ps_if (pt_cmpR op_eq (pv 1) (pe_glob (v := V.int (4)) rfl M.c_PLANT.choose_spec ⟨_, rfl⟩) (nomark _)) (pss_one (ps_ret (pe_lst (pa_cons (pe_meth (pv 0) M.cl_Garden M.m_Garden_plant G_Garden_plant (hr.mono (by decide)) M.b_Garden_plant .nil pass0 (pa_cons (pe_ix ix_list (pv 2) pe_int (fun _ _ => rfl)) (pa_cons (pe_ix ix_list (pv 2) pe_int (fun _ _ => rfl)) (pa_cons (pe_ix ix_list (pv 2) pe_int (fun _ _ => rfl)) (pa_cons (pe_ix ix_list (pv 2) pe_int (fun _ _ => rfl)) (pa_cons (pe_ix ix_list (pv 2) pe_int (fun _ _ => rfl)) pa_nil)))))) pa_nil)))) pss_nil)
      (pss_cons (ps_if (pt_cmpR op_eq (pv 1) (pe_glob (v := V.int (5)) rfl M.c_LIKE.choose_spec ⟨_, rfl⟩) (nomark _)) (pss_one (ps_ret (pe_lst (pa_cons (pe_meth (pv 0) M.cl_Garden M.m_Garden_like G_Garden_like (hr.mono (by decide)) M.b_Garden_like .nil pass0 (pa_cons (pe_ix ix_list (pv 2) pe_int (fun _ _ => rfl)) (pa_cons (pe_ix ix_list (pv 2) pe_int (fun _ _ => rfl)) (pa_cons (pe_ix ix_list (pv 2) pe_int (fun _ _ => rfl)) pa_nil)))) pa_nil)))) pss_nil)
      (pss_cons (ps_if (pt_cmpR op_eq (pv 1) (pe_glob (v := V.int (6)) rfl M.c_DISLIKE.choose_spec ⟨_, rfl⟩) (nomark _)) (pss_one (ps_ret (pe_lst (pa_cons (pe_meth (pv 0) M.cl_Garden M.m_Garden_dislike G_Garden_dislike (hr.mono (by decide)) M.b_Garden_dislike .nil pass0 (pa_cons (pe_ix ix_list (pv 2) pe_int (fun _ _ => rfl)) (pa_cons (pe_ix ix_list (pv 2) pe_int (fun _ _ => rfl)) (pa_cons (pe_ix ix_list (pv 2) pe_int (fun _ _ => rfl)) pa_nil)))) pa_nil)))) pss_nil)
      (pss_cons (ps_if (pt_cmpR op_eq (pv 1) (pe_glob (v := V.int (7)) rfl M.c_TAP.choose_spec ⟨_, rfl⟩) (nomark _)) (pss_one (ps_ret (pe_lst (pa_cons (pe_meth (pv 0) M.cl_Garden M.m_Garden_tap G_Garden_tap (hr.mono (by decide)) M.b_Garden_tap .nil pass0 (pa_cons (pe_ix ix_list (pv 2) pe_int (fun _ _ => rfl)) pa_nil)) pa_nil)))) pss_nil)
      (pss_cons (ps_if (pt_cmpR op_eq (pv 1) (pe_glob (v := V.int (8)) rfl M.c_CHECK.choose_spec ⟨_, rfl⟩) (nomark _)) (pss_one (ps_ret (pe_call G_check (hr.mono (by decide)) rfl M.g_check M.k_check M.b_check .nil pass0 (pa_cons (pv 0) (pa_cons (pv 2) pa_nil))))) pss_nil)
      (pss_cons (ps_if (pt_cmpR op_eq (pv 1) (pe_glob (v := V.int (9)) rfl M.c_BEST.choose_spec ⟨_, rfl⟩) (nomark _)) (pss_one (ps_ret (pe_call G_best (hr.mono (by decide)) rfl M.g_best M.k_best M.b_best .nil pass0 (pa_cons (pv 0) pa_nil)))) pss_nil)
      (pss_one ps_never))))))))))), ?_⟩
    refine ⟨_, rfl, rfl, _, rfl, ?_⟩
    cases sh with
    | begins r c n f =>
      refine iteDT (by decide) ⟨_, rfl, L.g, L.dx, _, rfl, G.ins, rfl, _, rfl, b, _, _, _, rfl, rfl, SqL.of hb, rfl, _, rfl, b, _, _, _, rfl, rfl, SqL.of hb, rfl, _, rfl, b, _, _, _, rfl, rfl, SqL.of hb, rfl, _, rfl, b, _, _, _, rfl, rfl, SqL.of hb, rfl, L, p, r, c, n, f, rfl, G, hlt r (by simp), ?_⟩
      exact k.one (by intro l z; cases z) (by intro z; cases z)
    | level x n =>
      refine iteDF (by decide) ⟨_, rfl, rfl, _, rfl, ?_⟩
      refine iteDT (by decide) ⟨_, rfl, L.g, L.dx, _, rfl, G.ins, rfl, _, rfl, b, _, _, _, rfl, rfl, SqL.of hb, rfl, _, rfl, b, _, _, _, rfl, rfl, SqL.of hb, rfl, L, p, x, n, rfl, G, ?_⟩
      exact k.one (by intro l z; cases z) (by intro z; cases z)
    | stands x n =>
      refine iteDF (by decide) ⟨_, rfl, rfl, _, rfl, ?_⟩
      refine iteDF (by decide) ⟨_, rfl, rfl, _, rfl, ?_⟩
      refine iteDT (by decide) ⟨_, rfl, L.g, L.dx, _, rfl, G.ins, rfl, _, rfl, b, _, _, _, rfl, rfl, SqL.of hb, rfl, _, rfl, b, _, _, _, rfl, rfl, SqL.of hb, rfl, L, p, x, n, rfl, G, ?_⟩
      exact k.one (by intro l z; cases z) (by intro z; cases z)
    | hour x n =>
      refine iteDF (by decide) ⟨_, rfl, rfl, _, rfl, ?_⟩
      refine iteDF (by decide) ⟨_, rfl, rfl, _, rfl, ?_⟩
      refine iteDF (by decide) ⟨_, rfl, rfl, _, rfl, ?_⟩
      refine iteDT (by decide) ⟨_, rfl, L.g, L.dx, _, rfl, G.ins, rfl, _, rfl, b, _, _, _, rfl, rfl, SqL.of hb, rfl, _, rfl, b, _, _, _, rfl, rfl, SqL.of hb, rfl, L, p, x, n, rfl, G, ?_⟩
      exact k.one (by intro l z; cases z) (by intro z; cases z)
    | plant h n wo kk u =>
      refine iteDF (by decide) ⟨_, rfl, rfl, _, rfl, ?_⟩
      refine iteDF (by decide) ⟨_, rfl, rfl, _, rfl, ?_⟩
      refine iteDF (by decide) ⟨_, rfl, rfl, _, rfl, ?_⟩
      refine iteDF (by decide) ⟨_, rfl, rfl, _, rfl, ?_⟩
      refine iteDT (by decide) ⟨_, rfl, L.g, L.dx, _, rfl, G.ins, rfl, _, rfl, b, _, _, _, rfl, rfl, SqL.of hb, rfl, _, rfl, b, _, _, _, rfl, rfl, SqL.of hb, rfl, _, rfl, b, _, _, _, rfl, rfl, SqL.of hb, rfl, _, rfl, b, _, _, _, rfl, rfl, SqL.of hb, rfl, _, rfl, b, _, _, _, rfl, rfl, SqL.of hb, rfl, L, p, h, n, wo, kk, u, rfl, G, ?_⟩
      exact k.one (by intro l z; cases z) (by intro z; cases z)
    | like x y v =>
      refine iteDF (by decide) ⟨_, rfl, rfl, _, rfl, ?_⟩
      refine iteDF (by decide) ⟨_, rfl, rfl, _, rfl, ?_⟩
      refine iteDF (by decide) ⟨_, rfl, rfl, _, rfl, ?_⟩
      refine iteDF (by decide) ⟨_, rfl, rfl, _, rfl, ?_⟩
      refine iteDF (by decide) ⟨_, rfl, rfl, _, rfl, ?_⟩
      refine iteDT (by decide) ⟨_, rfl, L.g, L.dx, _, rfl, G.ins, rfl, _, rfl, b, _, _, _, rfl, rfl, SqL.of hb, rfl, _, rfl, b, _, _, _, rfl, rfl, SqL.of hb, rfl, _, rfl, b, _, _, _, rfl, rfl, SqL.of hb, rfl, L, p, x, y, v, rfl, G, hn, ?_⟩
      exact k.one (by intro l z; cases z) (by intro z; cases z)
    | dislike x y v =>
      refine iteDF (by decide) ⟨_, rfl, rfl, _, rfl, ?_⟩
      refine iteDF (by decide) ⟨_, rfl, rfl, _, rfl, ?_⟩
      refine iteDF (by decide) ⟨_, rfl, rfl, _, rfl, ?_⟩
      refine iteDF (by decide) ⟨_, rfl, rfl, _, rfl, ?_⟩
      refine iteDF (by decide) ⟨_, rfl, rfl, _, rfl, ?_⟩
      refine iteDF (by decide) ⟨_, rfl, rfl, _, rfl, ?_⟩
      refine iteDT (by decide) ⟨_, rfl, L.g, L.dx, _, rfl, G.ins, rfl, _, rfl, b, _, _, _, rfl, rfl, SqL.of hb, rfl, _, rfl, b, _, _, _, rfl, rfl, SqL.of hb, rfl, _, rfl, b, _, _, _, rfl, rfl, SqL.of hb, rfl, L, p, x, y, v, rfl, G, hn, ?_⟩
      exact k.one (by intro l z; cases z) (by intro z; cases z)
    | tap x =>
      refine iteDF (by decide) ⟨_, rfl, rfl, _, rfl, ?_⟩
      refine iteDF (by decide) ⟨_, rfl, rfl, _, rfl, ?_⟩
      refine iteDF (by decide) ⟨_, rfl, rfl, _, rfl, ?_⟩
      refine iteDF (by decide) ⟨_, rfl, rfl, _, rfl, ?_⟩
      refine iteDF (by decide) ⟨_, rfl, rfl, _, rfl, ?_⟩
      refine iteDF (by decide) ⟨_, rfl, rfl, _, rfl, ?_⟩
      refine iteDF (by decide) ⟨_, rfl, rfl, _, rfl, ?_⟩
      refine iteDT (by decide) ⟨_, rfl, L.g, L.dx, _, rfl, G.ins, rfl, _, rfl, b, _, _, _, rfl, rfl, SqL.of hb, rfl, L, p, x, rfl, G, ?_⟩
      exact k.one (by intro l z; cases z) (by intro z; cases z)
    | check l hl =>
      refine iteDF (by decide) ⟨_, rfl, rfl, _, rfl, ?_⟩
      refine iteDF (by decide) ⟨_, rfl, rfl, _, rfl, ?_⟩
      refine iteDF (by decide) ⟨_, rfl, rfl, _, rfl, ?_⟩
      refine iteDF (by decide) ⟨_, rfl, rfl, _, rfl, ?_⟩
      refine iteDF (by decide) ⟨_, rfl, rfl, _, rfl, ?_⟩
      refine iteDF (by decide) ⟨_, rfl, rfl, _, rfl, ?_⟩
      refine iteDF (by decide) ⟨_, rfl, rfl, _, rfl, ?_⟩
      refine iteDF (by decide) ⟨_, rfl, rfl, _, rfl, ?_⟩
      rw [decide_eq_true (by decide)]
      obtain ⟨e1, e2⟩ := step_check G.wf ns
      have e1' : (Si69.step p (.check ns)).1 = p := by rw [e1]
      unfold told1 at k
      rw [e2, e1'] at k
      refine iteT ⟨_, rfl, _, rfl, L, p, b, ns, rfl, G, hb, by omega, ?_⟩
      exact k.new G
    | best =>
      refine iteDF (by decide) ⟨_, rfl, rfl, _, rfl, ?_⟩
      refine iteDF (by decide) ⟨_, rfl, rfl, _, rfl, ?_⟩
      refine iteDF (by decide) ⟨_, rfl, rfl, _, rfl, ?_⟩
      refine iteDF (by decide) ⟨_, rfl, rfl, _, rfl, ?_⟩
      refine iteDF (by decide) ⟨_, rfl, rfl, _, rfl, ?_⟩
      refine iteDF (by decide) ⟨_, rfl, rfl, _, rfl, ?_⟩
      refine iteDF (by decide) ⟨_, rfl, rfl, _, rfl, ?_⟩
      refine iteDF (by decide) ⟨_, rfl, rfl, _, rfl, ?_⟩
      refine iteDF (by decide) ⟨_, rfl, rfl, _, rfl, ?_⟩
      rw [decide_eq_true (by decide)]
      obtain ⟨e1, e2⟩ := step_best G.wf
      have e1' : (Si69.step p .best).1 = p := by rw [e1]
      unfold told1 at k
      rw [e2, e1'] at k
      refine iteT ⟨_, rfl, L, p, rfl, G, ?_⟩
      exact k.new G
end
end Sb

set_option Elab.async false
set_option linter.all false
set_option maxRecDepth 100000
set_option maxHeartbeats 4000000
namespace Sb
open PySem PySem.Spec PyProof.Rows L2
section
variable {P : Program} {w : World} {K : PySem.W.Frag} {mg : Str → Option Value} {base : Heap} {a : Ad}
theorem told_short {a : Ad} {H : Hp} {L : Lay} {p : Si69.Plot} (G : GA a H L p) (q : Si69.Call) : (told1 p q).length ≤ 9 := by
  by_cases h1 : ∃ l, q = .check l
  · obtain ⟨l, rfl⟩ := h1
    unfold told1
    rw [(step_check G.wf l).2]
    exact Nat.le_trans (check_len p l) (by decide)
  · by_cases h2 : q = .best
    · subst h2
      unfold told1
      rw [(step_best G.wf).2]
      have h3 := G.wf.plants
      have : (bestM p).2.2.length ≤ 3 := bestM_len _ _ (fun l hl => by rw [(rows_mem hl).1]; exact h3) (Nat.zero_le _)
      simp only [List.length_cons, Si69.ints, List.length_map]
      omega
    · unfold told1
      rw [one_told p q (fun l z => h1 ⟨l, z⟩) h2]
      show 1 ≤ 9
      decide
/-- a list that is not the garden's is changed -/
theorem GA.but {H H' : Hp} {L : Lay} {p : Si69.Plot} {t : Addr} {xs : List V} (G : GA a H L p) (ht : H t = some (.lst xs)) (no : ¬ Own L t) (kp : But t H H') : GA a H' L p :=
  { G with
    ins := kp _ _ G.ins fun z => no (.inl z.symm)
    lev := kp _ _ G.lev fun z => no (.inr (.inl z.symm))
    hei := kp _ _ G.hei fun z => no (.inr (.inr (.inl z.symm)))
    hrs := kp _ _ G.hrs fun z => no (.inr (.inr (.inr (.inl z.symm))))
    pls := kp _ _ G.pls fun z => no (.inr (.inr (.inr (.inr (.inl z.symm)))))
    lik := kp _ _ G.lik fun z => no (.inr (.inr (.inr (.inr (.inr z.symm)))))
    hat := fun i b h => by
      obtain ⟨o, d, e, q⟩ := G.hat i b h
      exact ⟨o, d, e, kp _ _ q (ne_of q ht (by intro z; cases z))⟩
    pat := fun i b h => by
      obtain ⟨d, q⟩ := G.pat i b h
      exact ⟨d, kp _ _ q (ne_of q ht (by intro z; cases z))⟩ }
theorem cut_mid (pre mid post : List V) : cutV (pre ++ (mid ++ post)) (some ((pre.length : Nat) : Int)) (some ((pre.length + mid.length : Nat) : Int)) = mid := by
  unfold cutV
  rw [HT.sIx_nat, HT.sIx_nat]
  have e1 : min pre.length (pre ++ (mid ++ post)).length = pre.length := by rw [List.length_append]; omega
  have e2 : min (pre.length + mid.length) (pre ++ (mid ++ post)).length = pre.length + mid.length := by rw [List.length_append, List.length_append]; omega
  rw [e1, e2, List.drop_left, Nat.add_sub_cancel_left, List.take_left]
def spAns (K : PySem.W.Frag) : Sp := fun vs H Q _ => ∃ (c : Addr) (l : List Int), vs = [.ref c] ∧ SqL K H c (l.map V.int) ∧ l.length ≤ 1000 ∧ PySi69.answers_asked l = true ∧ ∀ (H' : Hp) (A : Addr), H' A = some (.lst (iV (PySi69.answers l))) → Q (.ref A) H'
theorem ok_answers (M : Md K mg a) : FnOk P w K mg base CX0 10 a.f_answers a.d_answers ["calls"] (spAns K) := by
  have G_Garden_init := ok_Garden_init (P := P) (w := w) (base := base) M
  have G_answer_call := ok_answer_call (P := P) (w := w) (base := base) M
  refine M.F_answers.ok sc_answers (fun vs H Q E h => ?_) (fun cdv A outer s H vs Q E hr h => ?_)
  · obtain ⟨_, _, rfl, _⟩ := h
    rfl
  · obtain ⟨c, l, rfl, hc, hl, hask, q⟩ := h
    have nd := sc_answers.nd
    obtain ⟨cs, LN⟩ := line_of hask
    refine ⟨_, (pss_cons (ps_set (i := 1) nd rfl (Or.inl rfl) (pe_make0 M.mk_Garden G_Garden_init (hr.mono (by decide)) rfl M.g_Garden M.b_Garden_init .nil pass0))
      (pss_cons (ps_set (i := 2) nd rfl (Or.inl rfl) (pe_lst pa_nil))
      (pss_cons (ps_set (i := 3) nd rfl (Or.inl rfl) pe_int)
      (pss_cons (ps_while PassesOwn.never (pt_cmpR op_lt (pv 3) (pe_callB call_len_seq (by rfl) M.n_len boo_len (pa_cons (pv 0) pa_nil)) (nomark _)) (pss_cons (ps_set (i := 4) nd rfl (Or.inl rfl) (pe_op op_add (pv 3) pe_int))
      (pss_cons (ps_set (i := 5) nd rfl (Or.inl rfl) (pe_op op_add (pv 4) (pe_ix ix_list (pv 0) (pe_op op_add (pv 3) pe_int) (fun _ _ => rfl))))
      (pss_cons (ps_set (i := 6) nd rfl (Or.inl rfl) (pe_call G_answer_call (hr.mono (by decide)) rfl M.g_answer_call M.k_answer_call M.b_answer_call .nil pass0 (pa_cons (pv 1) (pa_cons (pe_ix ix_list (pv 0) (pv 3) (fun _ _ => rfl)) (pa_cons (pe_slice sl_list (pv 0) (po_some (pv 4)) (po_some (pv 5))) pa_nil)))))
      (pss_cons (ps_expr (pe_bm PySem.F.plainAttrs_list PySem.F.slot_list_append PySem.F.type_list_append mt_append (pv 2) (pa_cons (pe_callB call_len_seq (by rfl) M.n_len boo_len (pa_cons (pv 6) pa_nil)) pa_nil)))
      (pss_cons (ps_expr (pe_bm PySem.F.plainAttrs_list PySem.F.slot_list_extend PySem.F.type_list_extend mt_extend (pv 2) (pa_cons (pv 6) pa_nil)))
      (pss_one (ps_set (i := 3) nd rfl (Or.inl rfl) (pe_op op_add (pv 5) pe_int)))))))))
      (pss_one (ps_ret (pv 2))))))), ?_⟩
    refine fun x dx nx ndx nex => ⟨x, dx, rfl, upd_same, fun H1 L1 G1 e1 n1 kp1 fr1 => ⟨rfl, ?_⟩⟩
    have s1 : Same H H1 := Same.made nx ndx kp1
    have own1 : ∀ b o, H b = some o → ¬ Own L1 b := fun b o e z => by
      have e2 : upd (upd H dx (.own x)) x (.ins a.C_Garden dx []) b = some o := by
        rw [upd_ne (ne_of_none e nx), upd_ne (ne_of_none e ndx)]
        exact e
      rcases fr1 b z with q | q
      · exact ne_of_none e nx q
      · rw [e2] at q
        cases q
    subst e1
    refine ⟨len_ok rfl, fun A hA => ?_⟩
    have s2 : Same H (upd H1 A (.lst [])) := s1.upd (s1.free hA)
    refine ⟨fun m σ H' => ∃ (pre : List Int) (rest : List (List Int)) (out : List Int) (p : Si69.Plot) (L : Lay) (v4 v5 v6 : Option V), σ = [some (.ref c), some (.ref L.g), some (.ref A), some (nat pre.length), v4, v5, v6] ∧ l = pre ++ flat rest ∧ Same H H' ∧ GA a H' L p ∧ H' A = some (.lst (iV out)) ∧ ¬ Own L A ∧ (∀ b o, H b = some o → ¬ Own L b) ∧ out ++ toldFrom p rest = PySi69.answers l ∧ (∀ d ∈ rest, ∃ q, CallIs d q) ∧ m = rest.length ∧ L.n + rest.length ≤ 60 ∧ out.length + 10 * rest.length ≤ 600,
      ⟨cs.length, [], cs, [], Si69.init, L1, none, none, none, rfl, LN.flat, s2, G1.same (Same.new hA), upd_same, fun z => ?_, own1, LN.ans.symm, LN.each, rfl, by have := LN.len; omega, by have := LN.len; show 0 + _ ≤ _; omega⟩, ?_⟩
    · rcases z with z | z | z | z | z | z
      · exact ne_of_none G1.ins hA z.symm
      · exact ne_of_none G1.lev hA z.symm
      · exact ne_of_none G1.hei hA z.symm
      · exact ne_of_none G1.hrs hA z.symm
      · exact ne_of_none G1.pls hA z.symm
      · exact ne_of_none G1.lik hA z.symm
    rintro m σ H2 ⟨pre, rest, out, p, L, v4, v5, v6, rfl, el, s3, G, hout, noA, own, ea, each, rfl, hn, hol⟩
    have hc2 := s3.seq hc
    refine ⟨_, rfl, _, rfl, c, _, rfl, .inl hc2, _, _, rfl, rfl, _, rfl, ?_⟩
    have ell : (l.map V.int).length = l.length := List.length_map _
    cases rest with
    | nil =>
      refine iteDF (by rw [ell, el]; show ¬ ((pre.length : Int) < ((pre ++ []).length : Nat)); rw [List.append_nil]; omega) ⟨_, rfl, ?_⟩
      rw [toldFrom_nil, List.append_nil] at ea
      rw [ea] at hout
      exact q H2 A hout
    | cons d rest =>
      obtain ⟨cl, hcl⟩ := each d (List.mem_cons_self ..)
      obtain ⟨o, ns, rfl, sh, hns, hlt⟩ := shape_of hcl
      have ed : flat (nums (o :: ns) :: rest) = (o : Int) :: ((ns.length : Nat) : Int) :: (nums ns ++ (0 :: flat rest)) := by
        show enc1 (nums (o :: ns)) ++ flat rest = _
        show ((o : Int) :: (((nums ns).length : Nat) : Int) :: (nums ns ++ [0])) ++ flat rest = _
        rw [show (nums ns).length = ns.length from List.length_map _]
        simp
      rw [ed] at el
      have ell2 : l.length = pre.length + (2 + ns.length + 1 + (flat rest).length) := by
        rw [el]
        simp only [List.length_append, List.length_cons, nums, List.length_map]
        omega
      rw [decide_eq_true (by rw [ell]; omega)]
      have at0 : atI (l.map V.int) ((pre.length : Nat) : Int) = some (nat o) := atI_nat (by rw [el]; simp)
      have at1 : atI (l.map V.int) ((pre.length : Int) + 1) = some (nat ns.length) := at_of (j := pre.length + 1) (by omega) (by rw [el]; simp)
      have ecut : cutV (l.map V.int) (some ((pre.length : Int) + 2)) (some ((pre.length : Int) + 2 + ((ns.length : Nat) : Int))) = nats ns := by
        have z := cut_mid ((pre ++ [(o : Int), ((ns.length : Nat) : Int)]).map V.int) (nats ns) ((0 :: flat rest).map V.int)
        have e0 : l.map V.int = (pre ++ [(o : Int), ((ns.length : Nat) : Int)]).map V.int ++ (nats ns ++ (0 :: flat rest).map V.int) := by
          rw [el]
          simp [nums, nats]
        have e1 : ((pre ++ [(o : Int), ((ns.length : Nat) : Int)]).map V.int).length = pre.length + 2 := by simp
        rw [← e0, e1, List.length_map] at z
        have e2 : ((pre.length + 2 : Nat) : Int) = (pre.length : Int) + 2 := by omega
        have e3 : ((pre.length + 2 + ns.length : Nat) : Int) = (pre.length : Int) + 2 + ((ns.length : Nat) : Int) := by omega
        rw [e2, e3] at z
        exact z
      refine iteT ⟨_, fun σ' H' z => ⟨rest.length, Nat.lt_succ_self _, z⟩, ?_⟩
      refine ⟨_, rfl, _, _, rfl, rfl, ?_⟩
      refine ⟨_, rfl, _, rfl, _, rfl, _, _, rfl, rfl, c, _, _, _, rfl, rfl, hc2, at1, _, _, rfl, rfl, ?_⟩
      refine ⟨_, rfl, _, rfl, _, rfl, c, _, _, _, rfl, rfl, hc2, at0, _, rfl, _, rfl, _, rfl, _, rfl, _, rfl, c, _, rfl, hc2, fun B hB => ?_⟩
      have s4 : Same H2 (upd H2 B (.lst (nats ns))) := Same.new hB
      have hB3 : upd H2 B (.lst (cutV (l.map V.int) (some ((pre.length : Int) + 2)) (some ((pre.length : Int) + 2 + ((ns.length : Nat) : Int))))) = upd H2 B (.lst (nats ns)) := by rw [ecut]
      refine ⟨L, p, B, o, ns, cl, rfl, ?_, ?_, sh, hlt, by omega, ?_⟩
      · refine Eq.mpr (congrArg (fun h => GA a h L p) hB3) (G.same s4)
      · refine Eq.mpr (congrArg (fun h : Hp => h B = some (.lst (nats ns))) hB3) upd_same
      refine Eq.mpr (congrArg (fun h : Hp => AfterL a h L (Si69.step p cl).1 (iV (told1 p cl)) _) hB3) ?_
      generalize upd H2 B (.lst (nats ns)) = H3 at s4 ⊢
      intro D H4 L4 G4 e4 n4 kp4 fr4 hD4
      have hout3 := s4 _ _ hout
      obtain ⟨hA4, neA⟩ := kp4 A _ hout3 noA
      have noA4 : ¬ Own L4 A := fun z => by
        rcases fr4 A z with z | z
        · exact noA z
        · rw [hout3] at z
          cases z
      have hts := told_short G cl
      rw [List.length_cons] at hn hol
      have hAn : H A = none := s1.free hA
      refine ⟨_, rfl, .inl ⟨rfl, _, SqL.of hA4⟩, _, rfl, D, _, rfl, .inl (SqL.of hD4), A, _, _, rfl, rfl, hA4, small_line (by rw [List.length_map]; omega), ?_⟩
      refine ⟨_, rfl, .inl ⟨rfl, _, SqL.of upd_same⟩, _, rfl, A, D, _, _, rfl, rfl, upd_same, by rw [upd_ne (Ne.symm neA)]; exact hD4, ?_, ?_⟩
      · rw [List.length_append, List.length_map, List.length_map]
        exact Nat.le_of_lt (small_line (by show out.length + 1 + _ ≤ _; omega))
      refine ⟨_, rfl, _, _, rfl, rfl, ?_⟩
      rw [upd_upd]
      have hst := step_of hcl p
      refine ⟨pre ++ ((o : Int) :: ((ns.length : Nat) : Int) :: (nums ns ++ [0])), rest, out ++ (((told1 p cl).length : Int) :: told1 p cl), (Si69.step p cl).1, L4, some (V.int ((pre.length : Int) + 2)), some (V.int ((pre.length : Int) + 2 + ((ns.length : Nat) : Int))), some (V.ref D), ?_, ?_, fun b ob e => ?_, G4.but hA4 noA4 but_upd, ?_, noA4, fun b ob e z => ?_, ?_, fun d hd => each d (List.mem_cons_of_mem _ hd), rfl, by omega, ?_⟩
      · rw [e4]
        have ev : (pre.length : Int) + 2 + ((ns.length : Nat) : Int) + 1 = (((pre ++ ((o : Int) :: ((ns.length : Nat) : Int) :: (nums ns ++ [0]))).length : Nat) : Int) := by
          simp only [List.length_append, List.length_cons, nums, List.length_map, List.length_nil]
          omega
        show [some (V.ref c), some (V.ref L.g), some (V.ref A), some (V.int ((pre.length : Int) + 2 + ((ns.length : Nat) : Int) + 1)), some (V.int ((pre.length : Int) + 2)), some (V.int ((pre.length : Int) + 2 + ((ns.length : Nat) : Int))), some (V.ref D)] = _
        rw [ev]
      · rw [el]
        simp
      · have h1 := kp4 b ob (s4 _ _ (s3 _ _ e)) (own b ob e)
        rw [upd_ne (ne_of_none e hAn)]
        exact h1.1
      · rw [upd_same]
        show some (HO.lst (iV out ++ [V.int (((iV (told1 p cl)).length : Nat) : Int)] ++ iV (told1 p cl))) = some (HO.lst (iV (out ++ (((told1 p cl).length : Int) :: told1 p cl))))
        rw [List.length_map]
        simp [iV]
      · rcases fr4 b z with z | z
        · exact own b ob e z
        · rw [s4 _ _ (s3 _ _ e)] at z
          cases z
      · rw [← ea, toldFrom_cons, hst]
        show (out ++ (((told1 p cl).length : Int) :: told1 p cl)) ++ toldFrom (Si69.step p cl).1 rest = out ++ ((((told1 p cl).length : Int) :: told1 p cl) ++ toldFrom (Si69.step p cl).1 rest)
        rw [List.append_assoc]
      · rw [List.length_append, List.length_cons]
        omega
end
end Sb

set_option Elab.async false
set_option linter.all false
set_option maxRecDepth 100000
set_option maxHeartbeats 2000000
namespace Sb
open PySem PySem.Spec PyProof.Rows L2
theorem all_mk {K : PySem.W.Frag} {h : Heap} {mg : Str → Option Value} {fa : Addr} (X : K.In h) (G : h.Ns mainGlobals mg) (hfa : mg "answers" = some (.ref fa))
    {C_Hour C_Plant C_Garden f_within f_in_order f_Hour_init f_Plant_init f_Garden_init f_Garden_lay_out f_Garden_begins f_Garden_level f_Garden_stands f_Garden_tell_of_place f_Garden_hour f_Garden_plant f_Garden_like f_Garden_dislike f_Garden_tell_of_kinds f_Garden_tap f_Garden_liking f_Garden_planted f_Garden_steps f_tops f_places_towards_sun f_in_sun f_hours_in_sun f_shortest_way f_way_on f_check f_is_plan f_has_places_of_its_own f_first_shaded f_plan_worth f_best f_all_plans f_answers f_answer_call : Addr}
    {od_within an_within : Option Addr} {sl_within : Array (Option Value)} {oc_within kV_within dc_within pm_within cd_within ct_within : Value}
    {od_in_order an_in_order : Option Addr} {sl_in_order : Array (Option Value)} {oc_in_order kV_in_order dc_in_order pm_in_order cd_in_order ct_in_order : Value}
    {od_Hour_init an_Hour_init : Option Addr} {sl_Hour_init : Array (Option Value)} {oc_Hour_init kV_Hour_init dc_Hour_init pm_Hour_init cd_Hour_init ct_Hour_init : Value}
    {od_Plant_init an_Plant_init : Option Addr} {sl_Plant_init : Array (Option Value)} {oc_Plant_init kV_Plant_init dc_Plant_init pm_Plant_init cd_Plant_init ct_Plant_init : Value}
    {od_Garden_init an_Garden_init : Option Addr} {sl_Garden_init : Array (Option Value)} {oc_Garden_init kV_Garden_init dc_Garden_init pm_Garden_init cd_Garden_init ct_Garden_init : Value}
    {od_Garden_lay_out an_Garden_lay_out : Option Addr} {sl_Garden_lay_out : Array (Option Value)} {oc_Garden_lay_out kV_Garden_lay_out dc_Garden_lay_out pm_Garden_lay_out cd_Garden_lay_out ct_Garden_lay_out : Value}
    {od_Garden_begins an_Garden_begins : Option Addr} {sl_Garden_begins : Array (Option Value)} {oc_Garden_begins kV_Garden_begins dc_Garden_begins pm_Garden_begins cd_Garden_begins ct_Garden_begins : Value}
    {od_Garden_level an_Garden_level : Option Addr} {sl_Garden_level : Array (Option Value)} {oc_Garden_level kV_Garden_level dc_Garden_level pm_Garden_level cd_Garden_level ct_Garden_level : Value}
    {od_Garden_stands an_Garden_stands : Option Addr} {sl_Garden_stands : Array (Option Value)} {oc_Garden_stands kV_Garden_stands dc_Garden_stands pm_Garden_stands cd_Garden_stands ct_Garden_stands : Value}
    {od_Garden_tell_of_place an_Garden_tell_of_place : Option Addr} {sl_Garden_tell_of_place : Array (Option Value)} {oc_Garden_tell_of_place kV_Garden_tell_of_place dc_Garden_tell_of_place pm_Garden_tell_of_place cd_Garden_tell_of_place ct_Garden_tell_of_place : Value}
    {od_Garden_hour an_Garden_hour : Option Addr} {sl_Garden_hour : Array (Option Value)} {oc_Garden_hour kV_Garden_hour dc_Garden_hour pm_Garden_hour cd_Garden_hour ct_Garden_hour : Value}
    {od_Garden_plant an_Garden_plant : Option Addr} {sl_Garden_plant : Array (Option Value)} {oc_Garden_plant kV_Garden_plant dc_Garden_plant pm_Garden_plant cd_Garden_plant ct_Garden_plant : Value}
    {od_Garden_like an_Garden_like : Option Addr} {sl_Garden_like : Array (Option Value)} {oc_Garden_like kV_Garden_like dc_Garden_like pm_Garden_like cd_Garden_like ct_Garden_like : Value}
    {od_Garden_dislike an_Garden_dislike : Option Addr} {sl_Garden_dislike : Array (Option Value)} {oc_Garden_dislike kV_Garden_dislike dc_Garden_dislike pm_Garden_dislike cd_Garden_dislike ct_Garden_dislike : Value}
    {od_Garden_tell_of_kinds an_Garden_tell_of_kinds : Option Addr} {sl_Garden_tell_of_kinds : Array (Option Value)} {oc_Garden_tell_of_kinds kV_Garden_tell_of_kinds dc_Garden_tell_of_kinds pm_Garden_tell_of_kinds cd_Garden_tell_of_kinds ct_Garden_tell_of_kinds : Value}
    {od_Garden_tap an_Garden_tap : Option Addr} {sl_Garden_tap : Array (Option Value)} {oc_Garden_tap kV_Garden_tap dc_Garden_tap pm_Garden_tap cd_Garden_tap ct_Garden_tap : Value}
    {od_Garden_liking an_Garden_liking : Option Addr} {sl_Garden_liking : Array (Option Value)} {oc_Garden_liking kV_Garden_liking dc_Garden_liking pm_Garden_liking cd_Garden_liking ct_Garden_liking : Value}
    {od_Garden_planted an_Garden_planted : Option Addr} {sl_Garden_planted : Array (Option Value)} {oc_Garden_planted kV_Garden_planted dc_Garden_planted pm_Garden_planted cd_Garden_planted ct_Garden_planted : Value}
    {od_Garden_steps an_Garden_steps : Option Addr} {sl_Garden_steps : Array (Option Value)} {oc_Garden_steps kV_Garden_steps dc_Garden_steps pm_Garden_steps cd_Garden_steps ct_Garden_steps : Value}
    {od_tops an_tops : Option Addr} {sl_tops : Array (Option Value)} {oc_tops kV_tops dc_tops pm_tops cd_tops ct_tops : Value}
    {od_places_towards_sun an_places_towards_sun : Option Addr} {sl_places_towards_sun : Array (Option Value)} {oc_places_towards_sun kV_places_towards_sun dc_places_towards_sun pm_places_towards_sun cd_places_towards_sun ct_places_towards_sun : Value}
    {od_in_sun an_in_sun : Option Addr} {sl_in_sun : Array (Option Value)} {oc_in_sun kV_in_sun dc_in_sun pm_in_sun cd_in_sun ct_in_sun : Value}
    {od_hours_in_sun an_hours_in_sun : Option Addr} {sl_hours_in_sun : Array (Option Value)} {oc_hours_in_sun kV_hours_in_sun dc_hours_in_sun pm_hours_in_sun cd_hours_in_sun ct_hours_in_sun : Value}
    {od_shortest_way an_shortest_way : Option Addr} {sl_shortest_way : Array (Option Value)} {oc_shortest_way kV_shortest_way dc_shortest_way pm_shortest_way cd_shortest_way ct_shortest_way : Value}
    {od_way_on an_way_on : Option Addr} {sl_way_on : Array (Option Value)} {oc_way_on kV_way_on dc_way_on pm_way_on cd_way_on ct_way_on : Value}
    {od_check an_check : Option Addr} {sl_check : Array (Option Value)} {oc_check kV_check dc_check pm_check cd_check ct_check : Value}
    {od_is_plan an_is_plan : Option Addr} {sl_is_plan : Array (Option Value)} {oc_is_plan kV_is_plan dc_is_plan pm_is_plan cd_is_plan ct_is_plan : Value}
    {od_has_places_of_its_own an_has_places_of_its_own : Option Addr} {sl_has_places_of_its_own : Array (Option Value)} {oc_has_places_of_its_own kV_has_places_of_its_own dc_has_places_of_its_own pm_has_places_of_its_own cd_has_places_of_its_own ct_has_places_of_its_own : Value}
    {od_first_shaded an_first_shaded : Option Addr} {sl_first_shaded : Array (Option Value)} {oc_first_shaded kV_first_shaded dc_first_shaded pm_first_shaded cd_first_shaded ct_first_shaded : Value}
    {od_plan_worth an_plan_worth : Option Addr} {sl_plan_worth : Array (Option Value)} {oc_plan_worth kV_plan_worth dc_plan_worth pm_plan_worth cd_plan_worth ct_plan_worth : Value}
    {od_best an_best : Option Addr} {sl_best : Array (Option Value)} {oc_best kV_best dc_best pm_best cd_best ct_best : Value}
    {od_all_plans an_all_plans : Option Addr} {sl_all_plans : Array (Option Value)} {oc_all_plans kV_all_plans dc_all_plans pm_all_plans cd_all_plans ct_all_plans : Value}
    {od_answers an_answers : Option Addr} {sl_answers : Array (Option Value)} {oc_answers kV_answers dc_answers pm_answers cd_answers ct_answers : Value}
    {od_answer_call an_answer_call : Option Addr} {sl_answer_call : Array (Option Value)} {oc_answer_call kV_answer_call dc_answer_call pm_answer_call cd_answer_call ct_answer_call : Value}
    {t_BEGINS : Tok}
    {t_BEST : Tok}
    {t_CANNOT_BE : Tok}
    {t_CHECK : Tok}
    {o_COLUMN_STEPS : Addr} {dd_COLUMN_STEPS : Option Addr} {nn_COLUMN_STEPS : Nat} {ss_COLUMN_STEPS : Array (Option Value)} {ll_COLUMN_STEPS : List Value}
    {t_DISLIKE : Tok}
    {t_HIGHEST : Tok}
    {t_HOUR : Tok}
    {t_LAST_KIND : Tok}
    {t_LAST_WHENCE : Tok}
    {t_LEVEL : Tok}
    {t_LIKE : Tok}
    {t_LONGEST_WAY : Tok}
    {t_MOST_HOURS : Tok}
    {t_MOST_IN_CAN : Tok}
    {t_MOST_LIKED : Tok}
    {t_MOST_PLACES : Tok}
    {t_MOST_PLANTS : Tok}
    {t_MOST_WORTH : Tok}
    {t_NOT_AS_TOLD : Tok}
    {t_NO_MORE : Tok}
    {t_NO_PLACE_OF_ITS_OWN : Tok}
    {t_NO_SUCH_PLACE : Tok}
    {t_PLANT : Tok}
    {o_ROW_STEPS : Addr} {dd_ROW_STEPS : Option Addr} {nn_ROW_STEPS : Nat} {ss_ROW_STEPS : Array (Option Value)} {ll_ROW_STEPS : List Value}
    {t_STANDS : Tok}
    {t_STEEPEST_RISE : Tok}
    {t_TAP : Tok}
    {t_TOO_LITTLE_SUN : Tok}
    {t_TOO_LONG_A_WAY : Tok}
    (aC_Hour : PySem.W.nsIn K mainGlobals "Hour" = some (some (.ref C_Hour)))
    (pg_Hour : PySem.W.plainGet K C_Hour Str.empty = true)
    (hd_Hour : PySem.W.hasDictIn K C_Hour = true)
    (po_Hour : PySem.W.plainOver K C_Hour = true)
    (sa_Hour : PySem.W.findIn K (.ref C_Hour) "__setattr__" = some (some (.builtin "object.__setattr__")))
    (mk_Hour : PySem.W.makesIn K C_Hour = true)
    (kc_Hour : PySem.W.keepIn K (.ref C_Hour) = true)
    (nf_Hour_whence : PySem.W.findIn K (.ref C_Hour) "whence" = some none)
    (nf_Hour_rise : PySem.W.findIn K (.ref C_Hour) "rise" = some none)
    (aC_Plant : PySem.W.nsIn K mainGlobals "Plant" = some (some (.ref C_Plant)))
    (pg_Plant : PySem.W.plainGet K C_Plant Str.empty = true)
    (hd_Plant : PySem.W.hasDictIn K C_Plant = true)
    (po_Plant : PySem.W.plainOver K C_Plant = true)
    (sa_Plant : PySem.W.findIn K (.ref C_Plant) "__setattr__" = some (some (.builtin "object.__setattr__")))
    (mk_Plant : PySem.W.makesIn K C_Plant = true)
    (kc_Plant : PySem.W.keepIn K (.ref C_Plant) = true)
    (nf_Plant_high : PySem.W.findIn K (.ref C_Plant) "high" = some none)
    (nf_Plant_needed_hours : PySem.W.findIn K (.ref C_Plant) "needed_hours" = some none)
    (nf_Plant_worth : PySem.W.findIn K (.ref C_Plant) "worth" = some none)
    (nf_Plant_kind : PySem.W.findIn K (.ref C_Plant) "kind" = some none)
    (nf_Plant_water : PySem.W.findIn K (.ref C_Plant) "water" = some none)
    (aC_Garden : PySem.W.nsIn K mainGlobals "Garden" = some (some (.ref C_Garden)))
    (pg_Garden : PySem.W.plainGet K C_Garden Str.empty = true)
    (hd_Garden : PySem.W.hasDictIn K C_Garden = true)
    (po_Garden : PySem.W.plainOver K C_Garden = true)
    (sa_Garden : PySem.W.findIn K (.ref C_Garden) "__setattr__" = some (some (.builtin "object.__setattr__")))
    (mk_Garden : PySem.W.makesIn K C_Garden = true)
    (kc_Garden : PySem.W.keepIn K (.ref C_Garden) = true)
    (nf_Garden_rows : PySem.W.findIn K (.ref C_Garden) "rows" = some none)
    (nf_Garden_columns : PySem.W.findIn K (.ref C_Garden) "columns" = some none)
    (nf_Garden_places : PySem.W.findIn K (.ref C_Garden) "places" = some none)
    (nf_Garden_can : PySem.W.findIn K (.ref C_Garden) "can" = some none)
    (nf_Garden_longest_way : PySem.W.findIn K (.ref C_Garden) "longest_way" = some none)
    (nf_Garden_tap_place : PySem.W.findIn K (.ref C_Garden) "tap_place" = some none)
    (nf_Garden_levels : PySem.W.findIn K (.ref C_Garden) "levels" = some none)
    (nf_Garden_heights : PySem.W.findIn K (.ref C_Garden) "heights" = some none)
    (nf_Garden_hours : PySem.W.findIn K (.ref C_Garden) "hours" = some none)
    (nf_Garden_plants : PySem.W.findIn K (.ref C_Garden) "plants" = some none)
    (nf_Garden_likings : PySem.W.findIn K (.ref C_Garden) "likings" = some none)
    (a_within : PySem.W.nsIn K mainGlobals "within" = some (some (.ref f_within)))
    (l_within : K.lookup f_within = some ⟨oc_within, od_within, .func (PySem.W.fnOf "within" "within" (defArgs s_within) (defBody s_within) (defScope s_within) .none kV_within dc_within pm_within an_within cd_within ct_within), sl_within⟩)
    (c_within : PySem.W.codeIn K cd_within "within" = true)
    (k_within : PySem.W.keepIn K (.ref f_within) = true)
    (a_in_order : PySem.W.nsIn K mainGlobals "in_order" = some (some (.ref f_in_order)))
    (l_in_order : K.lookup f_in_order = some ⟨oc_in_order, od_in_order, .func (PySem.W.fnOf "in_order" "in_order" (defArgs s_in_order) (defBody s_in_order) (defScope s_in_order) .none kV_in_order dc_in_order pm_in_order an_in_order cd_in_order ct_in_order), sl_in_order⟩)
    (c_in_order : PySem.W.codeIn K cd_in_order "in_order" = true)
    (k_in_order : PySem.W.keepIn K (.ref f_in_order) = true)
    (a_Hour_init : PySem.W.findIn K (.ref C_Hour) "__init__" = some (some (.ref f_Hour_init)))
    (i_Hour_init : PySem.W.isFn K (.ref f_Hour_init) = true)
    (l_Hour_init : K.lookup f_Hour_init = some ⟨oc_Hour_init, od_Hour_init, .func (PySem.W.fnOf "__init__" "Hour.__init__" (defArgs s_Hour_init) (defBody s_Hour_init) (defScope s_Hour_init) .none kV_Hour_init dc_Hour_init pm_Hour_init an_Hour_init cd_Hour_init ct_Hour_init), sl_Hour_init⟩)
    (c_Hour_init : PySem.W.codeIn K cd_Hour_init "Hour.__init__" = true)
    (k_Hour_init : PySem.W.keepIn K (.ref f_Hour_init) = true)
    (a_Plant_init : PySem.W.findIn K (.ref C_Plant) "__init__" = some (some (.ref f_Plant_init)))
    (i_Plant_init : PySem.W.isFn K (.ref f_Plant_init) = true)
    (l_Plant_init : K.lookup f_Plant_init = some ⟨oc_Plant_init, od_Plant_init, .func (PySem.W.fnOf "__init__" "Plant.__init__" (defArgs s_Plant_init) (defBody s_Plant_init) (defScope s_Plant_init) .none kV_Plant_init dc_Plant_init pm_Plant_init an_Plant_init cd_Plant_init ct_Plant_init), sl_Plant_init⟩)
    (c_Plant_init : PySem.W.codeIn K cd_Plant_init "Plant.__init__" = true)
    (k_Plant_init : PySem.W.keepIn K (.ref f_Plant_init) = true)
    (a_Garden_init : PySem.W.findIn K (.ref C_Garden) "__init__" = some (some (.ref f_Garden_init)))
    (i_Garden_init : PySem.W.isFn K (.ref f_Garden_init) = true)
    (l_Garden_init : K.lookup f_Garden_init = some ⟨oc_Garden_init, od_Garden_init, .func (PySem.W.fnOf "__init__" "Garden.__init__" (defArgs s_Garden_init) (defBody s_Garden_init) (defScope s_Garden_init) .none kV_Garden_init dc_Garden_init pm_Garden_init an_Garden_init cd_Garden_init ct_Garden_init), sl_Garden_init⟩)
    (c_Garden_init : PySem.W.codeIn K cd_Garden_init "Garden.__init__" = true)
    (k_Garden_init : PySem.W.keepIn K (.ref f_Garden_init) = true)
    (a_Garden_lay_out : PySem.W.findIn K (.ref C_Garden) "lay_out" = some (some (.ref f_Garden_lay_out)))
    (i_Garden_lay_out : PySem.W.isFn K (.ref f_Garden_lay_out) = true)
    (l_Garden_lay_out : K.lookup f_Garden_lay_out = some ⟨oc_Garden_lay_out, od_Garden_lay_out, .func (PySem.W.fnOf "lay_out" "Garden.lay_out" (defArgs s_Garden_lay_out) (defBody s_Garden_lay_out) (defScope s_Garden_lay_out) .none kV_Garden_lay_out dc_Garden_lay_out pm_Garden_lay_out an_Garden_lay_out cd_Garden_lay_out ct_Garden_lay_out), sl_Garden_lay_out⟩)
    (c_Garden_lay_out : PySem.W.codeIn K cd_Garden_lay_out "Garden.lay_out" = true)
    (k_Garden_lay_out : PySem.W.keepIn K (.ref f_Garden_lay_out) = true)
    (a_Garden_begins : PySem.W.findIn K (.ref C_Garden) "begins" = some (some (.ref f_Garden_begins)))
    (i_Garden_begins : PySem.W.isFn K (.ref f_Garden_begins) = true)
    (l_Garden_begins : K.lookup f_Garden_begins = some ⟨oc_Garden_begins, od_Garden_begins, .func (PySem.W.fnOf "begins" "Garden.begins" (defArgs s_Garden_begins) (defBody s_Garden_begins) (defScope s_Garden_begins) .none kV_Garden_begins dc_Garden_begins pm_Garden_begins an_Garden_begins cd_Garden_begins ct_Garden_begins), sl_Garden_begins⟩)
    (c_Garden_begins : PySem.W.codeIn K cd_Garden_begins "Garden.begins" = true)
    (k_Garden_begins : PySem.W.keepIn K (.ref f_Garden_begins) = true)
    (a_Garden_level : PySem.W.findIn K (.ref C_Garden) "level" = some (some (.ref f_Garden_level)))
    (i_Garden_level : PySem.W.isFn K (.ref f_Garden_level) = true)
    (l_Garden_level : K.lookup f_Garden_level = some ⟨oc_Garden_level, od_Garden_level, .func (PySem.W.fnOf "level" "Garden.level" (defArgs s_Garden_level) (defBody s_Garden_level) (defScope s_Garden_level) .none kV_Garden_level dc_Garden_level pm_Garden_level an_Garden_level cd_Garden_level ct_Garden_level), sl_Garden_level⟩)
    (c_Garden_level : PySem.W.codeIn K cd_Garden_level "Garden.level" = true)
    (k_Garden_level : PySem.W.keepIn K (.ref f_Garden_level) = true)
    (a_Garden_stands : PySem.W.findIn K (.ref C_Garden) "stands" = some (some (.ref f_Garden_stands)))
    (i_Garden_stands : PySem.W.isFn K (.ref f_Garden_stands) = true)
    (l_Garden_stands : K.lookup f_Garden_stands = some ⟨oc_Garden_stands, od_Garden_stands, .func (PySem.W.fnOf "stands" "Garden.stands" (defArgs s_Garden_stands) (defBody s_Garden_stands) (defScope s_Garden_stands) .none kV_Garden_stands dc_Garden_stands pm_Garden_stands an_Garden_stands cd_Garden_stands ct_Garden_stands), sl_Garden_stands⟩)
    (c_Garden_stands : PySem.W.codeIn K cd_Garden_stands "Garden.stands" = true)
    (k_Garden_stands : PySem.W.keepIn K (.ref f_Garden_stands) = true)
    (a_Garden_tell_of_place : PySem.W.findIn K (.ref C_Garden) "tell_of_place" = some (some (.ref f_Garden_tell_of_place)))
    (i_Garden_tell_of_place : PySem.W.isFn K (.ref f_Garden_tell_of_place) = true)
    (l_Garden_tell_of_place : K.lookup f_Garden_tell_of_place = some ⟨oc_Garden_tell_of_place, od_Garden_tell_of_place, .func (PySem.W.fnOf "tell_of_place" "Garden.tell_of_place" (defArgs s_Garden_tell_of_place) (defBody s_Garden_tell_of_place) (defScope s_Garden_tell_of_place) .none kV_Garden_tell_of_place dc_Garden_tell_of_place pm_Garden_tell_of_place an_Garden_tell_of_place cd_Garden_tell_of_place ct_Garden_tell_of_place), sl_Garden_tell_of_place⟩)
    (c_Garden_tell_of_place : PySem.W.codeIn K cd_Garden_tell_of_place "Garden.tell_of_place" = true)
    (k_Garden_tell_of_place : PySem.W.keepIn K (.ref f_Garden_tell_of_place) = true)
    (a_Garden_hour : PySem.W.findIn K (.ref C_Garden) "hour" = some (some (.ref f_Garden_hour)))
    (i_Garden_hour : PySem.W.isFn K (.ref f_Garden_hour) = true)
    (l_Garden_hour : K.lookup f_Garden_hour = some ⟨oc_Garden_hour, od_Garden_hour, .func (PySem.W.fnOf "hour" "Garden.hour" (defArgs s_Garden_hour) (defBody s_Garden_hour) (defScope s_Garden_hour) .none kV_Garden_hour dc_Garden_hour pm_Garden_hour an_Garden_hour cd_Garden_hour ct_Garden_hour), sl_Garden_hour⟩)
    (c_Garden_hour : PySem.W.codeIn K cd_Garden_hour "Garden.hour" = true)
    (k_Garden_hour : PySem.W.keepIn K (.ref f_Garden_hour) = true)
    (a_Garden_plant : PySem.W.findIn K (.ref C_Garden) "plant" = some (some (.ref f_Garden_plant)))
    (i_Garden_plant : PySem.W.isFn K (.ref f_Garden_plant) = true)
    (l_Garden_plant : K.lookup f_Garden_plant = some ⟨oc_Garden_plant, od_Garden_plant, .func (PySem.W.fnOf "plant" "Garden.plant" (defArgs s_Garden_plant) (defBody s_Garden_plant) (defScope s_Garden_plant) .none kV_Garden_plant dc_Garden_plant pm_Garden_plant an_Garden_plant cd_Garden_plant ct_Garden_plant), sl_Garden_plant⟩)
    (c_Garden_plant : PySem.W.codeIn K cd_Garden_plant "Garden.plant" = true)
    (k_Garden_plant : PySem.W.keepIn K (.ref f_Garden_plant) = true)
    (a_Garden_like : PySem.W.findIn K (.ref C_Garden) "like" = some (some (.ref f_Garden_like)))
    (i_Garden_like : PySem.W.isFn K (.ref f_Garden_like) = true)
    (l_Garden_like : K.lookup f_Garden_like = some ⟨oc_Garden_like, od_Garden_like, .func (PySem.W.fnOf "like" "Garden.like" (defArgs s_Garden_like) (defBody s_Garden_like) (defScope s_Garden_like) .none kV_Garden_like dc_Garden_like pm_Garden_like an_Garden_like cd_Garden_like ct_Garden_like), sl_Garden_like⟩)
    (c_Garden_like : PySem.W.codeIn K cd_Garden_like "Garden.like" = true)
    (k_Garden_like : PySem.W.keepIn K (.ref f_Garden_like) = true)
    (a_Garden_dislike : PySem.W.findIn K (.ref C_Garden) "dislike" = some (some (.ref f_Garden_dislike)))
    (i_Garden_dislike : PySem.W.isFn K (.ref f_Garden_dislike) = true)
    (l_Garden_dislike : K.lookup f_Garden_dislike = some ⟨oc_Garden_dislike, od_Garden_dislike, .func (PySem.W.fnOf "dislike" "Garden.dislike" (defArgs s_Garden_dislike) (defBody s_Garden_dislike) (defScope s_Garden_dislike) .none kV_Garden_dislike dc_Garden_dislike pm_Garden_dislike an_Garden_dislike cd_Garden_dislike ct_Garden_dislike), sl_Garden_dislike⟩)
    (c_Garden_dislike : PySem.W.codeIn K cd_Garden_dislike "Garden.dislike" = true)
    (k_Garden_dislike : PySem.W.keepIn K (.ref f_Garden_dislike) = true)
    (a_Garden_tell_of_kinds : PySem.W.findIn K (.ref C_Garden) "tell_of_kinds" = some (some (.ref f_Garden_tell_of_kinds)))
    (i_Garden_tell_of_kinds : PySem.W.isFn K (.ref f_Garden_tell_of_kinds) = true)
    (l_Garden_tell_of_kinds : K.lookup f_Garden_tell_of_kinds = some ⟨oc_Garden_tell_of_kinds, od_Garden_tell_of_kinds, .func (PySem.W.fnOf "tell_of_kinds" "Garden.tell_of_kinds" (defArgs s_Garden_tell_of_kinds) (defBody s_Garden_tell_of_kinds) (defScope s_Garden_tell_of_kinds) .none kV_Garden_tell_of_kinds dc_Garden_tell_of_kinds pm_Garden_tell_of_kinds an_Garden_tell_of_kinds cd_Garden_tell_of_kinds ct_Garden_tell_of_kinds), sl_Garden_tell_of_kinds⟩)
    (c_Garden_tell_of_kinds : PySem.W.codeIn K cd_Garden_tell_of_kinds "Garden.tell_of_kinds" = true)
    (k_Garden_tell_of_kinds : PySem.W.keepIn K (.ref f_Garden_tell_of_kinds) = true)
    (a_Garden_tap : PySem.W.findIn K (.ref C_Garden) "tap" = some (some (.ref f_Garden_tap)))
    (i_Garden_tap : PySem.W.isFn K (.ref f_Garden_tap) = true)
    (l_Garden_tap : K.lookup f_Garden_tap = some ⟨oc_Garden_tap, od_Garden_tap, .func (PySem.W.fnOf "tap" "Garden.tap" (defArgs s_Garden_tap) (defBody s_Garden_tap) (defScope s_Garden_tap) .none kV_Garden_tap dc_Garden_tap pm_Garden_tap an_Garden_tap cd_Garden_tap ct_Garden_tap), sl_Garden_tap⟩)
    (c_Garden_tap : PySem.W.codeIn K cd_Garden_tap "Garden.tap" = true)
    (k_Garden_tap : PySem.W.keepIn K (.ref f_Garden_tap) = true)
    (a_Garden_liking : PySem.W.findIn K (.ref C_Garden) "liking" = some (some (.ref f_Garden_liking)))
    (i_Garden_liking : PySem.W.isFn K (.ref f_Garden_liking) = true)
    (l_Garden_liking : K.lookup f_Garden_liking = some ⟨oc_Garden_liking, od_Garden_liking, .func (PySem.W.fnOf "liking" "Garden.liking" (defArgs s_Garden_liking) (defBody s_Garden_liking) (defScope s_Garden_liking) .none kV_Garden_liking dc_Garden_liking pm_Garden_liking an_Garden_liking cd_Garden_liking ct_Garden_liking), sl_Garden_liking⟩)
    (c_Garden_liking : PySem.W.codeIn K cd_Garden_liking "Garden.liking" = true)
    (k_Garden_liking : PySem.W.keepIn K (.ref f_Garden_liking) = true)
    (a_Garden_planted : PySem.W.findIn K (.ref C_Garden) "planted" = some (some (.ref f_Garden_planted)))
    (i_Garden_planted : PySem.W.isFn K (.ref f_Garden_planted) = true)
    (l_Garden_planted : K.lookup f_Garden_planted = some ⟨oc_Garden_planted, od_Garden_planted, .func (PySem.W.fnOf "planted" "Garden.planted" (defArgs s_Garden_planted) (defBody s_Garden_planted) (defScope s_Garden_planted) .none kV_Garden_planted dc_Garden_planted pm_Garden_planted an_Garden_planted cd_Garden_planted ct_Garden_planted), sl_Garden_planted⟩)
    (c_Garden_planted : PySem.W.codeIn K cd_Garden_planted "Garden.planted" = true)
    (k_Garden_planted : PySem.W.keepIn K (.ref f_Garden_planted) = true)
    (a_Garden_steps : PySem.W.findIn K (.ref C_Garden) "steps" = some (some (.ref f_Garden_steps)))
    (i_Garden_steps : PySem.W.isFn K (.ref f_Garden_steps) = true)
    (l_Garden_steps : K.lookup f_Garden_steps = some ⟨oc_Garden_steps, od_Garden_steps, .func (PySem.W.fnOf "steps" "Garden.steps" (defArgs s_Garden_steps) (defBody s_Garden_steps) (defScope s_Garden_steps) .none kV_Garden_steps dc_Garden_steps pm_Garden_steps an_Garden_steps cd_Garden_steps ct_Garden_steps), sl_Garden_steps⟩)
    (c_Garden_steps : PySem.W.codeIn K cd_Garden_steps "Garden.steps" = true)
    (k_Garden_steps : PySem.W.keepIn K (.ref f_Garden_steps) = true)
    (a_tops : PySem.W.nsIn K mainGlobals "tops" = some (some (.ref f_tops)))
    (l_tops : K.lookup f_tops = some ⟨oc_tops, od_tops, .func (PySem.W.fnOf "tops" "tops" (defArgs s_tops) (defBody s_tops) (defScope s_tops) .none kV_tops dc_tops pm_tops an_tops cd_tops ct_tops), sl_tops⟩)
    (c_tops : PySem.W.codeIn K cd_tops "tops" = true)
    (k_tops : PySem.W.keepIn K (.ref f_tops) = true)
    (a_places_towards_sun : PySem.W.nsIn K mainGlobals "places_towards_sun" = some (some (.ref f_places_towards_sun)))
    (l_places_towards_sun : K.lookup f_places_towards_sun = some ⟨oc_places_towards_sun, od_places_towards_sun, .func (PySem.W.fnOf "places_towards_sun" "places_towards_sun" (defArgs s_places_towards_sun) (defBody s_places_towards_sun) (defScope s_places_towards_sun) .none kV_places_towards_sun dc_places_towards_sun pm_places_towards_sun an_places_towards_sun cd_places_towards_sun ct_places_towards_sun), sl_places_towards_sun⟩)
    (c_places_towards_sun : PySem.W.codeIn K cd_places_towards_sun "places_towards_sun" = true)
    (k_places_towards_sun : PySem.W.keepIn K (.ref f_places_towards_sun) = true)
    (a_in_sun : PySem.W.nsIn K mainGlobals "in_sun" = some (some (.ref f_in_sun)))
    (l_in_sun : K.lookup f_in_sun = some ⟨oc_in_sun, od_in_sun, .func (PySem.W.fnOf "in_sun" "in_sun" (defArgs s_in_sun) (defBody s_in_sun) (defScope s_in_sun) .none kV_in_sun dc_in_sun pm_in_sun an_in_sun cd_in_sun ct_in_sun), sl_in_sun⟩)
    (c_in_sun : PySem.W.codeIn K cd_in_sun "in_sun" = true)
    (k_in_sun : PySem.W.keepIn K (.ref f_in_sun) = true)
    (a_hours_in_sun : PySem.W.nsIn K mainGlobals "hours_in_sun" = some (some (.ref f_hours_in_sun)))
    (l_hours_in_sun : K.lookup f_hours_in_sun = some ⟨oc_hours_in_sun, od_hours_in_sun, .func (PySem.W.fnOf "hours_in_sun" "hours_in_sun" (defArgs s_hours_in_sun) (defBody s_hours_in_sun) (defScope s_hours_in_sun) .none kV_hours_in_sun dc_hours_in_sun pm_hours_in_sun an_hours_in_sun cd_hours_in_sun ct_hours_in_sun), sl_hours_in_sun⟩)
    (c_hours_in_sun : PySem.W.codeIn K cd_hours_in_sun "hours_in_sun" = true)
    (k_hours_in_sun : PySem.W.keepIn K (.ref f_hours_in_sun) = true)
    (a_shortest_way : PySem.W.nsIn K mainGlobals "shortest_way" = some (some (.ref f_shortest_way)))
    (l_shortest_way : K.lookup f_shortest_way = some ⟨oc_shortest_way, od_shortest_way, .func (PySem.W.fnOf "shortest_way" "shortest_way" (defArgs s_shortest_way) (defBody s_shortest_way) (defScope s_shortest_way) .none kV_shortest_way dc_shortest_way pm_shortest_way an_shortest_way cd_shortest_way ct_shortest_way), sl_shortest_way⟩)
    (c_shortest_way : PySem.W.codeIn K cd_shortest_way "shortest_way" = true)
    (k_shortest_way : PySem.W.keepIn K (.ref f_shortest_way) = true)
    (a_way_on : PySem.W.nsIn K mainGlobals "way_on" = some (some (.ref f_way_on)))
    (l_way_on : K.lookup f_way_on = some ⟨oc_way_on, od_way_on, .func (PySem.W.fnOf "way_on" "way_on" (defArgs s_way_on) (defBody s_way_on) (defScope s_way_on) .none kV_way_on dc_way_on pm_way_on an_way_on cd_way_on ct_way_on), sl_way_on⟩)
    (c_way_on : PySem.W.codeIn K cd_way_on "way_on" = true)
    (k_way_on : PySem.W.keepIn K (.ref f_way_on) = true)
    (a_check : PySem.W.nsIn K mainGlobals "check" = some (some (.ref f_check)))
    (l_check : K.lookup f_check = some ⟨oc_check, od_check, .func (PySem.W.fnOf "check" "check" (defArgs s_check) (defBody s_check) (defScope s_check) .none kV_check dc_check pm_check an_check cd_check ct_check), sl_check⟩)
    (c_check : PySem.W.codeIn K cd_check "check" = true)
    (k_check : PySem.W.keepIn K (.ref f_check) = true)
    (a_is_plan : PySem.W.nsIn K mainGlobals "is_plan" = some (some (.ref f_is_plan)))
    (l_is_plan : K.lookup f_is_plan = some ⟨oc_is_plan, od_is_plan, .func (PySem.W.fnOf "is_plan" "is_plan" (defArgs s_is_plan) (defBody s_is_plan) (defScope s_is_plan) .none kV_is_plan dc_is_plan pm_is_plan an_is_plan cd_is_plan ct_is_plan), sl_is_plan⟩)
    (c_is_plan : PySem.W.codeIn K cd_is_plan "is_plan" = true)
    (k_is_plan : PySem.W.keepIn K (.ref f_is_plan) = true)
    (a_has_places_of_its_own : PySem.W.nsIn K mainGlobals "has_places_of_its_own" = some (some (.ref f_has_places_of_its_own)))
    (l_has_places_of_its_own : K.lookup f_has_places_of_its_own = some ⟨oc_has_places_of_its_own, od_has_places_of_its_own, .func (PySem.W.fnOf "has_places_of_its_own" "has_places_of_its_own" (defArgs s_has_places_of_its_own) (defBody s_has_places_of_its_own) (defScope s_has_places_of_its_own) .none kV_has_places_of_its_own dc_has_places_of_its_own pm_has_places_of_its_own an_has_places_of_its_own cd_has_places_of_its_own ct_has_places_of_its_own), sl_has_places_of_its_own⟩)
    (c_has_places_of_its_own : PySem.W.codeIn K cd_has_places_of_its_own "has_places_of_its_own" = true)
    (k_has_places_of_its_own : PySem.W.keepIn K (.ref f_has_places_of_its_own) = true)
    (a_first_shaded : PySem.W.nsIn K mainGlobals "first_shaded" = some (some (.ref f_first_shaded)))
    (l_first_shaded : K.lookup f_first_shaded = some ⟨oc_first_shaded, od_first_shaded, .func (PySem.W.fnOf "first_shaded" "first_shaded" (defArgs s_first_shaded) (defBody s_first_shaded) (defScope s_first_shaded) .none kV_first_shaded dc_first_shaded pm_first_shaded an_first_shaded cd_first_shaded ct_first_shaded), sl_first_shaded⟩)
    (c_first_shaded : PySem.W.codeIn K cd_first_shaded "first_shaded" = true)
    (k_first_shaded : PySem.W.keepIn K (.ref f_first_shaded) = true)
    (a_plan_worth : PySem.W.nsIn K mainGlobals "plan_worth" = some (some (.ref f_plan_worth)))
    (l_plan_worth : K.lookup f_plan_worth = some ⟨oc_plan_worth, od_plan_worth, .func (PySem.W.fnOf "plan_worth" "plan_worth" (defArgs s_plan_worth) (defBody s_plan_worth) (defScope s_plan_worth) .none kV_plan_worth dc_plan_worth pm_plan_worth an_plan_worth cd_plan_worth ct_plan_worth), sl_plan_worth⟩)
    (c_plan_worth : PySem.W.codeIn K cd_plan_worth "plan_worth" = true)
    (k_plan_worth : PySem.W.keepIn K (.ref f_plan_worth) = true)
    (a_best : PySem.W.nsIn K mainGlobals "best" = some (some (.ref f_best)))
    (l_best : K.lookup f_best = some ⟨oc_best, od_best, .func (PySem.W.fnOf "best" "best" (defArgs s_best) (defBody s_best) (defScope s_best) .none kV_best dc_best pm_best an_best cd_best ct_best), sl_best⟩)
    (c_best : PySem.W.codeIn K cd_best "best" = true)
    (k_best : PySem.W.keepIn K (.ref f_best) = true)
    (a_all_plans : PySem.W.nsIn K mainGlobals "all_plans" = some (some (.ref f_all_plans)))
    (l_all_plans : K.lookup f_all_plans = some ⟨oc_all_plans, od_all_plans, .func (PySem.W.fnOf "all_plans" "all_plans" (defArgs s_all_plans) (defBody s_all_plans) (defScope s_all_plans) .none kV_all_plans dc_all_plans pm_all_plans an_all_plans cd_all_plans ct_all_plans), sl_all_plans⟩)
    (c_all_plans : PySem.W.codeIn K cd_all_plans "all_plans" = true)
    (k_all_plans : PySem.W.keepIn K (.ref f_all_plans) = true)
    (a_answers : PySem.W.nsIn K mainGlobals "answers" = some (some (.ref f_answers)))
    (l_answers : K.lookup f_answers = some ⟨oc_answers, od_answers, .func (PySem.W.fnOf "answers" "answers" (defArgs s_answers) (defBody s_answers) (defScope s_answers) .none kV_answers dc_answers pm_answers an_answers cd_answers ct_answers), sl_answers⟩)
    (c_answers : PySem.W.codeIn K cd_answers "answers" = true)
    (k_answers : PySem.W.keepIn K (.ref f_answers) = true)
    (a_answer_call : PySem.W.nsIn K mainGlobals "answer_call" = some (some (.ref f_answer_call)))
    (l_answer_call : K.lookup f_answer_call = some ⟨oc_answer_call, od_answer_call, .func (PySem.W.fnOf "answer_call" "answer_call" (defArgs s_answer_call) (defBody s_answer_call) (defScope s_answer_call) .none kV_answer_call dc_answer_call pm_answer_call an_answer_call cd_answer_call ct_answer_call), sl_answer_call⟩)
    (c_answer_call : PySem.W.codeIn K cd_answer_call "answer_call" = true)
    (k_answer_call : PySem.W.keepIn K (.ref f_answer_call) = true)
    (v_BEGINS : PySem.W.nsIn K mainGlobals "BEGINS" = some (some (.int (0) t_BEGINS)))
    (v_BEST : PySem.W.nsIn K mainGlobals "BEST" = some (some (.int (9) t_BEST)))
    (v_CANNOT_BE : PySem.W.nsIn K mainGlobals "CANNOT_BE" = some (some (.int (-6) t_CANNOT_BE)))
    (v_CHECK : PySem.W.nsIn K mainGlobals "CHECK" = some (some (.int (8) t_CHECK)))
    (v_COLUMN_STEPS : PySem.W.nsIn K mainGlobals "COLUMN_STEPS" = some (some (.ref o_COLUMN_STEPS)))
    (lk_COLUMN_STEPS : K.lookup o_COLUMN_STEPS = some ⟨.type "tuple", dd_COLUMN_STEPS, .seq ll_COLUMN_STEPS.toArray nn_COLUMN_STEPS, ss_COLUMN_STEPS⟩)
    (r_COLUMN_STEPS : intsB ll_COLUMN_STEPS [(0), (1), (1), (1), (0), (-1), (-1), (-1)] = true)
    (v_DISLIKE : PySem.W.nsIn K mainGlobals "DISLIKE" = some (some (.int (6) t_DISLIKE)))
    (v_HIGHEST : PySem.W.nsIn K mainGlobals "HIGHEST" = some (some (.int (1000) t_HIGHEST)))
    (v_HOUR : PySem.W.nsIn K mainGlobals "HOUR" = some (some (.int (3) t_HOUR)))
    (v_LAST_KIND : PySem.W.nsIn K mainGlobals "LAST_KIND" = some (some (.int (5) t_LAST_KIND)))
    (v_LAST_WHENCE : PySem.W.nsIn K mainGlobals "LAST_WHENCE" = some (some (.int (7) t_LAST_WHENCE)))
    (v_LEVEL : PySem.W.nsIn K mainGlobals "LEVEL" = some (some (.int (1) t_LEVEL)))
    (v_LIKE : PySem.W.nsIn K mainGlobals "LIKE" = some (some (.int (5) t_LIKE)))
    (v_LONGEST_WAY : PySem.W.nsIn K mainGlobals "LONGEST_WAY" = some (some (.int (1000) t_LONGEST_WAY)))
    (v_MOST_HOURS : PySem.W.nsIn K mainGlobals "MOST_HOURS" = some (some (.int (8) t_MOST_HOURS)))
    (v_MOST_IN_CAN : PySem.W.nsIn K mainGlobals "MOST_IN_CAN" = some (some (.int (1000) t_MOST_IN_CAN)))
    (v_MOST_LIKED : PySem.W.nsIn K mainGlobals "MOST_LIKED" = some (some (.int (9) t_MOST_LIKED)))
    (v_MOST_PLACES : PySem.W.nsIn K mainGlobals "MOST_PLACES" = some (some (.int (8) t_MOST_PLACES)))
    (v_MOST_PLANTS : PySem.W.nsIn K mainGlobals "MOST_PLANTS" = some (some (.int (3) t_MOST_PLANTS)))
    (v_MOST_WORTH : PySem.W.nsIn K mainGlobals "MOST_WORTH" = some (some (.int (100000) t_MOST_WORTH)))
    (v_NOT_AS_TOLD : PySem.W.nsIn K mainGlobals "NOT_AS_TOLD" = some (some (.int (-1) t_NOT_AS_TOLD)))
    (v_NO_MORE : PySem.W.nsIn K mainGlobals "NO_MORE" = some (some (.int (-5) t_NO_MORE)))
    (v_NO_PLACE_OF_ITS_OWN : PySem.W.nsIn K mainGlobals "NO_PLACE_OF_ITS_OWN" = some (some (.int (-4) t_NO_PLACE_OF_ITS_OWN)))
    (v_NO_SUCH_PLACE : PySem.W.nsIn K mainGlobals "NO_SUCH_PLACE" = some (some (.int (-2) t_NO_SUCH_PLACE)))
    (v_PLANT : PySem.W.nsIn K mainGlobals "PLANT" = some (some (.int (4) t_PLANT)))
    (v_ROW_STEPS : PySem.W.nsIn K mainGlobals "ROW_STEPS" = some (some (.ref o_ROW_STEPS)))
    (lk_ROW_STEPS : K.lookup o_ROW_STEPS = some ⟨.type "tuple", dd_ROW_STEPS, .seq ll_ROW_STEPS.toArray nn_ROW_STEPS, ss_ROW_STEPS⟩)
    (r_ROW_STEPS : intsB ll_ROW_STEPS [(-1), (-1), (0), (1), (1), (1), (0), (-1)] = true)
    (v_STANDS : PySem.W.nsIn K mainGlobals "STANDS" = some (some (.int (2) t_STANDS)))
    (v_STEEPEST_RISE : PySem.W.nsIn K mainGlobals "STEEPEST_RISE" = some (some (.int (1000) t_STEEPEST_RISE)))
    (v_TAP : PySem.W.nsIn K mainGlobals "TAP" = some (some (.int (7) t_TAP)))
    (v_TOO_LITTLE_SUN : PySem.W.nsIn K mainGlobals "TOO_LITTLE_SUN" = some (some (.int (1) t_TOO_LITTLE_SUN)))
    (v_TOO_LONG_A_WAY : PySem.W.nsIn K mainGlobals "TOO_LONG_A_WAY" = some (some (.int (2) t_TOO_LONG_A_WAY)))
    (z_abs : PySem.W.nsIn K mainGlobals "abs" = some none)
    (z_all : PySem.W.nsIn K mainGlobals "all" = some none)
    (z_len : PySem.W.nsIn K mainGlobals "len" = some none)
    (z_max : PySem.W.nsIn K mainGlobals "max" = some none)
    (z_min : PySem.W.nsIn K mainGlobals "min" = some none)
    (z_range : PySem.W.nsIn K mainGlobals "range" = some none)
    (z_set : PySem.W.nsIn K mainGlobals "set" = some none)
    (z_sum : PySem.W.nsIn K mainGlobals "sum" = some none)
    : ∃ a : Ad, Md K mg a ∧ a.f_answers = fa ∧ ∀ (s : Shared) (us : List Value), us.length = (["calls"] : List Str).length → BindsTo s a.d_answers ⟨us, []⟩ ((["calls"] : List Str).zip us) := by
  have e := hfa.symm.trans (PySem.W.mg_of X G a_answers)
  cases e
  have F_within := fun_mk (st := s_within) l_within c_within k_within
  have F_in_order := fun_mk (st := s_in_order) l_in_order c_in_order k_in_order
  have F_Hour_init := fun_mk (st := s_Hour_init) l_Hour_init c_Hour_init k_Hour_init
  have F_Plant_init := fun_mk (st := s_Plant_init) l_Plant_init c_Plant_init k_Plant_init
  have F_Garden_init := fun_mk (st := s_Garden_init) l_Garden_init c_Garden_init k_Garden_init
  have F_Garden_lay_out := fun_mk (st := s_Garden_lay_out) l_Garden_lay_out c_Garden_lay_out k_Garden_lay_out
  have F_Garden_begins := fun_mk (st := s_Garden_begins) l_Garden_begins c_Garden_begins k_Garden_begins
  have F_Garden_level := fun_mk (st := s_Garden_level) l_Garden_level c_Garden_level k_Garden_level
  have F_Garden_stands := fun_mk (st := s_Garden_stands) l_Garden_stands c_Garden_stands k_Garden_stands
  have F_Garden_tell_of_place := fun_mk (st := s_Garden_tell_of_place) l_Garden_tell_of_place c_Garden_tell_of_place k_Garden_tell_of_place
  have F_Garden_hour := fun_mk (st := s_Garden_hour) l_Garden_hour c_Garden_hour k_Garden_hour
  have F_Garden_plant := fun_mk (st := s_Garden_plant) l_Garden_plant c_Garden_plant k_Garden_plant
  have F_Garden_like := fun_mk (st := s_Garden_like) l_Garden_like c_Garden_like k_Garden_like
  have F_Garden_dislike := fun_mk (st := s_Garden_dislike) l_Garden_dislike c_Garden_dislike k_Garden_dislike
  have F_Garden_tell_of_kinds := fun_mk (st := s_Garden_tell_of_kinds) l_Garden_tell_of_kinds c_Garden_tell_of_kinds k_Garden_tell_of_kinds
  have F_Garden_tap := fun_mk (st := s_Garden_tap) l_Garden_tap c_Garden_tap k_Garden_tap
  have F_Garden_liking := fun_mk (st := s_Garden_liking) l_Garden_liking c_Garden_liking k_Garden_liking
  have F_Garden_planted := fun_mk (st := s_Garden_planted) l_Garden_planted c_Garden_planted k_Garden_planted
  have F_Garden_steps := fun_mk (st := s_Garden_steps) l_Garden_steps c_Garden_steps k_Garden_steps
  have F_tops := fun_mk (st := s_tops) l_tops c_tops k_tops
  have F_places_towards_sun := fun_mk (st := s_places_towards_sun) l_places_towards_sun c_places_towards_sun k_places_towards_sun
  have F_in_sun := fun_mk (st := s_in_sun) l_in_sun c_in_sun k_in_sun
  have F_hours_in_sun := fun_mk (st := s_hours_in_sun) l_hours_in_sun c_hours_in_sun k_hours_in_sun
  have F_shortest_way := fun_mk (st := s_shortest_way) l_shortest_way c_shortest_way k_shortest_way
  have F_way_on := fun_mk (st := s_way_on) l_way_on c_way_on k_way_on
  have F_check := fun_mk (st := s_check) l_check c_check k_check
  have F_is_plan := fun_mk (st := s_is_plan) l_is_plan c_is_plan k_is_plan
  have F_has_places_of_its_own := fun_mk (st := s_has_places_of_its_own) l_has_places_of_its_own c_has_places_of_its_own k_has_places_of_its_own
  have F_first_shaded := fun_mk (st := s_first_shaded) l_first_shaded c_first_shaded k_first_shaded
  have F_plan_worth := fun_mk (st := s_plan_worth) l_plan_worth c_plan_worth k_plan_worth
  have F_best := fun_mk (st := s_best) l_best c_best k_best
  have F_all_plans := fun_mk (st := s_all_plans) l_all_plans c_all_plans k_all_plans
  have F_answers := fun_mk (st := s_answers) l_answers c_answers k_answers
  have F_answer_call := fun_mk (st := s_answer_call) l_answer_call c_answer_call k_answer_call
  have b_within := F_within.binds (ps := ["number", "least", "greatest"]) fun _ _ _ _ _ _ us hl => by obtain ⟨_, _, _, rfl⟩ := ex_3 us hl; exact rfl
  have b_in_order := F_in_order.binds (ps := ["kind", "other"]) fun _ _ _ _ _ _ us hl => by obtain ⟨_, _, rfl⟩ := ex_2 us hl; exact rfl
  have b_Hour_init := F_Hour_init.binds (ps := ["self", "whence", "rise"]) fun _ _ _ _ _ _ us hl => by obtain ⟨_, _, _, rfl⟩ := ex_3 us hl; exact rfl
  have b_Plant_init := F_Plant_init.binds (ps := ["self", "high", "needed_hours", "worth", "kind", "water"]) fun _ _ _ _ _ _ us hl => by obtain ⟨_, _, _, _, _, _, rfl⟩ := ex_6 us hl; exact rfl
  have b_Garden_init := F_Garden_init.binds (ps := ["self"]) fun _ _ _ _ _ _ us hl => by obtain ⟨_, rfl⟩ := ex_1 us hl; exact rfl
  have b_Garden_lay_out := F_Garden_lay_out.binds (ps := ["self", "rows", "columns", "can", "longest_way"]) fun _ _ _ _ _ _ us hl => by obtain ⟨_, _, _, _, _, rfl⟩ := ex_5 us hl; exact rfl
  have b_Garden_begins := F_Garden_begins.binds (ps := ["self", "rows", "columns", "can", "longest_way"]) fun _ _ _ _ _ _ us hl => by obtain ⟨_, _, _, _, _, rfl⟩ := ex_5 us hl; exact rfl
  have b_Garden_level := F_Garden_level.binds (ps := ["self", "place", "how_high"]) fun _ _ _ _ _ _ us hl => by obtain ⟨_, _, _, rfl⟩ := ex_3 us hl; exact rfl
  have b_Garden_stands := F_Garden_stands.binds (ps := ["self", "place", "how_high"]) fun _ _ _ _ _ _ us hl => by obtain ⟨_, _, _, rfl⟩ := ex_3 us hl; exact rfl
  have b_Garden_tell_of_place := F_Garden_tell_of_place.binds (ps := ["self", "told", "place", "how_high"]) fun _ _ _ _ _ _ us hl => by obtain ⟨_, _, _, _, rfl⟩ := ex_4 us hl; exact rfl
  have b_Garden_hour := F_Garden_hour.binds (ps := ["self", "whence", "rise"]) fun _ _ _ _ _ _ us hl => by obtain ⟨_, _, _, rfl⟩ := ex_3 us hl; exact rfl
  have b_Garden_plant := F_Garden_plant.binds (ps := ["self", "high", "needed_hours", "worth", "kind", "water"]) fun _ _ _ _ _ _ us hl => by obtain ⟨_, _, _, _, _, _, rfl⟩ := ex_6 us hl; exact rfl
  have b_Garden_like := F_Garden_like.binds (ps := ["self", "kind", "other", "much"]) fun _ _ _ _ _ _ us hl => by obtain ⟨_, _, _, _, rfl⟩ := ex_4 us hl; exact rfl
  have b_Garden_dislike := F_Garden_dislike.binds (ps := ["self", "kind", "other", "much"]) fun _ _ _ _ _ _ us hl => by obtain ⟨_, _, _, _, rfl⟩ := ex_4 us hl; exact rfl
  have b_Garden_tell_of_kinds := F_Garden_tell_of_kinds.binds (ps := ["self", "kind", "other", "much", "sign"]) fun _ _ _ _ _ _ us hl => by obtain ⟨_, _, _, _, _, rfl⟩ := ex_5 us hl; exact rfl
  have b_Garden_tap := F_Garden_tap.binds (ps := ["self", "place"]) fun _ _ _ _ _ _ us hl => by obtain ⟨_, _, rfl⟩ := ex_2 us hl; exact rfl
  have b_Garden_liking := F_Garden_liking.binds (ps := ["self", "kind", "other"]) fun _ _ _ _ _ _ us hl => by obtain ⟨_, _, _, rfl⟩ := ex_3 us hl; exact rfl
  have b_Garden_planted := F_Garden_planted.binds (ps := ["self", "plan"]) fun _ _ _ _ _ _ us hl => by obtain ⟨_, _, rfl⟩ := ex_2 us hl; exact rfl
  have b_Garden_steps := F_Garden_steps.binds (ps := ["self", "place", "other"]) fun _ _ _ _ _ _ us hl => by obtain ⟨_, _, _, rfl⟩ := ex_3 us hl; exact rfl
  have b_tops := F_tops.binds (ps := ["garden", "plan"]) fun _ _ _ _ _ _ us hl => by obtain ⟨_, _, rfl⟩ := ex_2 us hl; exact rfl
  have b_places_towards_sun := F_places_towards_sun.binds (ps := ["garden", "place", "whence"]) fun _ _ _ _ _ _ us hl => by obtain ⟨_, _, _, rfl⟩ := ex_3 us hl; exact rfl
  have b_in_sun := F_in_sun.binds (ps := ["garden", "all_tops", "place", "hour"]) fun _ _ _ _ _ _ us hl => by obtain ⟨_, _, _, _, rfl⟩ := ex_4 us hl; exact rfl
  have b_hours_in_sun := F_hours_in_sun.binds (ps := ["garden", "all_tops", "place"]) fun _ _ _ _ _ _ us hl => by obtain ⟨_, _, _, rfl⟩ := ex_3 us hl; exact rfl
  have b_shortest_way := F_shortest_way.binds (ps := ["garden", "plan"]) fun _ _ _ _ _ _ us hl => by obtain ⟨_, _, rfl⟩ := ex_2 us hl; exact rfl
  have b_way_on := F_way_on.binds (ps := ["garden", "plan", "dry", "place", "in_can"]) fun _ _ _ _ _ _ us hl => by obtain ⟨_, _, _, _, _, rfl⟩ := ex_5 us hl; exact rfl
  have b_check := F_check.binds (ps := ["garden", "plan"]) fun _ _ _ _ _ _ us hl => by obtain ⟨_, _, rfl⟩ := ex_2 us hl; exact rfl
  have b_is_plan := F_is_plan.binds (ps := ["garden", "plan"]) fun _ _ _ _ _ _ us hl => by obtain ⟨_, _, rfl⟩ := ex_2 us hl; exact rfl
  have b_has_places_of_its_own := F_has_places_of_its_own.binds (ps := ["garden", "plan"]) fun _ _ _ _ _ _ us hl => by obtain ⟨_, _, rfl⟩ := ex_2 us hl; exact rfl
  have b_first_shaded := F_first_shaded.binds (ps := ["garden", "plan"]) fun _ _ _ _ _ _ us hl => by obtain ⟨_, _, rfl⟩ := ex_2 us hl; exact rfl
  have b_plan_worth := F_plan_worth.binds (ps := ["garden", "plan"]) fun _ _ _ _ _ _ us hl => by obtain ⟨_, _, rfl⟩ := ex_2 us hl; exact rfl
  have b_best := F_best.binds (ps := ["garden"]) fun _ _ _ _ _ _ us hl => by obtain ⟨_, rfl⟩ := ex_1 us hl; exact rfl
  have b_all_plans := F_all_plans.binds (ps := ["garden"]) fun _ _ _ _ _ _ us hl => by obtain ⟨_, rfl⟩ := ex_1 us hl; exact rfl
  have b_answers := F_answers.binds (ps := ["calls"]) fun _ _ _ _ _ _ us hl => by obtain ⟨_, rfl⟩ := ex_1 us hl; exact rfl
  have b_answer_call := F_answer_call.binds (ps := ["garden", "call", "numbers"]) fun _ _ _ _ _ _ us hl => by obtain ⟨_, _, _, rfl⟩ := ex_3 us hl; exact rfl
  refine ⟨⟨C_Hour, C_Plant, C_Garden, f_within, (PySem.W.fnOf "within" "within" (defArgs s_within) (defBody s_within) (defScope s_within) .none kV_within dc_within pm_within an_within cd_within ct_within), f_in_order, (PySem.W.fnOf "in_order" "in_order" (defArgs s_in_order) (defBody s_in_order) (defScope s_in_order) .none kV_in_order dc_in_order pm_in_order an_in_order cd_in_order ct_in_order), f_Hour_init, (PySem.W.fnOf "__init__" "Hour.__init__" (defArgs s_Hour_init) (defBody s_Hour_init) (defScope s_Hour_init) .none kV_Hour_init dc_Hour_init pm_Hour_init an_Hour_init cd_Hour_init ct_Hour_init), f_Plant_init, (PySem.W.fnOf "__init__" "Plant.__init__" (defArgs s_Plant_init) (defBody s_Plant_init) (defScope s_Plant_init) .none kV_Plant_init dc_Plant_init pm_Plant_init an_Plant_init cd_Plant_init ct_Plant_init), f_Garden_init, (PySem.W.fnOf "__init__" "Garden.__init__" (defArgs s_Garden_init) (defBody s_Garden_init) (defScope s_Garden_init) .none kV_Garden_init dc_Garden_init pm_Garden_init an_Garden_init cd_Garden_init ct_Garden_init), f_Garden_lay_out, (PySem.W.fnOf "lay_out" "Garden.lay_out" (defArgs s_Garden_lay_out) (defBody s_Garden_lay_out) (defScope s_Garden_lay_out) .none kV_Garden_lay_out dc_Garden_lay_out pm_Garden_lay_out an_Garden_lay_out cd_Garden_lay_out ct_Garden_lay_out), f_Garden_begins, (PySem.W.fnOf "begins" "Garden.begins" (defArgs s_Garden_begins) (defBody s_Garden_begins) (defScope s_Garden_begins) .none kV_Garden_begins dc_Garden_begins pm_Garden_begins an_Garden_begins cd_Garden_begins ct_Garden_begins), f_Garden_level, (PySem.W.fnOf "level" "Garden.level" (defArgs s_Garden_level) (defBody s_Garden_level) (defScope s_Garden_level) .none kV_Garden_level dc_Garden_level pm_Garden_level an_Garden_level cd_Garden_level ct_Garden_level), f_Garden_stands, (PySem.W.fnOf "stands" "Garden.stands" (defArgs s_Garden_stands) (defBody s_Garden_stands) (defScope s_Garden_stands) .none kV_Garden_stands dc_Garden_stands pm_Garden_stands an_Garden_stands cd_Garden_stands ct_Garden_stands), f_Garden_tell_of_place, (PySem.W.fnOf "tell_of_place" "Garden.tell_of_place" (defArgs s_Garden_tell_of_place) (defBody s_Garden_tell_of_place) (defScope s_Garden_tell_of_place) .none kV_Garden_tell_of_place dc_Garden_tell_of_place pm_Garden_tell_of_place an_Garden_tell_of_place cd_Garden_tell_of_place ct_Garden_tell_of_place), f_Garden_hour, (PySem.W.fnOf "hour" "Garden.hour" (defArgs s_Garden_hour) (defBody s_Garden_hour) (defScope s_Garden_hour) .none kV_Garden_hour dc_Garden_hour pm_Garden_hour an_Garden_hour cd_Garden_hour ct_Garden_hour), f_Garden_plant, (PySem.W.fnOf "plant" "Garden.plant" (defArgs s_Garden_plant) (defBody s_Garden_plant) (defScope s_Garden_plant) .none kV_Garden_plant dc_Garden_plant pm_Garden_plant an_Garden_plant cd_Garden_plant ct_Garden_plant), f_Garden_like, (PySem.W.fnOf "like" "Garden.like" (defArgs s_Garden_like) (defBody s_Garden_like) (defScope s_Garden_like) .none kV_Garden_like dc_Garden_like pm_Garden_like an_Garden_like cd_Garden_like ct_Garden_like), f_Garden_dislike, (PySem.W.fnOf "dislike" "Garden.dislike" (defArgs s_Garden_dislike) (defBody s_Garden_dislike) (defScope s_Garden_dislike) .none kV_Garden_dislike dc_Garden_dislike pm_Garden_dislike an_Garden_dislike cd_Garden_dislike ct_Garden_dislike), f_Garden_tell_of_kinds, (PySem.W.fnOf "tell_of_kinds" "Garden.tell_of_kinds" (defArgs s_Garden_tell_of_kinds) (defBody s_Garden_tell_of_kinds) (defScope s_Garden_tell_of_kinds) .none kV_Garden_tell_of_kinds dc_Garden_tell_of_kinds pm_Garden_tell_of_kinds an_Garden_tell_of_kinds cd_Garden_tell_of_kinds ct_Garden_tell_of_kinds), f_Garden_tap, (PySem.W.fnOf "tap" "Garden.tap" (defArgs s_Garden_tap) (defBody s_Garden_tap) (defScope s_Garden_tap) .none kV_Garden_tap dc_Garden_tap pm_Garden_tap an_Garden_tap cd_Garden_tap ct_Garden_tap), f_Garden_liking, (PySem.W.fnOf "liking" "Garden.liking" (defArgs s_Garden_liking) (defBody s_Garden_liking) (defScope s_Garden_liking) .none kV_Garden_liking dc_Garden_liking pm_Garden_liking an_Garden_liking cd_Garden_liking ct_Garden_liking), f_Garden_planted, (PySem.W.fnOf "planted" "Garden.planted" (defArgs s_Garden_planted) (defBody s_Garden_planted) (defScope s_Garden_planted) .none kV_Garden_planted dc_Garden_planted pm_Garden_planted an_Garden_planted cd_Garden_planted ct_Garden_planted), f_Garden_steps, (PySem.W.fnOf "steps" "Garden.steps" (defArgs s_Garden_steps) (defBody s_Garden_steps) (defScope s_Garden_steps) .none kV_Garden_steps dc_Garden_steps pm_Garden_steps an_Garden_steps cd_Garden_steps ct_Garden_steps), f_tops, (PySem.W.fnOf "tops" "tops" (defArgs s_tops) (defBody s_tops) (defScope s_tops) .none kV_tops dc_tops pm_tops an_tops cd_tops ct_tops), f_places_towards_sun, (PySem.W.fnOf "places_towards_sun" "places_towards_sun" (defArgs s_places_towards_sun) (defBody s_places_towards_sun) (defScope s_places_towards_sun) .none kV_places_towards_sun dc_places_towards_sun pm_places_towards_sun an_places_towards_sun cd_places_towards_sun ct_places_towards_sun), f_in_sun, (PySem.W.fnOf "in_sun" "in_sun" (defArgs s_in_sun) (defBody s_in_sun) (defScope s_in_sun) .none kV_in_sun dc_in_sun pm_in_sun an_in_sun cd_in_sun ct_in_sun), f_hours_in_sun, (PySem.W.fnOf "hours_in_sun" "hours_in_sun" (defArgs s_hours_in_sun) (defBody s_hours_in_sun) (defScope s_hours_in_sun) .none kV_hours_in_sun dc_hours_in_sun pm_hours_in_sun an_hours_in_sun cd_hours_in_sun ct_hours_in_sun), f_shortest_way, (PySem.W.fnOf "shortest_way" "shortest_way" (defArgs s_shortest_way) (defBody s_shortest_way) (defScope s_shortest_way) .none kV_shortest_way dc_shortest_way pm_shortest_way an_shortest_way cd_shortest_way ct_shortest_way), f_way_on, (PySem.W.fnOf "way_on" "way_on" (defArgs s_way_on) (defBody s_way_on) (defScope s_way_on) .none kV_way_on dc_way_on pm_way_on an_way_on cd_way_on ct_way_on), f_check, (PySem.W.fnOf "check" "check" (defArgs s_check) (defBody s_check) (defScope s_check) .none kV_check dc_check pm_check an_check cd_check ct_check), f_is_plan, (PySem.W.fnOf "is_plan" "is_plan" (defArgs s_is_plan) (defBody s_is_plan) (defScope s_is_plan) .none kV_is_plan dc_is_plan pm_is_plan an_is_plan cd_is_plan ct_is_plan), f_has_places_of_its_own, (PySem.W.fnOf "has_places_of_its_own" "has_places_of_its_own" (defArgs s_has_places_of_its_own) (defBody s_has_places_of_its_own) (defScope s_has_places_of_its_own) .none kV_has_places_of_its_own dc_has_places_of_its_own pm_has_places_of_its_own an_has_places_of_its_own cd_has_places_of_its_own ct_has_places_of_its_own), f_first_shaded, (PySem.W.fnOf "first_shaded" "first_shaded" (defArgs s_first_shaded) (defBody s_first_shaded) (defScope s_first_shaded) .none kV_first_shaded dc_first_shaded pm_first_shaded an_first_shaded cd_first_shaded ct_first_shaded), f_plan_worth, (PySem.W.fnOf "plan_worth" "plan_worth" (defArgs s_plan_worth) (defBody s_plan_worth) (defScope s_plan_worth) .none kV_plan_worth dc_plan_worth pm_plan_worth an_plan_worth cd_plan_worth ct_plan_worth), f_best, (PySem.W.fnOf "best" "best" (defArgs s_best) (defBody s_best) (defScope s_best) .none kV_best dc_best pm_best an_best cd_best ct_best), f_all_plans, (PySem.W.fnOf "all_plans" "all_plans" (defArgs s_all_plans) (defBody s_all_plans) (defScope s_all_plans) .none kV_all_plans dc_all_plans pm_all_plans an_all_plans cd_all_plans ct_all_plans), fa, (PySem.W.fnOf "answers" "answers" (defArgs s_answers) (defBody s_answers) (defScope s_answers) .none kV_answers dc_answers pm_answers an_answers cd_answers ct_answers), f_answer_call, (PySem.W.fnOf "answer_call" "answer_call" (defArgs s_answer_call) (defBody s_answer_call) (defScope s_answer_call) .none kV_answer_call dc_answer_call pm_answer_call an_answer_call cd_answer_call ct_answer_call), o_ROW_STEPS, o_COLUMN_STEPS⟩, ?_, rfl, fun s us hl => by obtain ⟨_, rfl⟩ := ex_1 us hl; exact .of_eq rfl⟩
  exact ⟨PySem.W.mg_of X G aC_Hour, ⟨pg_Hour, hd_Hour, po_Hour, sa_Hour⟩, ⟨mk_Hour, a_Hour_init, i_Hour_init, kc_Hour⟩, nf_Hour_whence, nf_Hour_rise, PySem.W.mg_of X G aC_Plant, ⟨pg_Plant, hd_Plant, po_Plant, sa_Plant⟩, ⟨mk_Plant, a_Plant_init, i_Plant_init, kc_Plant⟩, nf_Plant_high, nf_Plant_needed_hours, nf_Plant_worth, nf_Plant_kind, nf_Plant_water, PySem.W.mg_of X G aC_Garden, ⟨pg_Garden, hd_Garden, po_Garden, sa_Garden⟩, ⟨mk_Garden, a_Garden_init, i_Garden_init, kc_Garden⟩, nf_Garden_rows, nf_Garden_columns, nf_Garden_places, nf_Garden_can, nf_Garden_longest_way, nf_Garden_tap_place, nf_Garden_levels, nf_Garden_heights, nf_Garden_hours, nf_Garden_plants, nf_Garden_likings, F_within, b_within, PySem.W.mg_of X G a_within, k_within, F_in_order, b_in_order, PySem.W.mg_of X G a_in_order, k_in_order, F_Hour_init, b_Hour_init, F_Plant_init, b_Plant_init, F_Garden_init, b_Garden_init, F_Garden_lay_out, b_Garden_lay_out, ⟨a_Garden_lay_out, i_Garden_lay_out, k_Garden_lay_out⟩, F_Garden_begins, b_Garden_begins, ⟨a_Garden_begins, i_Garden_begins, k_Garden_begins⟩, F_Garden_level, b_Garden_level, ⟨a_Garden_level, i_Garden_level, k_Garden_level⟩, F_Garden_stands, b_Garden_stands, ⟨a_Garden_stands, i_Garden_stands, k_Garden_stands⟩, F_Garden_tell_of_place, b_Garden_tell_of_place, ⟨a_Garden_tell_of_place, i_Garden_tell_of_place, k_Garden_tell_of_place⟩, F_Garden_hour, b_Garden_hour, ⟨a_Garden_hour, i_Garden_hour, k_Garden_hour⟩, F_Garden_plant, b_Garden_plant, ⟨a_Garden_plant, i_Garden_plant, k_Garden_plant⟩, F_Garden_like, b_Garden_like, ⟨a_Garden_like, i_Garden_like, k_Garden_like⟩, F_Garden_dislike, b_Garden_dislike, ⟨a_Garden_dislike, i_Garden_dislike, k_Garden_dislike⟩, F_Garden_tell_of_kinds, b_Garden_tell_of_kinds, ⟨a_Garden_tell_of_kinds, i_Garden_tell_of_kinds, k_Garden_tell_of_kinds⟩, F_Garden_tap, b_Garden_tap, ⟨a_Garden_tap, i_Garden_tap, k_Garden_tap⟩, F_Garden_liking, b_Garden_liking, ⟨a_Garden_liking, i_Garden_liking, k_Garden_liking⟩, F_Garden_planted, b_Garden_planted, ⟨a_Garden_planted, i_Garden_planted, k_Garden_planted⟩, F_Garden_steps, b_Garden_steps, ⟨a_Garden_steps, i_Garden_steps, k_Garden_steps⟩, F_tops, b_tops, PySem.W.mg_of X G a_tops, k_tops, F_places_towards_sun, b_places_towards_sun, PySem.W.mg_of X G a_places_towards_sun, k_places_towards_sun, F_in_sun, b_in_sun, PySem.W.mg_of X G a_in_sun, k_in_sun, F_hours_in_sun, b_hours_in_sun, PySem.W.mg_of X G a_hours_in_sun, k_hours_in_sun, F_shortest_way, b_shortest_way, PySem.W.mg_of X G a_shortest_way, k_shortest_way, F_way_on, b_way_on, PySem.W.mg_of X G a_way_on, k_way_on, F_check, b_check, PySem.W.mg_of X G a_check, k_check, F_is_plan, b_is_plan, PySem.W.mg_of X G a_is_plan, k_is_plan, F_has_places_of_its_own, b_has_places_of_its_own, PySem.W.mg_of X G a_has_places_of_its_own, k_has_places_of_its_own, F_first_shaded, b_first_shaded, PySem.W.mg_of X G a_first_shaded, k_first_shaded, F_plan_worth, b_plan_worth, PySem.W.mg_of X G a_plan_worth, k_plan_worth, F_best, b_best, PySem.W.mg_of X G a_best, k_best, F_all_plans, b_all_plans, PySem.W.mg_of X G a_all_plans, k_all_plans, F_answers, b_answers, PySem.W.mg_of X G a_answers, k_answers, F_answer_call, b_answer_call, PySem.W.mg_of X G a_answer_call, k_answer_call, ⟨t_BEGINS, PySem.W.mg_of X G v_BEGINS⟩, ⟨t_BEST, PySem.W.mg_of X G v_BEST⟩, ⟨t_CANNOT_BE, PySem.W.mg_of X G v_CANNOT_BE⟩, ⟨t_CHECK, PySem.W.mg_of X G v_CHECK⟩, PySem.W.mg_of X G v_COLUMN_STEPS, ⟨dd_COLUMN_STEPS, nn_COLUMN_STEPS, ss_COLUMN_STEPS, ll_COLUMN_STEPS, lk_COLUMN_STEPS, r_COLUMN_STEPS⟩, ⟨t_DISLIKE, PySem.W.mg_of X G v_DISLIKE⟩, ⟨t_HIGHEST, PySem.W.mg_of X G v_HIGHEST⟩, ⟨t_HOUR, PySem.W.mg_of X G v_HOUR⟩, ⟨t_LAST_KIND, PySem.W.mg_of X G v_LAST_KIND⟩, ⟨t_LAST_WHENCE, PySem.W.mg_of X G v_LAST_WHENCE⟩, ⟨t_LEVEL, PySem.W.mg_of X G v_LEVEL⟩, ⟨t_LIKE, PySem.W.mg_of X G v_LIKE⟩, ⟨t_LONGEST_WAY, PySem.W.mg_of X G v_LONGEST_WAY⟩, ⟨t_MOST_HOURS, PySem.W.mg_of X G v_MOST_HOURS⟩, ⟨t_MOST_IN_CAN, PySem.W.mg_of X G v_MOST_IN_CAN⟩, ⟨t_MOST_LIKED, PySem.W.mg_of X G v_MOST_LIKED⟩, ⟨t_MOST_PLACES, PySem.W.mg_of X G v_MOST_PLACES⟩, ⟨t_MOST_PLANTS, PySem.W.mg_of X G v_MOST_PLANTS⟩, ⟨t_MOST_WORTH, PySem.W.mg_of X G v_MOST_WORTH⟩, ⟨t_NOT_AS_TOLD, PySem.W.mg_of X G v_NOT_AS_TOLD⟩, ⟨t_NO_MORE, PySem.W.mg_of X G v_NO_MORE⟩, ⟨t_NO_PLACE_OF_ITS_OWN, PySem.W.mg_of X G v_NO_PLACE_OF_ITS_OWN⟩, ⟨t_NO_SUCH_PLACE, PySem.W.mg_of X G v_NO_SUCH_PLACE⟩, ⟨t_PLANT, PySem.W.mg_of X G v_PLANT⟩, PySem.W.mg_of X G v_ROW_STEPS, ⟨dd_ROW_STEPS, nn_ROW_STEPS, ss_ROW_STEPS, ll_ROW_STEPS, lk_ROW_STEPS, r_ROW_STEPS⟩, ⟨t_STANDS, PySem.W.mg_of X G v_STANDS⟩, ⟨t_STEEPEST_RISE, PySem.W.mg_of X G v_STEEPEST_RISE⟩, ⟨t_TAP, PySem.W.mg_of X G v_TAP⟩, ⟨t_TOO_LITTLE_SUN, PySem.W.mg_of X G v_TOO_LITTLE_SUN⟩, ⟨t_TOO_LONG_A_WAY, PySem.W.mg_of X G v_TOO_LONG_A_WAY⟩, PySem.W.mg_none_of X G z_abs, PySem.W.mg_none_of X G z_all, PySem.W.mg_none_of X G z_len, PySem.W.mg_none_of X G z_max, PySem.W.mg_none_of X G z_min, PySem.W.mg_none_of X G z_range, PySem.W.mg_none_of X G z_set, PySem.W.mg_none_of X G z_sum⟩
end Sb

set_option Elab.async false
namespace Sb
open PySem PySem.Spec PyProof.Rows L2
theorem use_mk {P : Program} {w : World} {K : PySem.W.Frag} {h : Heap} {mg : Str → Option Value} {fa : Addr} (X : K.In h) (G : h.Ns mainGlobals mg)
    (Z : ∃ a : Ad, Md K mg a ∧ a.f_answers = fa ∧ ∀ (s : Shared) (us : List Value), us.length = (["calls"] : List Str).length → BindsTo s a.d_answers ⟨us, []⟩ ((["calls"] : List Str).zip us)) :
    ∃ fd : FuncData, (∀ (s : Shared) (us : List Value), us.length = (["calls"] : List Str).length → BindsTo s fd ⟨us, []⟩ ((["calls"] : List Str).zip us)) ∧ ∀ base : Heap, K.In base → base.Ns mainGlobals mg → FnOk P w K mg base CX0 10 fa fd ["calls"] (spAns K) := by
  obtain ⟨a, M, rfl, hb⟩ := Z
  exact ⟨a.d_answers, hb, fun base _ _ => ok_answers M⟩
end Sb
open PySem PySem.W PyProof.Rows
set_option maxRecDepth 100000 in
set_option maxHeartbeats 0 in
theorem PySem.Challenge.cw_sunbeds_s01_answers_holds : PySem.Challenge.rw_sunbeds_s01_answers.Holds := by
  w_on; k_headS; (case hw => exact ⟨[.list [.int 9, .int 0, .int 0]], by decide +kernel, by decide +kernel⟩)
  k_fillS
  refine L2.walk_specK (r := PySem.Challenge.rw_sunbeds_s01_answers) (k := 10) (CX := L2.CX0) (ps := ["calls"]) (sp := Sb.spAns) (by decide +kernel) rfl rfl ⟨rfl, by decide, by decide⟩ (fun w h Y => PySem.W.kIn_of Y) ?F ?S (fun _ _ _ _ z => z)
  case F =>
    intro w mg fa h Y KX G hmg
    refine Sb.use_mk KX G ?Z
    refine' Sb.all_mk KX G hmg ?aC_Hour ?pg_Hour ?hd_Hour ?po_Hour ?sa_Hour ?mk_Hour ?kc_Hour ?nf_Hour_whence ?nf_Hour_rise ?aC_Plant ?pg_Plant ?hd_Plant ?po_Plant ?sa_Plant ?mk_Plant ?kc_Plant ?nf_Plant_high ?nf_Plant_needed_hours ?nf_Plant_worth ?nf_Plant_kind ?nf_Plant_water ?aC_Garden ?pg_Garden ?hd_Garden ?po_Garden ?sa_Garden ?mk_Garden ?kc_Garden ?nf_Garden_rows ?nf_Garden_columns ?nf_Garden_places ?nf_Garden_can ?nf_Garden_longest_way ?nf_Garden_tap_place ?nf_Garden_levels ?nf_Garden_heights ?nf_Garden_hours ?nf_Garden_plants ?nf_Garden_likings ?a_within ?l_within ?c_within ?k_within ?a_in_order ?l_in_order ?c_in_order ?k_in_order ?a_Hour_init ?i_Hour_init ?l_Hour_init ?c_Hour_init ?k_Hour_init ?a_Plant_init ?i_Plant_init ?l_Plant_init ?c_Plant_init ?k_Plant_init ?a_Garden_init ?i_Garden_init ?l_Garden_init ?c_Garden_init ?k_Garden_init ?a_Garden_lay_out ?i_Garden_lay_out ?l_Garden_lay_out ?c_Garden_lay_out ?k_Garden_lay_out ?a_Garden_begins ?i_Garden_begins ?l_Garden_begins ?c_Garden_begins ?k_Garden_begins ?a_Garden_level ?i_Garden_level ?l_Garden_level ?c_Garden_level ?k_Garden_level ?a_Garden_stands ?i_Garden_stands ?l_Garden_stands ?c_Garden_stands ?k_Garden_stands ?a_Garden_tell_of_place ?i_Garden_tell_of_place ?l_Garden_tell_of_place ?c_Garden_tell_of_place ?k_Garden_tell_of_place ?a_Garden_hour ?i_Garden_hour ?l_Garden_hour ?c_Garden_hour ?k_Garden_hour ?a_Garden_plant ?i_Garden_plant ?l_Garden_plant ?c_Garden_plant ?k_Garden_plant ?a_Garden_like ?i_Garden_like ?l_Garden_like ?c_Garden_like ?k_Garden_like ?a_Garden_dislike ?i_Garden_dislike ?l_Garden_dislike ?c_Garden_dislike ?k_Garden_dislike ?a_Garden_tell_of_kinds ?i_Garden_tell_of_kinds ?l_Garden_tell_of_kinds ?c_Garden_tell_of_kinds ?k_Garden_tell_of_kinds ?a_Garden_tap ?i_Garden_tap ?l_Garden_tap ?c_Garden_tap ?k_Garden_tap ?a_Garden_liking ?i_Garden_liking ?l_Garden_liking ?c_Garden_liking ?k_Garden_liking ?a_Garden_planted ?i_Garden_planted ?l_Garden_planted ?c_Garden_planted ?k_Garden_planted ?a_Garden_steps ?i_Garden_steps ?l_Garden_steps ?c_Garden_steps ?k_Garden_steps ?a_tops ?l_tops ?c_tops ?k_tops ?a_places_towards_sun ?l_places_towards_sun ?c_places_towards_sun ?k_places_towards_sun ?a_in_sun ?l_in_sun ?c_in_sun ?k_in_sun ?a_hours_in_sun ?l_hours_in_sun ?c_hours_in_sun ?k_hours_in_sun ?a_shortest_way ?l_shortest_way ?c_shortest_way ?k_shortest_way ?a_way_on ?l_way_on ?c_way_on ?k_way_on ?a_check ?l_check ?c_check ?k_check ?a_is_plan ?l_is_plan ?c_is_plan ?k_is_plan ?a_has_places_of_its_own ?l_has_places_of_its_own ?c_has_places_of_its_own ?k_has_places_of_its_own ?a_first_shaded ?l_first_shaded ?c_first_shaded ?k_first_shaded ?a_plan_worth ?l_plan_worth ?c_plan_worth ?k_plan_worth ?a_best ?l_best ?c_best ?k_best ?a_all_plans ?l_all_plans ?c_all_plans ?k_all_plans ?a_answers ?l_answers ?c_answers ?k_answers ?a_answer_call ?l_answer_call ?c_answer_call ?k_answer_call ?v_BEGINS ?v_BEST ?v_CANNOT_BE ?v_CHECK ?v_COLUMN_STEPS ?lk_COLUMN_STEPS ?r_COLUMN_STEPS ?v_DISLIKE ?v_HIGHEST ?v_HOUR ?v_LAST_KIND ?v_LAST_WHENCE ?v_LEVEL ?v_LIKE ?v_LONGEST_WAY ?v_MOST_HOURS ?v_MOST_IN_CAN ?v_MOST_LIKED ?v_MOST_PLACES ?v_MOST_PLANTS ?v_MOST_WORTH ?v_NOT_AS_TOLD ?v_NO_MORE ?v_NO_PLACE_OF_ITS_OWN ?v_NO_SUCH_PLACE ?v_PLANT ?v_ROW_STEPS ?lk_ROW_STEPS ?r_ROW_STEPS ?v_STANDS ?v_STEEPEST_RISE ?v_TAP ?v_TOO_LITTLE_SUN ?v_TOO_LONG_A_WAY ?z_abs ?z_all ?z_len ?z_max ?z_min ?z_range ?z_set ?z_sum
    (case aC_Hour => k_is)
    (case pg_Hour => k_is)
    (case hd_Hour => k_is)
    (case po_Hour => k_is)
    (case sa_Hour => k_is)
    (case mk_Hour => k_is)
    (case kc_Hour => k_is)
    (case nf_Hour_whence => k_is)
    (case nf_Hour_rise => k_is)
    (case aC_Plant => k_is)
    (case pg_Plant => k_is)
    (case hd_Plant => k_is)
    (case po_Plant => k_is)
    (case sa_Plant => k_is)
    (case mk_Plant => k_is)
    (case kc_Plant => k_is)
    (case nf_Plant_high => k_is)
    (case nf_Plant_needed_hours => k_is)
    (case nf_Plant_worth => k_is)
    (case nf_Plant_kind => k_is)
    (case nf_Plant_water => k_is)
    (case aC_Garden => k_is)
    (case pg_Garden => k_is)
    (case hd_Garden => k_is)
    (case po_Garden => k_is)
    (case sa_Garden => k_is)
    (case mk_Garden => k_is)
    (case kc_Garden => k_is)
    (case nf_Garden_rows => k_is)
    (case nf_Garden_columns => k_is)
    (case nf_Garden_places => k_is)
    (case nf_Garden_can => k_is)
    (case nf_Garden_longest_way => k_is)
    (case nf_Garden_tap_place => k_is)
    (case nf_Garden_levels => k_is)
    (case nf_Garden_heights => k_is)
    (case nf_Garden_hours => k_is)
    (case nf_Garden_plants => k_is)
    (case nf_Garden_likings => k_is)
    (case a_within => k_is)
    (case l_within => k_is)
    (case c_within => k_is)
    (case k_within => k_is)
    (case a_in_order => k_is)
    (case l_in_order => k_is)
    (case c_in_order => k_is)
    (case k_in_order => k_is)
    (case a_Hour_init => k_is)
    (case i_Hour_init => k_is)
    (case l_Hour_init => k_is)
    (case c_Hour_init => k_is)
    (case k_Hour_init => k_is)
    (case a_Plant_init => k_is)
    (case i_Plant_init => k_is)
    (case l_Plant_init => k_is)
    (case c_Plant_init => k_is)
    (case k_Plant_init => k_is)
    (case a_Garden_init => k_is)
    (case i_Garden_init => k_is)
    (case l_Garden_init => k_is)
    (case c_Garden_init => k_is)
    (case k_Garden_init => k_is)
    (case a_Garden_lay_out => k_is)
    (case i_Garden_lay_out => k_is)
    (case l_Garden_lay_out => k_is)
    (case c_Garden_lay_out => k_is)
    (case k_Garden_lay_out => k_is)
    (case a_Garden_begins => k_is)
    (case i_Garden_begins => k_is)
    (case l_Garden_begins => k_is)
    (case c_Garden_begins => k_is)
    (case k_Garden_begins => k_is)
    (case a_Garden_level => k_is)
    (case i_Garden_level => k_is)
    (case l_Garden_level => k_is)
    (case c_Garden_level => k_is)
    (case k_Garden_level => k_is)
    (case a_Garden_stands => k_is)
    (case i_Garden_stands => k_is)
    (case l_Garden_stands => k_is)
    (case c_Garden_stands => k_is)
    (case k_Garden_stands => k_is)
    (case a_Garden_tell_of_place => k_is)
    (case i_Garden_tell_of_place => k_is)
    (case l_Garden_tell_of_place => k_is)
    (case c_Garden_tell_of_place => k_is)
    (case k_Garden_tell_of_place => k_is)
    (case a_Garden_hour => k_is)
    (case i_Garden_hour => k_is)
    (case l_Garden_hour => k_is)
    (case c_Garden_hour => k_is)
    (case k_Garden_hour => k_is)
    (case a_Garden_plant => k_is)
    (case i_Garden_plant => k_is)
    (case l_Garden_plant => k_is)
    (case c_Garden_plant => k_is)
    (case k_Garden_plant => k_is)
    (case a_Garden_like => k_is)
    (case i_Garden_like => k_is)
    (case l_Garden_like => k_is)
    (case c_Garden_like => k_is)
    (case k_Garden_like => k_is)
    (case a_Garden_dislike => k_is)
    (case i_Garden_dislike => k_is)
    (case l_Garden_dislike => k_is)
    (case c_Garden_dislike => k_is)
    (case k_Garden_dislike => k_is)
    (case a_Garden_tell_of_kinds => k_is)
    (case i_Garden_tell_of_kinds => k_is)
    (case l_Garden_tell_of_kinds => k_is)
    (case c_Garden_tell_of_kinds => k_is)
    (case k_Garden_tell_of_kinds => k_is)
    (case a_Garden_tap => k_is)
    (case i_Garden_tap => k_is)
    (case l_Garden_tap => k_is)
    (case c_Garden_tap => k_is)
    (case k_Garden_tap => k_is)
    (case a_Garden_liking => k_is)
    (case i_Garden_liking => k_is)
    (case l_Garden_liking => k_is)
    (case c_Garden_liking => k_is)
    (case k_Garden_liking => k_is)
    (case a_Garden_planted => k_is)
    (case i_Garden_planted => k_is)
    (case l_Garden_planted => k_is)
    (case c_Garden_planted => k_is)
    (case k_Garden_planted => k_is)
    (case a_Garden_steps => k_is)
    (case i_Garden_steps => k_is)
    (case l_Garden_steps => k_is)
    (case c_Garden_steps => k_is)
    (case k_Garden_steps => k_is)
    (case a_tops => k_is)
    (case l_tops => k_is)
    (case c_tops => k_is)
    (case k_tops => k_is)
    (case a_places_towards_sun => k_is)
    (case l_places_towards_sun => k_is)
    (case c_places_towards_sun => k_is)
    (case k_places_towards_sun => k_is)
    (case a_in_sun => k_is)
    (case l_in_sun => k_is)
    (case c_in_sun => k_is)
    (case k_in_sun => k_is)
    (case a_hours_in_sun => k_is)
    (case l_hours_in_sun => k_is)
    (case c_hours_in_sun => k_is)
    (case k_hours_in_sun => k_is)
    (case a_shortest_way => k_is)
    (case l_shortest_way => k_is)
    (case c_shortest_way => k_is)
    (case k_shortest_way => k_is)
    (case a_way_on => k_is)
    (case l_way_on => k_is)
    (case c_way_on => k_is)
    (case k_way_on => k_is)
    (case a_check => k_is)
    (case l_check => k_is)
    (case c_check => k_is)
    (case k_check => k_is)
    (case a_is_plan => k_is)
    (case l_is_plan => k_is)
    (case c_is_plan => k_is)
    (case k_is_plan => k_is)
    (case a_has_places_of_its_own => k_is)
    (case l_has_places_of_its_own => k_is)
    (case c_has_places_of_its_own => k_is)
    (case k_has_places_of_its_own => k_is)
    (case a_first_shaded => k_is)
    (case l_first_shaded => k_is)
    (case c_first_shaded => k_is)
    (case k_first_shaded => k_is)
    (case a_plan_worth => k_is)
    (case l_plan_worth => k_is)
    (case c_plan_worth => k_is)
    (case k_plan_worth => k_is)
    (case a_best => k_is)
    (case l_best => k_is)
    (case c_best => k_is)
    (case k_best => k_is)
    (case a_all_plans => k_is)
    (case l_all_plans => k_is)
    (case c_all_plans => k_is)
    (case k_all_plans => k_is)
    (case a_answers => k_is)
    (case l_answers => k_is)
    (case c_answers => k_is)
    (case k_answers => k_is)
    (case a_answer_call => k_is)
    (case l_answer_call => k_is)
    (case c_answer_call => k_is)
    (case k_answer_call => k_is)
    (case v_BEGINS => k_is)
    (case v_BEST => k_is)
    (case v_CANNOT_BE => k_is)
    (case v_CHECK => k_is)
    (case v_COLUMN_STEPS => k_is)
    (case lk_COLUMN_STEPS => k_is)
    (case r_COLUMN_STEPS => rfl)
    (case v_DISLIKE => k_is)
    (case v_HIGHEST => k_is)
    (case v_HOUR => k_is)
    (case v_LAST_KIND => k_is)
    (case v_LAST_WHENCE => k_is)
    (case v_LEVEL => k_is)
    (case v_LIKE => k_is)
    (case v_LONGEST_WAY => k_is)
    (case v_MOST_HOURS => k_is)
    (case v_MOST_IN_CAN => k_is)
    (case v_MOST_LIKED => k_is)
    (case v_MOST_PLACES => k_is)
    (case v_MOST_PLANTS => k_is)
    (case v_MOST_WORTH => k_is)
    (case v_NOT_AS_TOLD => k_is)
    (case v_NO_MORE => k_is)
    (case v_NO_PLACE_OF_ITS_OWN => k_is)
    (case v_NO_SUCH_PLACE => k_is)
    (case v_PLANT => k_is)
    (case v_ROW_STEPS => k_is)
    (case lk_ROW_STEPS => k_is)
    (case r_ROW_STEPS => rfl)
    (case v_STANDS => k_is)
    (case v_STEEPEST_RISE => k_is)
    (case v_TAP => k_is)
    (case v_TOO_LITTLE_SUN => k_is)
    (case v_TOO_LONG_A_WAY => k_is)
    (case z_abs => k_is)
    (case z_all => k_is)
    (case z_len => k_is)
    (case z_max => k_is)
    (case z_min => k_is)
    (case z_range => k_is)
    (case z_set => k_is)
    (case z_sum => k_is)
  case S =>
    intro K H xs a hO hwi hask hx
    cases hx with
    | cons h1 h2 =>
      cases h2
      cases h1 with
      | lst hs ha =>
        have e := L2.ints_dw a.1 _ ha
        subst e
        have q : ((Codec.inLen 0 1000 a.1 && a.1.all (Codec.inInt 0 4294967295)) && true) = true := hwi
        rw [Bool.and_eq_true, Bool.and_eq_true] at q
        exact ⟨_, a.1, rfl, hs, (Codec.inNat_iff.mp q.1.1).2, hask, fun H' p hp => .lst (L2.SqL.of hp) (L2.dw_ints _)⟩
#print axioms PySem.Challenge.cw_sunbeds_s01_answers_holds

