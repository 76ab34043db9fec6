import PyProof.Rows.All
import Wide.All
import OpenK.AllK
import Wide.FinOn
import PyProof.EqAt
import PyProof.EqKinds
import PyProof.TupleCall
import KE.BitLaws
import Open.SpecLaws
import KE.OsHead
import KE.OsGo
import KE.KDictList
import KE.KRevIter
import PyWideLaws
import PySem.Challenge.RW_waysask_s01_answers
-- CHANGE: your row's module here, as the last of these rows
set_option Elab.async false
set_option linter.all false
set_option maxRecDepth 100000
/-! THE HAND LAYER, for ints, bools, texts, own classes, lists, tuples, dicts, comprehensions, walks over dicts, enumerate, zip, reversed, texts, calls, loops. Paste it whole ahead of your own text; what your proof does not reach may be deleted. -/
namespace L2
open PySem PySem.Spec PyProof.Rows

/-- a key: an int or a str -/
abbrev Key := Sum Int Str
def keyIs : Key → Value → Bool
  | .inl k, v => Value.isInt k v
  | .inr x, v => Value.isStrOf x v
def keyH (w : World) : Key → Int
  | .inl k => hashInt k
  | .inr x => hashStr w x
theorem keyIs_shape : ∀ {k : Key} {v : Value}, keyIs k v = true → (∃ i t, k = Sum.inl i ∧ v = Value.int i t) ∨ (∃ x t, k = Sum.inr x ∧ v = Value.str x t)
  | .inl i, v, h => by
    obtain ⟨t, e⟩ := Value.isInt_shape (k := i) (v := v) h
    exact .inl ⟨i, t, rfl, e⟩
  | .inr x, v, h => by
    obtain ⟨t, e⟩ := Value.isStrOf_shape (x := x) (v := v) h
    exact .inr ⟨x, t, rfl, e⟩
theorem keyIs_int (i : Int) (t : Tok) : keyIs (.inl i) (.int i t) = true := by simp [keyIs, Value.isInt]
theorem keyIs_str (x : Str) (t : Tok) : keyIs (.inr x) (.str x t) = true := by simp [keyIs, Value.isStrOf]
theorem key_ll (a b : Int) : decide ((Sum.inl a : Key) = Sum.inl b) = (a == b) := by
  by_cases e : a = b
  · subst e; simp
  · have h : ¬ (Sum.inl a : Key) = Sum.inl b := fun q => e (Sum.inl.inj q)
    rw [decide_eq_false h]
    exact (beq_eq_false_iff_ne.mpr e).symm
theorem key_rr (a b : Str) : decide ((Sum.inr a : Key) = Sum.inr b) = decide (a = b) := by
  by_cases e : a = b
  · subst e; simp
  · have h : ¬ (Sum.inr a : Key) = Sum.inr b := fun q => e (Sum.inr.inj q)
    rw [decide_eq_false h, decide_eq_false e]
theorem key_lr (a : Int) (b : Str) : decide ((Sum.inl a : Key) = Sum.inr b) = false := decide_eq_false (fun q => nomatch q)
theorem key_rl (a : Str) (b : Int) : decide ((Sum.inr a : Key) = Sum.inl b) = false := decide_eq_false (fun q => nomatch q)

def mixKind (prog : Program) (w : World) : PySem.KeyKind prog w Key where
  is := keyIs
  hash := keyH w
  inj := fun v a b ha hb => by
    rcases keyIs_shape ha with ⟨i, t, rfl, rfl⟩ | ⟨x, t, rfl, rfl⟩
    · rcases keyIs_shape hb with ⟨j, u, rfl, e⟩ | ⟨y, u, rfl, e⟩
      · injection e with e1 _; rw [e1]
      · exact nomatch e
    · rcases keyIs_shape hb with ⟨j, u, rfl, e⟩ | ⟨y, u, rfl, e⟩
      · exact nomatch e
      · injection e with e1 _; rw [e1]
  byValue := fun k v h => by
    rcases keyIs_shape h with ⟨i, t, rfl, rfl⟩ | ⟨x, t, rfl, rfl⟩ <;> rfl
  pyHash := fun hv h => by
    rcases keyIs_shape hv with ⟨i, t, rfl, rfl⟩ | ⟨x, t, rfl, rfl⟩
    · exact wpAny_pyHash_int h
    · exact wpAny_pyHash_str h
  eqBool := fun hu hv h => by
    rcases keyIs_shape hu with ⟨i, t, rfl, rfl⟩ | ⟨x, t, rfl, rfl⟩
    · rcases keyIs_shape hv with ⟨j, u, rfl, rfl⟩ | ⟨y, u, rfl, rfl⟩
      · rw [key_ll] at h; exact wpAny_eqBool_int h
      · rw [key_lr] at h; exact SeqAt.EqAt.int_str i t y u _ _ _ _ h
    · rcases keyIs_shape hv with ⟨j, u, rfl, rfl⟩ | ⟨y, u, rfl, rfl⟩
      · rw [key_rl] at h; exact SeqAt.EqAt.str_int x t j u _ _ _ _ h
      · rw [key_rr] at h; exact wpAny_eqBool_str h
  «strs» := fun k x t v h => by
    rcases keyIs_shape h with ⟨i, u, rfl, e⟩ | ⟨y, u, rfl, e⟩
    · exact nomatch e
    · injection e with e1 _
      subst e1
      cases v <;> rfl

theorem mixKind_is (prog : Program) (w : World) (k : Key) (v : Value) : (mixKind prog w).is k v = keyIs k v := rfl
theorem mixKind_int (prog : Program) (w : World) (i : Int) (t : Tok) : (mixKind prog w).is (.inl i) (.int i t) = true := keyIs_int i t
theorem mixKind_str (prog : Program) (w : World) (x : Str) (t : Tok) : (mixKind prog w).is (.inr x) (.str x t) = true := keyIs_str x t
end L2

namespace L2
open PySem PySem.Spec PyProof.Rows

/-- a value, without the heap -/
inductive V where
  | non | bl (b : Bool) | int (i : Int) | str (x : Str) | byt (b : Array UInt8) | flt (b : UInt64) | ref (a : Addr) | ty (n : String)
  deriving DecidableEq

def RelV : V → Value → Prop
  | .non, u => u = Value.none
  | .bl b, u => u = Value.bool b
  | .int i, u => ∃ t, u = Value.int i t
  | .str x, u => ∃ t, u = Value.str x t
  | .byt b, u => ∃ t, u = Value.bytes b t
  | .flt b, u => ∃ t, u = Value.float b t
  | .ref a, u => u = Value.ref a
  | .ty n, u => u = Value.type n

abbrev Vals : List V → List Value → Prop := Paired RelV
theorem Vals.length {xs : List V} {us : List Value} (r : Vals xs us) : xs.length = us.length := Paired.length r
theorem Vals.get : ∀ {xs : List V} {us : List Value} {i : Nat} {x : V}, Vals xs us → xs[i]? = some x → ∃ u, us[i]? = some u ∧ RelV x u
  | _, _, _, _, .nil, e => by simp at e
  | _, _, 0, _, .cons r _, e => by simp at e; subst e; exact ⟨_, rfl, r⟩
  | _, _, i + 1, x, .cons _ t, e => by
    obtain ⟨u, h1, h2⟩ := Vals.get (i := i) (x := x) t (by simpa using e)
    exact ⟨u, by simpa using h1, h2⟩
theorem Vals.set {x : V} {u : Value} (r : RelV x u) : ∀ {xs : List V} {us : List Value} (i : Nat), Vals xs us → Vals (xs.set i x) (us.set i u)
  | _, _, _, .nil => .nil
  | _, _, 0, .cons _ t => .cons r t
  | _, _, i + 1, .cons q t => .cons q (Vals.set r i t)
theorem Vals.append : ∀ {xs ys : List V} {us ws : List Value}, Vals xs us → Vals ys ws → Vals (xs ++ ys) (us ++ ws)
  | _, _, _, _, .nil, s => s
  | _, _, _, _, .cons r t, s => .cons r (Vals.append t s)
theorem Vals.take : ∀ {xs : List V} {us : List Value} (n : Nat), Vals xs us → Vals (xs.take n) (us.take n)
  | _, _, 0, _ => .nil
  | _, _, _ + 1, .nil => .nil
  | _, _, n + 1, .cons r t => .cons r (Vals.take n t)
theorem Vals.drop : ∀ {xs : List V} {us : List Value} (n : Nat), Vals xs us → Vals (xs.drop n) (us.drop n)
  | _, _, 0, r => r
  | _, _, _ + 1, .nil => .nil
  | _, _, n + 1, .cons _ t => Vals.drop n t
theorem Vals.none_of : ∀ {xs : List V} {us : List Value} {i : Nat}, Vals xs us → xs[i]? = none → us[i]? = none := fun {xs us i} r e => by
  have h1 := r.length
  have h2 : xs.length ≤ i := List.getElem?_eq_none_iff.mp e
  exact List.getElem?_eq_none_iff.mpr (by omega)

def RelO : Option V → Option Value → Prop
  | some v, some u => RelV v u
  | none, none => True
  | _, _ => False
def KV {κ : Type} : List (κ × V) → List (κ × Value) → Prop := Paired fun (p : κ × V) (q : κ × Value) => p.1 = q.1 ∧ RelV p.2 q.2

/-- a key of a dict (00_mix): an int or a text -/
def kV : Key → V
  | .inl i => .int i
  | .inr x => .str x

/-- what stands at a tracked address -/
inductive HO where
  /-- a list -/
  | lst (xs : List V)
  /-- a tuple (never changes) -/
  | tup (xs : List V)
  /-- a dict whose keys are ints and texts; one whose keys are tuples of ints and texts (the empty one is both) -/
  | dK (kvs : List (Key × V)) | dT (kvs : List (List Key × V))
  /-- a set of ints: its members, its size -/
  | set (S : Int → Bool) (n : Nat)
  /-- an instance of the class at C, its dict at dx, its attributes -/
  | ins (C dx : Addr) (fs : List (Str × V))
  /-- the dict of the instance at x -/
  | own (x : Addr)
  /-- the dict of an exception -/
  | xd (fs : List (Str × V))
  /-- a bound method, f of x -/
  | met (f x : Addr)
  /-- a range object lo, lo + 1, .. below hi -/
  | rng (lo hi : Int)
  /-- a thing that is known to the object (the script; a dict while a loop walks it): read, never written while it is so -/
  | frz (o : Obj) (u : HO)
  /-- a code object's table -/
  | tbl (ps : Array Value)
  /-- any other thing, by what is true of its one object (a def of one's own: SetO a S n := HO.ext fun h => ..) -/
  | ext (φ : Heap → Prop)

abbrev Hp := Addr → Option HO
def upd (H : Hp) (a : Addr) (o : HO) : Hp := fun b => if b = a then some o else H b
theorem upd_same {H : Hp} {a : Addr} {o : HO} : upd H a o a = some o := by unfold upd; rw [if_pos rfl]
theorem upd_ne {H : Hp} {a b : Addr} {o : HO} (h : b ≠ a) : upd H a o b = H b := by unfold upd; rw [if_neg h]
theorem upd_upd {H : Hp} {a : Addr} {o u : HO} : upd (upd H a o) a u = upd H a u := by
  funext b; unfold upd; split <;> rfl
/-- two objects of different content stand apart -/
theorem ne_of {H : Hp} {a b : Addr} {o u : HO} (h : H a = some o) (h' : H b = some u) (d : o ≠ u) : a ≠ b := by
  intro e; subst e; rw [h] at h'; exact d (Option.some.inj h')
theorem ne_of_none {H : Hp} {a b : Addr} {o : HO} (h : H a = some o) (h' : H b = none) : a ≠ b := by
  intro e; subst e; rw [h] at h'; cases h'

section
variable (P : Program) (w : World)
def ObjOk (H : Hp) (h : Heap) (a : Addr) : HO → Prop
  | .lst xs => xs.length ≤ sizeLine ∧ ∃ (its : List Value) (n : Nat), Vals xs its ∧ h.get? a = some { cls := .type "list", data := .seq its.toArray n }
  | .tup xs => xs.length ≤ sizeLine ∧ ∃ its : List Value, Vals xs its ∧ IsTup h a its.toArray
  | .dK kvs => kvs.length ≤ sizeLine ∧ (a == sysModules) = false ∧ ∃ vs, KV kvs vs ∧ h.DictOf (mixKind P w) a vs
  | .dT kvs => kvs.length ≤ sizeLine ∧ (a == sysModules) = false ∧ ∃ xs : List (List Key × Addr × Value),
      Paired (fun (p : List Key × V) (q : List Key × Addr × Value) => p.1 = q.1 ∧ H q.2.1 = some (.tup (p.1.map kV)) ∧ RelV p.2 q.2.2) kvs xs ∧
      ∃ o es ep, h.get? a = some o ∧ o.ExactDict ∧ o.data = .dict es ep ∧ es.toList = xs.map (entryOfKey (tupleKind (mixKind P w))) ∧ (xs.map (·.1)).Nodup
  | .set S n => h.SetOf (intKind P w) a S n
  | .ins C dx fs => H dx = some (.own a) ∧ fs.length ≤ 1000 ∧ dx ≠ a ∧ h.get? a = some (PySem.W.instObj C dx) ∧
      ∃ mA, h.Ns1 dx mA ∧ (∀ f, RelO (fs.lookup f) (mA f)) ∧ PySem.Within mA (fs.map (·.1))
  | .own _ => ∃ o, h.get? a = some o
  | .xd fs => ∃ mA, h.Ns1 a mA ∧ ∀ f, RelO (fs.lookup f) (mA f)
  | .rng lo hi => ∃ t u v, h.get? a = some { cls := .type "range", data := .fields #[.int lo t, .int hi u, .int 1 v] }
  | .frz o u => h.get? a = some o ∧ ObjOk H h a u
  | .tbl ps => h.get? a = some { cls := .none, data := .fields ps }
  | .met f x => h.get? a = some (PySem.W.methodObj (.ref f) (.ref x))
  | .ext φ => φ h ∧ (∃ o, h.get? a = some o) ∧ ∀ h1 h2 : Heap, φ h1 → (∀ o, h1.get? a = some o → h2.get? a = some o) → φ h2
/-- the abstract heap is held -/
def HOk (H : Hp) (h : Heap) : Prop := ∀ a o, H a = some o → ObjOk P w H h a o
end

section
variable {P : Program} {w : World} {H H' : Hp} {h h' : Heap} {a : Addr} {o : HO}
theorem ObjOk.lt (x : ObjOk P w H h a o) : a < h.objs.size := by
  cases o with
  | lst xs => obtain ⟨_, _, _, _, e⟩ := x; exact Heap.lt_size e
  | tup xs => obtain ⟨_, _, _, p⟩ := x; exact p.lt
  | dK kvs => obtain ⟨_, _, _, _, o, _, _, e, _⟩ := x; exact Heap.lt_size e
  | dT kvs => obtain ⟨_, _, _, _, o, _, _, e, _⟩ := x; exact Heap.lt_size e
  | set S n => obtain ⟨o, _, _, _, e, _⟩ := x; exact Heap.lt_size e
  | ins C dx fs => obtain ⟨_, _, _, e, _⟩ := x; exact Heap.lt_size e
  | own y => obtain ⟨_, e⟩ := x; exact Heap.lt_size e
  | xd fs => obtain ⟨_, ⟨_, _, _, e, _⟩, _⟩ := x; exact Heap.lt_size e
  | rng lo hi => obtain ⟨_, _, _, e⟩ := x; exact Heap.lt_size e
  | frz ob u => obtain ⟨e, _⟩ := x; exact Heap.lt_size e
  | tbl ps => exact Heap.lt_size (show h.get? a = some _ from x)
  | met f y => exact Heap.lt_size (show h.get? a = some _ from x)
  | ext φ => obtain ⟨_, ⟨_, e⟩, _⟩ := x; exact Heap.lt_size e
theorem Paired.mapP {α β : Type} {F G : α → β → Prop} : ∀ {l₁ : List α} {l₂ : List β}, Paired F l₁ l₂ → (∀ a b, F a b → G a b) → Paired G l₁ l₂
  | _, _, .nil, _ => .nil
  | _, _, .cons r t, f => .cons (f _ _ r) (Paired.mapP t f)
theorem Paired.imp' {α β : Type} {F G : α → β → Prop} (f : ∀ a b, F a b → G a b) {l₁ : List α} {l₂ : List β} (r : Paired F l₁ l₂) : Paired G l₁ l₂ := Paired.mapP r f
/-- what an object's description leans on: its own object, its own dict, the tuples -/
theorem ObjOk.stay (x : ObjOk P w H h a o) (k : ∀ b u, (b = a ∨ H b = some (.own a)) → h.get? b = some u → h'.get? b = some u)
    (ho : ∀ b, H b = some (.own a) → H' b = some (.own a)) (ht : ∀ b xs, H b = some (.tup xs) → H' b = some (.tup xs)) : ObjOk P w H' h' a o := by
  induction o with
  | lst xs => obtain ⟨z, its, n, r, e⟩ := x; exact ⟨z, its, n, r, k _ _ (.inl rfl) e⟩
  | tup xs => obtain ⟨z, its, r, ob, e, c⟩ := x; exact ⟨z, its, r, ob, k _ _ (.inl rfl) e, c⟩
  | dK kvs => obtain ⟨z, y, vs, r, ob, es, ep, e, c⟩ := x; exact ⟨z, y, vs, r, ob, es, ep, k _ _ (.inl rfl) e, c⟩
  | dT kvs =>
    obtain ⟨z, y, xs, r, ob, es, ep, e, c⟩ := x
    exact ⟨z, y, xs, Paired.mapP r fun p q z => ⟨z.1, ht _ _ z.2.1, z.2.2⟩, ob, es, ep, k _ _ (.inl rfl) e, c⟩
  | set S n => obtain ⟨ob, es, ep, t, e, c⟩ := x; exact ⟨ob, es, ep, t, k _ _ (.inl rfl) e, c⟩
  | ins C dx fs =>
    obtain ⟨d, z, ne, e, mA, ⟨od, es, ep, e2, c⟩, r⟩ := x
    exact ⟨ho _ d, z, ne, k _ _ (.inl rfl) e, mA, ⟨od, es, ep, k _ _ (.inr d) e2, c⟩, r⟩
  | own y => obtain ⟨ob, e⟩ := x; exact ⟨ob, k _ _ (.inl rfl) e⟩
  | xd fs => obtain ⟨mA, ⟨od, es, ep, e, c⟩, r⟩ := x; exact ⟨mA, ⟨od, es, ep, k _ _ (.inl rfl) e, c⟩, r⟩
  | rng lo hi => obtain ⟨t, u, v, e⟩ := x; exact ⟨t, u, v, k _ _ (.inl rfl) e⟩
  | frz ob u ih => obtain ⟨e, q⟩ := x; exact ⟨k _ _ (.inl rfl) e, ih q⟩
  | tbl ps =>
    have e : h.get? a = some { cls := .none, data := .fields ps } := x
    show h'.get? a = some { cls := .none, data := .fields ps }
    exact k a _ (.inl rfl) e
  | met f y =>
    have e : h.get? a = some (PySem.W.methodObj (.ref f) (.ref y)) := x
    show h'.get? a = some (PySem.W.methodObj (.ref f) (.ref y))
    exact k a _ (.inl rfl) e
  | ext φ => obtain ⟨p, ⟨o, e⟩, st⟩ := x; exact ⟨st _ _ p fun o q => k _ _ (.inl rfl) q, ⟨o, k _ _ (.inl rfl) e⟩, st⟩
theorem HOk.lt (x : HOk P w H h) (e : H a = some o) : a < h.objs.size := (x a o e).lt
theorem HOk.fresh (x : HOk P w H h) (e : h.objs.size ≤ a) : H a = none := by
  cases q : H a with
  | none => rfl
  | some u => exact absurd (Nat.lt_of_lt_of_le (x.lt q) e) (Nat.lt_irrefl _)
/-- every object of the heap is kept -/
theorem HOk.kept (x : HOk P w H h) (k : ∀ b u, h.get? b = some u → h'.get? b = some u) : HOk P w H h' := fun a o e =>
  (x a o e).stay (fun b u _ q => k b u q) (fun _ q => q) fun _ _ q => q
/-- a new object is laid and tracked -/
theorem HOk.laid (x : HOk P w H h) (k : ∀ b u, h.get? b = some u → h'.get? b = some u) (hp : h.objs.size ≤ a) (new : ObjOk P w (upd H a o) h' a o) : HOk P w (upd H a o) h' := fun b u e => by
  have hn := x.fresh hp
  by_cases hb : b = a
  · subst hb; rw [upd_same] at e; cases e; exact new
  · rw [upd_ne hb] at e
    exact (x b u e).stay (fun c v _ q => k c v q) (fun c q => by rw [upd_ne (ne_of_none q hn)]; exact q) fun c xs q => by rw [upd_ne (ne_of_none q hn)]; exact q
end

/-- what may be read as u: it is u, or a known u -/
def Rd (H : Hp) (a : Addr) (u : HO) : Prop := H a = some u ∨ ∃ o, H a = some (.frz o u)
theorem Rd.of {H : Hp} {a : Addr} {u : HO} (h : H a = some u) : Rd H a u := .inl h
theorem Rd.ok {P : Program} {w : World} {H : Hp} {h : Heap} {a : Addr} {u : HO} (r : Rd H a u) (x : HOk P w H h) : ObjOk P w H h a u := by
  rcases r with r | ⟨o, r⟩
  · exact x a u r
  · obtain ⟨_, q⟩ := x a _ r
    exact q
/-- what may be written -/
def Mut : Option HO → Prop
  | some (.lst _) => True
  | some (.dK _) => True
  | some (.dT _) => True
  | some (.set _ _) => True
  | some (.ins _ _ _) => True
  | some (.ext _) => True
  | _ => False
section
variable {P : Program} {w : World} {H : Hp} {h h' : Heap} {x e : Addr} {o' : HO}
/-- the object at e is changed: x itself, or the dict of the instance x -/
theorem HOk.write (ok : HOk P w H h) (mu : Mut (H x)) (he : e = x ∨ H e = some (.own x)) (k : ∀ b u, b ≠ e → h.get? b = some u → h'.get? b = some u) (heo : ∃ u, h'.get? e = some u)
    (new : ObjOk P w (upd H x o') h' x o') : HOk P w (upd H x o') h' := fun b u q => by
  have nown : ∀ c y, H c = some (.own y) → c ≠ x := fun c y r z => by subst z; rw [r] at mu; exact mu
  have ntup : ∀ c xs, H c = some (.tup xs) → c ≠ x := fun c xs r z => by subst z; rw [r] at mu; exact mu
  by_cases hb : b = x
  · subst hb; rw [upd_same] at q; cases q; exact new
  · rw [upd_ne hb] at q
    by_cases hbe : b = e
    · have q' : H b = some (.own x) := by
        rcases he with z | z
        · exact absurd (hbe.trans z) hb
        · rw [hbe]; exact z
      rw [q] at q'; cases q'
      obtain ⟨v, hv⟩ := heo
      exact ⟨v, by rw [hbe]; exact hv⟩
    · refine (ok b u q).stay (fun c v hc r => k c v ?_ r) (fun c r => by rw [upd_ne (nown c b r)]; exact r) fun c xs r => by rw [upd_ne (ntup c xs r)]; exact r
      rcases hc with rfl | hc
      · exact hbe
      · rintro rfl
        rcases he with z | z
        · exact nown c b hc z
        · rw [hc] at z; cases z; exact hb rfl
end

/-! ### kept unless tracked; of the frames at fs (the callers') the slots may change (an exception that passes writes there); of the records at ex (iterators) nothing is said -/
structure Un (fs ex : List Addr) (H H' : Hp) (h h' : Heap) : Prop where
  keep : ∀ b o, h.get? b = some o → H b = none → b ∉ fs → b ∉ ex → h'.get? b = some o
  slot : ∀ b o, h.get? b = some o → H b = none → b ∈ fs → b ∉ ex → ∃ sl, h'.get? b = some { o with slots := sl }
  free : ∀ b o, h.get? b = some o → H b = none → b ∉ ex → H' b = none
  there : ∀ b o, h.get? b = some o → b ∉ ex → ∃ o', h'.get? b = some o'
  tups : ∀ b xs, H b = some (.tup xs) → H' b = some (.tup xs)
  frzs : ∀ b o u, H b = some (.frz o u) → H' b = some (.frz o u)
  tbls : ∀ b ps, H b = some (.tbl ps) → ∃ more, H' b = some (.tbl (ps ++ more))
section
variable {fs fs' ex ex' : List Addr} {H H1 H2 : Hp} {h h1 h2 h' : Heap} {a x e : Addr} {o : HO}
theorem Un.any (u : Un fs ex H H1 h h1) {b : Addr} {ob : Obj} (q : h.get? b = some ob) (n : H b = none) (hx : b ∉ ex) : ∃ sl, h1.get? b = some { ob with slots := sl } := by
  by_cases hb : b ∈ fs
  · exact u.slot b ob q n hb hx
  · exact ⟨ob.slots, u.keep b ob q n hb hx⟩
theorem Un.trans (a : Un fs ex H H1 h h1) (b : Un fs ex H1 H2 h1 h2) : Un fs ex H H2 h h2 where
  keep := fun c ob q n hc hx => b.keep c ob (a.keep c ob q n hc hx) (a.free c ob q n hx) hc hx
  slot := fun c ob q n hc hx => by
    obtain ⟨sl, e1⟩ := a.slot c ob q n hc hx
    obtain ⟨sl', e2⟩ := b.slot c _ e1 (a.free c ob q n hx) hc hx
    exact ⟨sl', e2⟩
  free := fun c ob q n hx => by
    obtain ⟨o', e1⟩ := a.there c ob q hx
    exact b.free c o' e1 (a.free c ob q n hx) hx
  there := fun c ob q hx => by
    obtain ⟨o', e1⟩ := a.there c ob q hx
    exact b.there c o' e1 hx
  tups := fun c xs q => b.tups c xs (a.tups c xs q)
  frzs := fun c ob xs q => b.frzs c ob xs (a.frzs c ob xs q)
  tbls := fun c ps q => by
    obtain ⟨m1, e1⟩ := a.tbls c ps q
    obtain ⟨m2, e2⟩ := b.tbls c _ e1
    exact ⟨m1 ++ m2, by rw [e2, Array.append_assoc]⟩
theorem Un.kept (k : ∀ b u, h.get? b = some u → h'.get? b = some u) : Un fs ex H H h h' :=
  ⟨fun b ob q _ _ _ => k b ob q, fun b ob q _ _ _ => ⟨ob.slots, k b ob q⟩, fun _ _ _ n _ => n, fun b ob q _ => ⟨ob, k b ob q⟩, fun _ _ q => q, fun _ _ _ q => q, fun _ ps q => ⟨#[], by rw [q]; simp⟩⟩
theorem Un.refl : Un fs ex H H h h := Un.kept fun _ _ q => q
theorem Un.laid (k : ∀ b u, h.get? b = some u → h'.get? b = some u) (hp : h.objs.size ≤ a) (hn : H a = none) : Un fs ex H (upd H a o) h h' where
  keep := fun b u q _ _ _ => k b u q
  slot := fun b u q _ _ _ => ⟨u.slots, k b u q⟩
  free := fun b u q n _ => by rw [upd_ne (Nat.ne_of_lt (Nat.lt_of_lt_of_le (Heap.lt_size q) hp))]; exact n
  there := fun b u q _ => ⟨u, k b u q⟩
  tups := fun b xs q => by rw [upd_ne (ne_of_none q hn)]; exact q
  frzs := fun b u xs q => by rw [upd_ne (ne_of_none q hn)]; exact q
  tbls := fun b ps q => ⟨#[], by rw [upd_ne (ne_of_none q hn), q]; simp⟩
theorem Un.write (mu : Mut (H x)) (he : e = x ∨ H e = some (.own x)) (k : ∀ b u, b ≠ e → h.get? b = some u → h'.get? b = some u) (heo : ∃ u, h'.get? e = some u) : Un fs ex H (upd H x o) h h' := by
  have hx : ∀ b, H b = none → b ≠ x := fun b n z => by subst z; rw [n] at mu; exact mu
  have hb : ∀ b, H b = none → b ≠ e := fun b n z => by
    subst z
    rcases he with r | r
    · exact hx b n r
    · rw [n] at r; cases r
  have hm : ∀ b u, H b = some u → ¬ Mut (some u) → b ≠ x := fun b u q nm z => by subst z; rw [q] at mu; exact nm mu
  refine ⟨fun b u q n _ _ => k b u (hb b n) q, fun b u q n _ _ => ⟨u.slots, k b u (hb b n) q⟩, fun b u q n _ => by rw [upd_ne (hx b n)]; exact n, fun b u q _ => ?_,
    fun b xs q => by rw [upd_ne (hm b _ q fun z => z)]; exact q, fun b u xs q => by rw [upd_ne (hm b _ q fun z => z)]; exact q, fun b ps q => ⟨#[], by rw [upd_ne (hm b _ q fun z => z), q]; simp⟩⟩
  by_cases hbe : b = e
  · subst hbe; exact heo
  · exact ⟨u, k b u hbe q⟩
theorem Un.mono (u : Un fs ex H H1 h h1) (hs : ∀ b ∈ fs, b ∈ fs') (hx : ∀ b ∈ ex, b ∈ ex') : Un fs' ex' H H1 h h1 :=
  ⟨fun b ob q n hb he => u.keep b ob q n (fun z => hb (hs b z)) fun z => he (hx b z), fun _ _ q n _ he => u.any q n fun z => he (hx _ z), fun b ob q n he => u.free b ob q n fun z => he (hx b z), fun b ob q he => u.there b ob q fun z => he (hx b z), u.tups, u.frzs, u.tbls⟩
end

/-! ### the heap without what is tracked -/
def trk (h : Heap) (H : Hp) : List Addr := (List.range h.objs.size).filter fun a => (H a).isSome
def hidT (h : Heap) (H : Hp) : Heap := PySem.W.hideAll h (trk h H)
theorem hidT_size (h : Heap) (H : Hp) : (hidT h H).objs.size = h.objs.size := PySem.W.hideAll_size _ _
theorem hidT_get {h : Heap} {H : Hp} {b : Addr} {o : Obj} (e : h.get? b = some o) (n : H b = none) : (hidT h H).get? b = some o :=
  PySem.W.hideAll_get _ e fun hm => by
    have q : (H b).isSome = true := (List.mem_filter.mp hm).2
    rw [n] at q; simp at q
theorem of_hidT {h : Heap} {H : Hp} {b : Addr} {o : Obj} (e : (hidT h H).get? b = some o) : h.get? b = some o ∧ H b = none := by
  have e' : h.get? b = some o := PySem.W.of_hideAll (trk h H) e
  refine ⟨e', ?_⟩
  cases q : H b with
  | none => rfl
  | some x =>
    have hm : b ∈ trk h H := List.mem_filter.mpr ⟨List.mem_range.mpr (Heap.lt_size e'), by simp [q]⟩
    have z : (hidT h H).get? b = none := PySem.W.hideAll_none (trk h H) hm
    rw [z] at e; cases e

/-! ### OpenK's ledger, filled with every new object but one -/
def allNews (g h : Heap) (L : Addr) : List (Addr × Obj) := (List.range h.objs.size).filterMap fun a => if a = L ∨ (g.get? a).isSome = true then none else (h.get? a).map fun o => (a, o)
theorem mem_allNews {g h : Heap} {L a : Addr} {o : Obj} (h1 : a ≠ L) (h2 : g.get? a = none) (h3 : h.get? a = some o) : (a, o) ∈ allNews g h L :=
  List.mem_filterMap.mpr ⟨a, List.mem_range.mpr (Heap.lt_size h3), by simp [h1, h2, h3]⟩
theorem of_mem_allNews {g h : Heap} {L : Addr} {p : Addr × Obj} (hp : p ∈ allNews g h L) : p.1 ≠ L ∧ g.get? p.1 = none ∧ h.get? p.1 = some p.2 := by
  obtain ⟨b, _, e⟩ := List.mem_filterMap.mp hp
  split at e
  · cases e
  · rename_i hn
    cases q : h.get? b with
    | none => rw [q] at e; simp at e
    | some u =>
      rw [q] at e
      simp only [Option.map_some, Option.some.injEq] at e
      subst e
      refine ⟨fun z => hn (.inl z), ?_, q⟩
      show g.get? b = none
      cases r : g.get? b with
      | none => rfl
      | some v => exact (hn (.inr (by simp [r]))).elim
def rest (g h : Heap) (L d : Addr) : List (Addr × Obj) := (allNews g h L).filter fun p => decide (p.1 ≠ d)
theorem rest_ne {g h : Heap} {L d : Addr} : ∀ p ∈ rest g h L d, p.1 ≠ d := fun p hp => of_decide_eq_true (List.mem_filter.mp hp).2
theorem mem_rest {g h : Heap} {L d a : Addr} {o : Obj} (h1 : a ≠ L) (h2 : g.get? a = none) (h3 : h.get? a = some o) (h4 : a ≠ d) : (a, o) ∈ rest g h L d :=
  List.mem_filter.mpr ⟨mem_allNews h1 h2 h3, decide_eq_true h4⟩
theorem news_all {g h : Heap} {L : Addr} : News g L h (allNews g h L) := fun p hp => let ⟨a, b, c⟩ := of_mem_allNews hp; ⟨c, a, b⟩
theorem news_at {g h : Heap} {L d : Addr} {o : Obj} (h1 : d ≠ L) (h2 : g.get? d = none) (h3 : h.get? d = some o) : News g L h ((d, o) :: rest g h L d) := fun p hp => by
  rcases List.mem_cons.mp hp with rfl | hp
  · exact ⟨h3, h1, h2⟩
  · exact news_all p (List.mem_filter.mp hp).1
/-- behind a rule that changed d alone: all else but the frame is kept -/
theorem kept_of_news {g h h' : Heap} {L d : Addr} {m : Str → Option Value} (k : ∀ b o, g.get? b = some o → h.get? b = some o) (F : Fr g L h' m) (N : News g L h' (rest g h L d)) :
    ∀ b o, b ≠ L → b ≠ d → h.get? b = some o → h'.get? b = some o := fun b o h1 h2 e => by
  cases q : g.get? b with
  | some u =>
    have := k b u q
    rw [e] at this; cases this
    exact F.keep b _ q
  | none => exact (N (b, o) (mem_rest h1 q e h2)).1
end L2

namespace L2
open PySem PySem.Spec PyProof.Rows

/-- the module's facts, over the base: the heap at the law's entry without what is tracked there -/
structure Mod (K : PySem.W.Frag) (mg : Str → Option Value) (base : Heap) : Prop where
  kin : K.In base
  glob : base.Ns mainGlobals mg
  blt : ∃ mb, base.Ns builtinsNs mb ∧ ∀ x : Str, x ≠ "__name__" → mb x = bootBuiltins x
  nolimit : base.NoLimit

/-- the context: a def's body (or a comprehension's block) running. base: fixed through the whole law; s₀, H₀: the entry; outer: the frames whose slots others may change (a def's callers); stack: all frames that run;
   ex: iterators that were made ahead of the entry and are walked here (a comprehension's); fn: the names whose cells were made at the entry (a def: all; a comprehension's block: its own); calm: not within an except suite; pn: pins that every state bears; xe: what is wanted of an exception that leaves the code -/
structure Cx where
  prog : Program
  w : World
  K : PySem.W.Frag
  mg : Str → Option Value
  base : Heap
  A : Around
  N : List Str
  s_0 : Shared
  H_0 : Hp
  env : Env
  outer : List Env
  stack : List Env
  ex : List Addr
  fn : Str → Bool
  calm : Bool
  pn : List (Addr × Obj)
  xe : Value → Shared → Prop
/-- the callers' frames -/
def frs (l : List Env) : List Addr := l.filterMap (·.frame)
abbrev Cx.fs (X : Cx) : List Addr := frs X.outer

def Vis (sc : Scope) (x : Str) : Prop := sc.names.lookup x = some .local ∨ sc.names.lookup x = some .cell ∨ sc.names.lookup x = some .free
def Loc (sc : Scope) (x : Str) : Prop := sc.names.lookup x = some .local ∨ sc.names.lookup x = some .cell
def Look (env : Env) (h : Heap) (m : Str → Option Value) (x : Str) (u : Value) : Prop :=
  (env.kindOf x = some .local ∧ m x = some u) ∨ ((env.kindOf x = some .cell ∨ env.kindOf x = some .free) ∧ ∃ c, env.cells.lookup x = some c ∧ h.IsCell c (some u))

structure Cx.Ok (X : Cx) : Prop where
  mod : Mod X.K X.mg X.base
  kind : X.env.scope.kind = .function
  glob : X.env.globals = mainGlobals
  blt : X.env.builtins = builtinsNs
  above : X.s_0.heap.objs.size ≤ X.env.locals
  inj : ∀ x y c, X.env.cells.lookup x = some c → X.env.cells.lookup y = some c → x = y
  has : ∀ x, (X.env.kindOf x = some .cell ∨ X.env.kindOf x = some .free) → ∃ c, X.env.cells.lookup x = some c
  cab : ∀ x c, X.fn x = true → X.env.cells.lookup x = some c → X.s_0.heap.objs.size ≤ c
  hd : X.calm = true → X.A.handled = none
  frames : X.A.frames = some X.stack
  stk : X.stack = X.outer ∨ (X.stack = X.env :: X.outer ∧ X.env.frame = some X.env.locals)
  exf : ∀ b ∈ X.ex, b ≠ X.env.locals ∧ ∀ x c, X.env.cells.lookup x = some c → c ≠ b
  bs : ∀ b o, X.base.get? b = some o → X.s_0.heap.get? b = some o ∧ X.H_0 b = none
  bsz : X.base.objs.size ≤ X.s_0.heap.objs.size
  noex : ∀ b o, X.base.get? b = some o → b ∉ X.ex
  exfs : ∀ b ∈ X.ex, b ∉ X.fs
  funs : X.s_0.heap.FunFrames X.base X.outer
  frf : ∀ b ∈ X.fs, X.H_0 b = none

structure Inv (X : Cx) (pins : List (Addr × Obj)) (σ : List (Option V)) (H : Hp) (s : Shared) : Prop where
  ok : X.Ok
  os : s.os = X.s_0.os
  bare : AllBare s.gens
  base : Un X.fs X.ex X.H_0 H X.s_0.heap s.heap
  loc : ∃ m, s.heap.Ns X.env.locals m ∧ ∀ (i : Nat) (x : Str) (v : V), X.N[i]? = some x → σ[i]? = some (some v) → Vis X.env.scope x → ∃ u, RelV v u ∧ Look X.env s.heap m x u
  cell : ∀ x c, X.env.cells.lookup x = some c → ∃ v, s.heap.IsCell c v
  free : H X.env.locals = none
  freeC : ∀ x c, X.env.cells.lookup x = some c → H c = none
  pin : ∀ p ∈ X.pn ++ pins, s.heap.get? p.1 = some p.2 ∧ H p.1 = none ∧ p.1 ≠ X.env.locals ∧ p.1 ∉ X.fs ∧ ∀ v, p.2.data ≠ .cell v
  hok : HOk X.prog X.w H s.heap
  len : σ.length = X.N.length

section
variable {X : Cx} {pins : List (Addr × Obj)} {σ : List (Option V)} {H H' : Hp} {s : Shared} {h' : Heap}

theorem Cx.Ok.nofr (ok : X.Ok) {b : Addr} {o : Obj} (e : X.base.get? b = some o) : b ∉ X.fs := fun hb => by
  have := (ok.funs.mem hb).1
  rw [e] at this; cases this
theorem Inv.bs (I : Inv X pins σ H s) : ∀ b o, X.base.get? b = some o → s.heap.get? b = some o ∧ H b = none := fun b o e =>
  ⟨I.base.keep b o (I.ok.bs b o e).1 (I.ok.bs b o e).2 (I.ok.nofr e) (I.ok.noex b o e), I.base.free b o (I.ok.bs b o e).1 (I.ok.bs b o e).2 (I.ok.noex b o e)⟩
theorem Inv.bk (I : Inv X pins σ H s) : ∀ b o, X.base.get? b = some o → s.heap.get? b = some o := fun b o e => (I.bs b o e).1
theorem Inv.mod (I : Inv X pins σ H s) : Mod X.K X.mg X.base := I.ok.mod
theorem Inv.kIn (I : Inv X pins σ H s) : X.K.In s.heap := I.ok.mod.kin.keeps I.bk
theorem Inv.nolimit (I : Inv X pins σ H s) : s.heap.NoLimit := I.ok.mod.nolimit.keeps I.bk
/-- the frame over the base: for OpenK's rules (K.In X.base is I.mod.kin) -/
theorem Inv.fr (I : Inv X pins σ H s) : ∃ m, Fr X.base X.env.locals s.heap m :=
  let ⟨m, hn, _⟩ := I.loc
  ⟨m, hn, I.bk, Nat.le_trans I.ok.bsz I.ok.above⟩
theorem Inv.lt (I : Inv X pins σ H s) : X.env.locals < s.heap.objs.size := let ⟨_, hn, _⟩ := I.loc; hn.lt
theorem Inv.sz (I : Inv X pins σ H s) : X.s_0.heap.objs.size ≤ s.heap.objs.size := Nat.le_trans I.ok.above (Nat.le_of_lt I.lt)
theorem Inv.nofs (I : Inv X pins σ H s) {a : Addr} (h : s.heap.objs.size ≤ a) : a ∉ X.fs := fun hb => by
  obtain ⟨_, o, ho, _⟩ := I.ok.funs.mem hb
  exact absurd (Nat.lt_of_lt_of_le (Heap.lt_size ho) (Nat.le_trans I.sz h)) (Nat.lt_irrefl _)
theorem Inv.cne (I : Inv X pins σ H s) : ∀ x c, X.env.cells.lookup x = some c → c ≠ X.env.locals := fun x c e z => by
  obtain ⟨v, o, ho, hd⟩ := I.cell x c e
  obtain ⟨m, ⟨o', es, ep, ho', hd', _⟩, _⟩ := I.loc
  rw [z, ho'] at ho; cases ho; rw [hd'] at hd; cases hd
theorem Inv.funs (I : Inv X pins σ H s) : s.heap.FunFrames X.base X.outer := by
  have all : ∀ (l : List Env), (∀ b ∈ frs l, b ∈ X.fs) → X.s_0.heap.FunFrames X.base l → s.heap.FunFrames X.base l := by
    intro l
    induction l with
    | nil => intro _ _; trivial
    | cons env r ih =>
      intro hs hl
      obtain ⟨hk, ⟨L, o, hf, hn, ho, hd⟩, hr⟩ := hl
      have hL : L ∈ X.fs := hs L (by unfold frs; rw [List.filterMap_cons, hf]; exact List.mem_cons_self)
      obtain ⟨sl, e⟩ := I.base.slot L o ho (I.ok.frf L hL) hL fun z => I.ok.exfs L z hL
      exact ⟨hk, ⟨L, _, hf, hn, e, hd⟩, ih (fun b hb => hs b (by unfold frs; rw [List.filterMap_cons, hf]; exact List.mem_cons_of_mem _ hb)) hr⟩
  exact all X.outer (fun _ hb => hb) I.ok.funs

/-- the frames that run, for a call -/
theorem Inv.stack (I : Inv X pins σ H s) : s.heap.FunFrames X.base X.stack := by
  rcases I.ok.stk with e | ⟨e, hf⟩
  · rw [e]; exact I.funs
  · rw [e]
    obtain ⟨m, hn, _⟩ := I.loc
    refine .cons (by rw [I.ok.kind]; decide) hf hn ?_ I.funs
    exact Heap.get?_none_of_le (Nat.le_trans I.ok.bsz I.ok.above)
theorem Inv.stkSub (I : Inv X pins σ H s) : ∀ b ∈ frs X.stack, b ∈ X.env.locals :: X.fs := fun b hb => by
  rcases I.ok.stk with e | ⟨e, hf⟩
  · rw [e] at hb; exact List.mem_cons_of_mem _ hb
  · rw [e] at hb
    unfold frs at hb
    rw [List.filterMap_cons, hf] at hb
    exact hb
theorem Inv.stkFree (I : Inv X pins σ H s) : ∀ b ∈ frs X.stack, H b = none := fun b hb => by
  rcases List.mem_cons.mp (I.stkSub b hb) with e | hb
  · rw [e]; exact I.free
  · obtain ⟨_, o, ho, _⟩ := I.ok.funs.mem hb
    exact I.base.free b o ho (I.ok.frf b hb) fun z => I.ok.exfs b z hb

/-- THE STEP: the untracked objects but the frame and the records at ch are kept (the callers' frames up to slots), the frame's map is kept, the new abstract heap is held -/
theorem Inv.step {g' : Array GenState} {t' : Nat} {d' : Drawn} {ch : List Addr} (I : Inv X pins σ H s)
    (hch : ∀ b ∈ ch, (b ∈ X.ex ∨ X.s_0.heap.objs.size ≤ b) ∧ b ≠ X.env.locals ∧ (∀ x c, X.env.cells.lookup x = some c → c ≠ b) ∧ ∀ p ∈ X.pn ++ pins, p.1 ≠ b)
    (keep : ∀ b o, b ≠ X.env.locals → b ∉ X.fs → b ∉ ch → s.heap.get? b = some o → H b = none → h'.get? b = some o)
    (slot : ∀ b o, b ≠ X.env.locals → b ∈ X.fs → b ∉ ch → s.heap.get? b = some o → H b = none → ∃ sl, h'.get? b = some { o with slots := sl }) (free : ∀ b o, b ∉ ch → s.heap.get? b = some o → H b = none → H' b = none)
    (there : ∀ b o, b ∉ ch → s.heap.get? b = some o → ∃ o', h'.get? b = some o')
    (tups : ∀ b xs, H b = some (.tup xs) → H' b = some (.tup xs)) (frzs : ∀ b o u, H b = some (.frz o u) → H' b = some (.frz o u)) (tbls : ∀ b ps, H b = some (.tbl ps) → ∃ more, H' b = some (.tbl (ps ++ more)))
    (ns : ∀ m, s.heap.Ns X.env.locals m → h'.Ns X.env.locals m) (hok : HOk X.prog X.w H' h') (hg : AllBare g') :
    Inv X pins σ H' { s with heap := h', gens := g', drawn := d', toks := t' } := by
  have neL : ∀ b o, X.s_0.heap.get? b = some o → b ≠ X.env.locals := fun b o e => Nat.ne_of_lt (Nat.lt_of_lt_of_le (Heap.lt_size e) I.ok.above)
  have neC : ∀ b o, X.s_0.heap.get? b = some o → b ∉ X.ex → b ∉ ch := fun b o e hx hb => by
    rcases (hch b hb).1 with z | z
    · exact hx z
    · exact absurd (Nat.lt_of_lt_of_le (Heap.lt_size e) z) (Nat.lt_irrefl _)
  have cellK : ∀ x c, X.env.cells.lookup x = some c → ∀ v, s.heap.IsCell c v → h'.IsCell c v := fun x c e v ⟨o, ho, hd⟩ => by
    have nch : c ∉ ch := fun z => (hch c z).2.2.1 x c e rfl
    by_cases hc : c ∈ X.fs
    · obtain ⟨sl, q⟩ := slot c o (I.cne x c e) hc nch ho (I.freeC x c e)
      exact ⟨_, q, hd⟩
    · exact ⟨o, keep c o (I.cne x c e) hc nch ho (I.freeC x c e), hd⟩
  refine ⟨I.ok, I.os, hg, ⟨fun b o e n hb hx => ?_, fun b o e n hb hx => ?_, fun b o e n hx => ?_, fun b o e hx => ?_, fun b xs e => tups b xs (I.base.tups b xs e), fun b o xs e => frzs b o xs (I.base.frzs b o xs e), fun b ps e => ?_⟩, ?_, fun x c e => ?_, ?_, fun x c e => ?_, fun p hp => ?_, hok, I.len⟩
  · exact keep b o (neL b o e) hb (neC b o e hx) (I.base.keep b o e n hb hx) (I.base.free b o e n hx)
  · obtain ⟨sl, e1⟩ := I.base.slot b o e n hb hx
    obtain ⟨sl', e2⟩ := slot b _ (neL b o e) hb (neC b o e hx) e1 (I.base.free b o e n hx)
    exact ⟨sl', e2⟩
  · obtain ⟨o', e1⟩ := I.base.there b o e hx
    exact free b o' (neC b o e hx) e1 (I.base.free b o e n hx)
  · obtain ⟨o', e1⟩ := I.base.there b o e hx
    exact there b o' (neC b o e hx) e1
  · obtain ⟨m1, e1⟩ := I.base.tbls b ps e
    obtain ⟨m2, e2⟩ := tbls b _ e1
    exact ⟨m1 ++ m2, by rw [e2, Array.append_assoc]⟩
  · obtain ⟨m, hn, hl⟩ := I.loc
    refine ⟨m, ns m hn, fun i x v e1 e2 e3 => ?_⟩
    obtain ⟨u, r, l⟩ := hl i x v e1 e2 e3
    refine ⟨u, r, ?_⟩
    rcases l with l | ⟨k, c, e, z⟩
    · exact .inl l
    · exact .inr ⟨k, c, e, cellK x c e _ z⟩
  · obtain ⟨v, z⟩ := I.cell x c e
    exact ⟨v, cellK x c e v z⟩
  · obtain ⟨m, ⟨o, _, _, ho, _⟩, _⟩ := I.loc
    exact free _ o (fun z => (hch _ z).2.1 rfl) ho I.free
  · obtain ⟨v, o, ho, hd⟩ := I.cell x c e
    exact free c o (fun z => (hch c z).2.2.1 x c e rfl) ho (I.freeC x c e)
  · obtain ⟨e, n, ne, nf, d⟩ := I.pin p hp
    have nch : p.1 ∉ ch := fun z => (hch p.1 z).2.2.2 p hp rfl
    exact ⟨keep p.1 p.2 ne nf nch e n, free p.1 p.2 nch e n, ne, nf, d⟩
/-- .. where the frame's own object is kept too -/
theorem Inv.un {t' : Nat} (I : Inv X pins σ H s) (u : Un X.fs [] H H' s.heap h') (hok : HOk X.prog X.w H' h') : Inv X pins σ H' { s with heap := h', toks := t' } := by
  obtain ⟨m, ⟨o, es, ep, ho, r⟩, _⟩ := id I.loc
  obtain ⟨sl, hL⟩ := u.any ho I.free (by simp)
  exact I.step (g' := s.gens) (d' := s.drawn) (ch := []) (fun _ z => nomatch z) (fun b o _ hb _ e n => u.keep b o e n hb (by simp)) (fun b o _ hb _ e n => u.slot b o e n hb (by simp)) (fun b o _ e n => u.free b o e n (by simp)) (fun b o _ e => u.there b o e (by simp)) u.tups u.frzs u.tbls (fun m' hm => by
    obtain ⟨o', es', ep', ho', r'⟩ := hm
    rw [ho] at ho'; cases ho'
    exact ⟨_, es', ep', hL, r'⟩) hok I.bare
/-- behind a call (or a comprehension's block): the slots of this frame may have changed too, the records at ch may have turned -/
theorem Inv.call {g' : Array GenState} {t' : Nat} {d' : Drawn} {ch : List Addr} (I : Inv X pins σ H s) (u : Un (frs X.stack) ch H H' s.heap h') (hok : HOk X.prog X.w H' h') (hg : AllBare g')
    (hch : ∀ b ∈ ch, (b ∈ X.ex ∨ X.s_0.heap.objs.size ≤ b) ∧ b ≠ X.env.locals ∧ (∀ x c, X.env.cells.lookup x = some c → c ≠ b) ∧ ∀ p ∈ X.pn ++ pins, p.1 ≠ b) :
    Inv X pins σ H' { s with heap := h', gens := g', drawn := d', toks := t' } := by
  obtain ⟨m, ⟨o, es, ep, ho, r⟩, _⟩ := id I.loc
  obtain ⟨sl, hL⟩ := u.any ho I.free fun z => (hch _ z).2.1 rfl
  exact I.step (ch := ch) hch (fun b o hL hb hc e n => u.keep b o e n (fun z => (List.mem_cons.mp (I.stkSub b z)).elim hL hb) hc) (fun b o _ _ hc e n => u.any e n hc) (fun b o hc e n => u.free b o e n hc) (fun b o hc e => u.there b o e hc) u.tups u.frzs u.tbls (fun m' hm => by
    obtain ⟨o', es', ep', ho', r'⟩ := hm
    rw [ho] at ho'; cases ho'
    exact ⟨_, es', ep', hL, r'⟩) hok hg
/-- an untracked record of ours (an iterator) has turned -/
theorem Inv.turned {t' : Nat} {it : Addr} (I : Inv X pins σ H s) (k : ∀ b o, b ≠ it → s.heap.get? b = some o → h'.get? b = some o) (hn : H it = none) (hL : it ≠ X.env.locals)
    (h1 : it ∈ X.ex ∨ X.s_0.heap.objs.size ≤ it) (h2 : ∀ x c, X.env.cells.lookup x = some c → c ≠ it) (h3 : ∀ p ∈ X.pn ++ pins, p.1 ≠ it) : Inv X pins σ H { s with heap := h', toks := t' } := by
  have nit : ∀ b u, H b = some u → b ≠ it := fun b u e z => by rw [z, hn] at e; cases e
  refine I.step (g' := s.gens) (d' := s.drawn) (ch := [it]) (fun b hb => ?_) (fun b o _ _ hc e _ => k b o (fun z => hc (by simp [z])) e) (fun b o _ _ hc e _ => ⟨o.slots, k b o (fun z => hc (by simp [z])) e⟩) (fun _ _ _ _ n => n)
    (fun b o hc e => ⟨o, k b o (fun z => hc (by simp [z])) e⟩) (fun _ _ e => e) (fun _ _ _ e => e) (fun b ps e => ⟨#[], by rw [e]; simp⟩) (fun m hm => ?_) (fun b u e => ?_) I.bare
  · have e : b = it := by simpa using hb
    subst e
    exact ⟨h1, hL, h2, h3⟩
  · obtain ⟨o, es, ep, ho, r⟩ := hm
    exact ⟨o, es, ep, k _ o (Ne.symm hL) ho, r⟩
  · refine (I.hok b u e).stay (fun c v hc q => k c v ?_ q) (fun _ q => q) fun _ _ q => q
    rcases hc with z | z
    · rw [z]; exact nit b u e
    · exact nit c _ z
theorem Inv.tok (I : Inv X pins σ H s) (t : Nat) : Inv X pins σ H { s with toks := t } := I.un (h' := s.heap) (t' := t) Un.refl I.hok
/-- all objects kept -/
theorem Inv.kept {t' : Nat} (I : Inv X pins σ H s) (k : ∀ b u, s.heap.get? b = some u → h'.get? b = some u) : Inv X pins σ H { s with heap := h', toks := t' } := I.un (Un.kept k) (I.hok.kept k)
/-- a new object laid and tracked -/
theorem Inv.laid {a : Addr} {o : HO} {t' : Nat} (I : Inv X pins σ H s) (k : ∀ b u, s.heap.get? b = some u → h'.get? b = some u) (hp : s.heap.objs.size ≤ a) (new : ObjOk X.prog X.w (upd H a o) h' a o) :
    Inv X pins σ (upd H a o) { s with heap := h', toks := t' } := I.un (Un.laid k hp (I.hok.fresh hp)) (I.hok.laid k hp new)
/-- an object written -/
theorem Inv.write {x e : Addr} {o : HO} {t' : Nat} (I : Inv X pins σ H s) (mu : Mut (H x)) (he : e = x ∨ H e = some (.own x)) (k : ∀ b u, b ≠ e → s.heap.get? b = some u → h'.get? b = some u) (heo : ∃ u, h'.get? e = some u)
    (new : ObjOk X.prog X.w (upd H x o) h' x o) : Inv X pins σ (upd H x o) { s with heap := h', toks := t' } := I.un (Un.write mu he k heo) (I.hok.write mu he k heo new)
/-- forgetting slots, pins -/
theorem Inv.weak {σ' : List (Option V)} (I : Inv X pins σ H s) (hl : σ'.length = σ.length) (w : ∀ (i : Nat) v, σ'[i]? = some (some v) → σ[i]? = some (some v)) : Inv X pins σ' H s :=
  ⟨I.ok, I.os, I.bare, I.base, let ⟨m, hn, hl'⟩ := I.loc; ⟨m, hn, fun i x v e1 e2 e3 => hl' i x v e1 (w i v e2) e3⟩, I.cell, I.free, I.freeC, I.pin, I.hok, hl.trans I.len⟩
theorem Inv.pins_of {pins' : List (Addr × Obj)} (I : Inv X pins σ H s) (h : ∀ p ∈ pins', s.heap.get? p.1 = some p.2 ∧ H p.1 = none ∧ p.1 ≠ X.env.locals ∧ p.1 ∉ X.fs ∧ ∀ v, p.2.data ≠ .cell v) : Inv X pins' σ H s :=
  ⟨I.ok, I.os, I.bare, I.base, I.loc, I.cell, I.free, I.freeC, fun p hp => (List.mem_append.mp hp).elim (fun z => I.pin p (List.mem_append_left _ z)) (h p), I.hok, I.len⟩

theorem nodup_ix {N : List Str} (hN : N.Nodup) {i j : Nat} {x : Str} (a : N[i]? = some x) (b : N[j]? = some x) : i = j := by
  obtain ⟨h1, e1⟩ := List.getElem?_eq_some_iff.mp a
  obtain ⟨h2, e2⟩ := List.getElem?_eq_some_iff.mp b
  exact (List.getElem_inj hN).mp (e1.trans e2.symm)

/-- a name is stored; what changed -/
theorem store_ok2 {M : Model} {A : Around} {E : Value → Shared → Prop} {i : Nat} {x : Str} {v : V} {u : Value} {Q : Unit → Shared → Prop} (I : Inv X pins σ H s) (hN : X.N.Nodup) (hi : X.N[i]? = some x) (hx : Loc X.env.scope x) (r : RelV v u)
    (h : ∀ s', Inv X pins (σ.set i (some v)) H s' → (∃ a, Heap.SameBut a s.heap s'.heap ∧ (a = X.env.locals ∨ X.env.cells.lookup x = some a)) → Q () s') (hf : X.fn x = true ∨ X.env.scope.names.lookup x = some .local := by first | exact .inl rfl | exact .inr rfl | assumption) : wpAny M A (storeName X.env x u) Q E s := by
  obtain ⟨m, hn, hl⟩ := id I.loc
  have hcls : (X.env.scope.kind == .class || (X.env.scope.kind == .module && X.env.locals != X.env.globals)) = false := by rw [I.ok.kind]; rfl
  have hiσ : i < σ.length := by rw [I.len]; exact (List.getElem?_eq_some_iff.mp hi).1
  have cne := I.cne
  have tracked : ∀ {a : Addr} {h' : Heap}, (∃ o, s.heap.get? a = some o ∧ H a = none) → Heap.SameBut a s.heap h' → HOk X.prog X.w H h' := fun {a h'} ha hs b ob e => by
    obtain ⟨_, _, hfree⟩ := ha
    refine (I.hok b ob e).stay (fun c w' hc q => (hs.2 c ?_).trans q) (fun _ q => q) fun _ _ q => q
    rintro rfl
    rcases hc with rfl | hc
    · rw [hfree] at e; cases e
    · rw [hfree] at hc; cases hc
  rcases hx with hk | hk
  · refine wpAny_storeName_local hk hn (fun h' hn' hs => ?_) hcls
    obtain ⟨oL, _, _, hoL, _⟩ := id hn
    refine h _ ⟨I.ok, I.os, I.bare, ⟨fun b o e n hb hx => ?_, fun b o e n hb hx => ?_, I.base.free, fun b o e hx => ?_, I.base.tups, I.base.frzs, I.base.tbls⟩, ⟨_, hn', fun j y v' e1 e2 e3 => ?_⟩, fun y c e => ?_, I.free, I.freeC, fun p hp => ?_, tracked ⟨oL, hoL, I.free⟩ hs, by simpa using I.len⟩ ⟨_, hs, .inl rfl⟩
    · exact (hs.2 b (Nat.ne_of_lt (Nat.lt_of_lt_of_le (Heap.lt_size e) I.ok.above))).trans (I.base.keep b o e n hb hx)
    · obtain ⟨sl, e1⟩ := I.base.slot b o e n hb hx
      exact ⟨sl, (hs.2 b (Nat.ne_of_lt (Nat.lt_of_lt_of_le (Heap.lt_size e) I.ok.above))).trans e1⟩
    · obtain ⟨o', e1⟩ := I.base.there b o e hx
      exact ⟨o', (hs.2 b (Nat.ne_of_lt (Nat.lt_of_lt_of_le (Heap.lt_size e) I.ok.above))).trans e1⟩
    · by_cases hj : j = i
      · subst hj
        rw [hi] at e1; cases e1
        rw [List.getElem?_set_self hiσ] at e2
        cases e2
        exact ⟨u, r, .inl ⟨hk, by simp⟩⟩
      · rw [List.getElem?_set_ne (Ne.symm hj)] at e2
        obtain ⟨u', r', q⟩ := hl j y v' e1 e2 e3
        refine ⟨u', r', ?_⟩
        rcases q with ⟨k, e⟩ | ⟨k, c, e, z⟩
        · refine .inl ⟨k, ?_⟩
          have : y ≠ x := fun e => hj (nodup_ix hN e1 (e ▸ hi))
          simp [this, e]
        · exact .inr ⟨k, c, e, z.sameBut hs (cne y c e)⟩
    · obtain ⟨w', z⟩ := I.cell y c e
      exact ⟨w', z.sameBut hs (cne y c e)⟩
    · obtain ⟨e, n, ne, nf, d⟩ := I.pin p hp
      exact ⟨(hs.2 p.1 ne).trans e, n, ne, nf, d⟩
  · have hfn : X.fn x = true := by
      rcases hf with z | z
      · exact z
      · rw [z] at hk; cases hk
    obtain ⟨c, hc⟩ := I.ok.has x (.inl hk)
    obtain ⟨w', z⟩ := I.cell x c hc
    refine wpAny_storeName_cell I.ok.kind hk hc z (fun h' hc' hs => ?_)
    obtain ⟨oc, hoc, hocd⟩ := id z
    refine h { s with heap := h' } ⟨I.ok, I.os, I.bare, ⟨fun b o e n hb hx => ?_, fun b o e n hb hx => ?_, I.base.free, fun b o e hx => ?_, I.base.tups, I.base.frzs, I.base.tbls⟩, ⟨m, hn.sameBut hs (Ne.symm (cne x c hc)), fun j y v' e1 e2 e3 => ?_⟩, fun y c' e => ?_, I.free, I.freeC, fun p hp => ?_, tracked ⟨oc, hoc, I.freeC x c hc⟩ hs, by simpa using I.len⟩ ⟨c, hs, .inr hc⟩
    · exact (hs.2 b (Nat.ne_of_lt (Nat.lt_of_lt_of_le (Heap.lt_size e) (I.ok.cab x c hfn hc)))).trans (I.base.keep b o e n hb hx)
    · obtain ⟨sl, e1⟩ := I.base.slot b o e n hb hx
      exact ⟨sl, (hs.2 b (Nat.ne_of_lt (Nat.lt_of_lt_of_le (Heap.lt_size e) (I.ok.cab x c hfn hc)))).trans e1⟩
    · obtain ⟨o', e1⟩ := I.base.there b o e hx
      exact ⟨o', (hs.2 b (Nat.ne_of_lt (Nat.lt_of_lt_of_le (Heap.lt_size e) (I.ok.cab x c hfn hc)))).trans e1⟩
    · by_cases hj : j = i
      · subst hj
        rw [hi] at e1; cases e1
        rw [List.getElem?_set_self hiσ] at e2
        cases e2
        exact ⟨u, r, .inr ⟨.inl hk, c, hc, hc'⟩⟩
      · rw [List.getElem?_set_ne (Ne.symm hj)] at e2
        obtain ⟨u', r', q⟩ := hl j y v' e1 e2 e3
        refine ⟨u', r', ?_⟩
        rcases q with q | ⟨k, c', e, z'⟩
        · exact .inl q
        · refine .inr ⟨k, c', e, z'.sameBut hs ?_⟩
          rintro rfl
          exact hj (nodup_ix hN e1 (I.ok.inj _ _ _ e hc ▸ hi))
    · by_cases hcc : c' = c
      · subst hcc; exact ⟨_, hc'⟩
      · obtain ⟨w2, z2⟩ := I.cell y c' e
        exact ⟨w2, z2.sameBut hs hcc⟩
    · obtain ⟨e, n, ne, nf, d⟩ := I.pin p hp
      refine ⟨(hs.2 p.1 ?_).trans e, n, ne, nf, d⟩
      intro q
      rw [q, hoc] at e
      have q' : oc = p.2 := Option.some.inj e
      exact d w' (by rw [← q']; exact hocd)
theorem store_ok {M : Model} {A : Around} {E : Value → Shared → Prop} {i : Nat} {x : Str} {v : V} {u : Value} {Q : Unit → Shared → Prop} (I : Inv X pins σ H s) (hN : X.N.Nodup) (hi : X.N[i]? = some x) (hx : Loc X.env.scope x) (r : RelV v u)
    (h : ∀ s', Inv X pins (σ.set i (some v)) H s' → Q () s') (hf : X.fn x = true ∨ X.env.scope.names.lookup x = some .local := by first | exact .inl rfl | exact .inr rfl | assumption) : wpAny M A (storeName X.env x u) Q E s :=
  store_ok2 I hN hi hx r (fun s' I' _ => h s' I') hf
/-- behind a call or a block, the state as it is -/
theorem Inv.call' {s' : Shared} {ch : List Addr} (I : Inv X pins σ H s) (ho : s'.os = s.os) (u : Un (frs X.stack) ch H H' s.heap s'.heap) (hok : HOk X.prog X.w H' s'.heap) (hg : AllBare s'.gens)
    (hch : ∀ b ∈ ch, (b ∈ X.ex ∨ X.s_0.heap.objs.size ≤ b) ∧ b ≠ X.env.locals ∧ (∀ x c, X.env.cells.lookup x = some c → c ≠ b) ∧ ∀ p ∈ X.pn ++ pins, p.1 ≠ b) : Inv X pins σ H' s' := by
  obtain ⟨h', g', d', t', o'⟩ := s'
  have e : o' = s.os := ho
  subst e
  exact I.call (g' := g') (t' := t') (d' := d') u hok hg hch
end

/-! ### the judgements -/
/-- an exception: its class, its own dict's address (where it has one), the abstract heap behind it -/
abbrev XK := Value → Option Addr → Hp → Prop
abbrev St := List (Option V)
abbrev VK := V → Hp → Prop
/-- an expression's reading; a test's; an argument list's -/
abbrev TE := St → Hp → VK → Prop
abbrev TT := St → Hp → (Bool → Hp → Prop) → Prop
abbrev TA := St → Hp → (List V → Hp → Prop) → Prop
/-- what is wanted behind a statement -/
structure Ends where
  nx : St → Hp → Prop
  rt : VK
  bk : St → Hp → Prop := fun _ _ => False
  ct : St → Hp → Prop := fun _ _ => False
abbrev TS := Ends → St → Hp → Prop

def EP (X : Cx) (pins : List (Addr × Obj)) (σ : St) (Q : VK) (u : Value) (s' : Shared) : Prop := ∃ v H', Inv X pins σ H' s' ∧ RelV v u ∧ Q v H'
def TP (X : Cx) (pins : List (Addr × Obj)) (σ : St) (Q : Bool → Hp → Prop) (b : Bool) (s' : Shared) : Prop := ∃ H', Inv X pins σ H' s' ∧ Q b H'
def AP (X : Cx) (pins : List (Addr × Obj)) (σ : St) (Q : List V → Hp → Prop) (us : List Value) (s' : Shared) : Prop := ∃ vs H', Inv X pins σ H' s' ∧ Vals vs us ∧ Q vs H'
def SP (X : Cx) (pins : List (Addr × Obj)) (D : Ends) (f : Flow) (s' : Shared) : Prop :=
  match f with
  | .next => ∃ σ' H', Inv X pins σ' H' s' ∧ D.nx σ' H'
  | .brk => ∃ σ' H', Inv X pins σ' H' s' ∧ D.bk σ' H'
  | .cont => ∃ σ' H', Inv X pins σ' H' s' ∧ D.ct σ' H'
  | .ret u => ∃ v σ' H', Inv X pins σ' H' s' ∧ RelV v u ∧ D.rt v H'

def PE (X : Cx) (e : Expr) (t : TE) : Prop :=
  ∀ (pins : List (Addr × Obj)) (s : Shared) (σ : St) (H : Hp) (Q : VK), Inv X pins σ H s → t σ H Q → wpAny (model X.prog X.w) X.A (eval e X.env) (EP X pins σ Q) X.xe s
def PT (X : Cx) (e : Expr) (t : TT) : Prop :=
  ∀ (pins : List (Addr × Obj)) (s : Shared) (σ : St) (H : Hp) (Q : Bool → Hp → Prop), Inv X pins σ H s → t σ H Q → wpAny (model X.prog X.w) X.A (isTrue e X.env (eval e X.env)) (TP X pins σ Q) X.xe s
/-- a test whatever its 'whole' is (and, or) -/
def PW (X : Cx) (e : Expr) (t : TT) : Prop :=
  ∀ (whole : Sem Value) (pins : List (Addr × Obj)) (s : Shared) (σ : St) (H : Hp) (Q : Bool → Hp → Prop), Inv X pins σ H s → t σ H Q → wpAny (model X.prog X.w) X.A (isTrue e X.env whole) (TP X pins σ Q) X.xe s
theorem PW.pt {X : Cx} {e : Expr} {t : TT} (h : PW X e t) : PT X e t := h _
/-- an argument list (no star), from the left -/
def PA (X : Cx) (es : List Expr) (t : TA) : Prop :=
  ∀ (pos : Pos) (pins : List (Addr × Obj)) (s : Shared) (σ : St) (H : Hp) (Q : List V → Hp → Prop), Inv X pins σ H s → t σ H Q → wpAny (model X.prog X.w) X.A (spliced (backTo pos (starEach es X.env))) (AP X pins σ Q) X.xe s
def PS (X : Cx) (st : Stmt) (t : TS) : Prop :=
  ∀ (pins : List (Addr × Obj)) (s : Shared) (σ : St) (H : Hp) (D : Ends), Inv X pins σ H s → t D σ H → wpAny (model X.prog X.w) X.A (exec st X.env) (SP X pins D) X.xe s
def PSs (X : Cx) (st : List Stmt) (t : TS) : Prop :=
  ∀ (pins : List (Addr × Obj)) (s : Shared) (σ : St) (H : Hp) (D : Ends), Inv X pins σ H s → t D σ H → wpAny (model X.prog X.w) X.A (execs st X.env) (SP X pins D) X.xe s
/-- weaken the end -/
theorem thn {α : Type} {t : Sem α} {Q Q' : α → Shared → Prop} {M : Model} {A : Around} {E : Value → Shared → Prop} {s : Shared} (h : wpAny M A t Q E s) (hQ : ∀ a s, Q a s → Q' a s) : wpAny M A t Q' E s := wpAny_mono h hQ fun _ _ x => x
end L2

namespace L2
open PySem PySem.Spec PyProof.Rows
section
variable {X : Cx}

/-- two expressions in a row -/
theorem bin {a b : Expr} {ta tb : TE} (ha : PE X a ta) (hb : PE X b tb) {pins : List (Addr × Obj)} {s : Shared} {σ : St} {H : Hp} {R : V → V → Hp → Prop} (I : Inv X pins σ H s) (h : ta σ H fun x H1 => tb σ H1 fun y H2 => R x y H2)
    {α : Type} {Q : α → Shared → Prop} {f : Value → Value → Sem α}
    (hf : ∀ v u s2 x y H2, Inv X pins σ H2 s2 → RelV x v → RelV y u → R x y H2 → wpAny (model X.prog X.w) X.A (f v u) Q X.xe s2) :
    wpAny (model X.prog X.w) X.A (eval a X.env) (fun v s₁ => wpAny (model X.prog X.w) X.A (eval b X.env) (fun u s₂ => wpAny (model X.prog X.w) X.A (f v u) Q X.xe s₂) X.xe s₁) X.xe s := by
  refine thn (ha pins s σ H _ I h) fun v s1 ⟨x, H1, I1, r1, q1⟩ => ?_
  refine thn (hb pins s1 σ H1 _ I1 q1) fun u s2 ⟨y, H2, I2, r2, q2⟩ => ?_
  exact hf v u s2 x y H2 I2 r1 r2 q2

/-! ### names and constants -/
def tVar (i : Nat) : TE := fun σ H Q => ∃ v, σ[i]? = some (some v) ∧ Q v H
def tC (v : V) : TE := fun _ H Q => Q v H
theorem pe_var {i : Nat} {x : Str} {pos : Pos} (hN : X.N[i]? = some x) (hv : Vis X.env.scope x) (hd : (x == ("__debug__" : Str)) = false := by decide) (hcd : (x == ("__classdict__" : Str)) = false := by decide) : PE X (.Name x pos) (tVar i) := by
  intro pins s σ H Q I h
  obtain ⟨v, e, h⟩ := h
  obtain ⟨m, hn, hl⟩ := I.loc
  obtain ⟨u, r, l⟩ := hl i x v hN e hv
  have fin : EP X pins σ Q u s := ⟨v, H, I, r, h⟩
  rcases l with ⟨hk, hm⟩ | ⟨hk, c, hc, hcell⟩
  · exact wpAny_Name (wpAny_loadName_local I.ok.kind hk hn hm fin) hd
  · rcases hk with hk | hk
    · exact wpAny_Name (wpAny_loadName_cell I.ok.kind hk hc hcell fin) hd
    · exact wpAny_Name (wpAny_loadName_free I.ok.kind hk hc hcell fin hcd) hd
theorem pe_int {i j pos} : PE X (.Constant (.int i) j pos) (tC (.int i)) := fun _ _ _ H _ I h => wpAny_Constant_int ⟨.int i, H, I.tok _, ⟨_, rfl⟩, h⟩
theorem pe_bl {b j pos} : PE X (.Constant (.bool b) j pos) (tC (.bl b)) := fun _ _ _ H _ I h => Constant_bool ⟨.bl b, H, I, rfl, h⟩
theorem pe_non {j pos} : PE X (.Constant .none j pos) (tC .non) := fun _ _ _ H _ I h => Constant_none ⟨.non, H, I, rfl, h⟩
theorem pe_str {x j pos} : PE X (.Constant (.str x) j pos) (tC (.str x)) := fun _ _ _ H _ I h => Calls.Constant_str ⟨.str x, H, I.tok _, ⟨_, rfl⟩, h⟩

/-- a global name of the def -/
def Gl (X : Cx) (x : Str) : Prop := X.env.kindOf x = some .globalImplicit
theorem ld_glob {E : Value → Shared → Prop} {pins : List (Addr × Obj)} {s : Shared} {σ : St} {H : Hp} {x : Str} {u : Value} {pos : Pos} {Q : Value → Shared → Prop} (I : Inv X pins σ H s) (hg : Gl X x) (hm : X.mg x = some u) (h : Q u s)
    (hd : (x == ("__debug__" : Str)) = false := by decide) : wpAny (model X.prog X.w) X.A (eval (.Name x pos) X.env) Q E s :=
  Calls.Name_function_global I.ok.kind hg (Calls.loadGlobal_global (by rw [I.ok.glob]; exact I.mod.glob.keeps I.bk) hm h) hd
theorem ld_blt {E : Value → Shared → Prop} {pins : List (Addr × Obj)} {s : Shared} {σ : St} {H : Hp} {x : Str} {u : Value} {pos : Pos} {Q : Value → Shared → Prop} (I : Inv X pins σ H s) (hg : Gl X x) (hm : X.mg x = none) (hv : bootBuiltins x = some u) (h : Q u s)
    (hn : x ≠ "__name__" := by decide) (hd : (x == ("__debug__" : Str)) = false := by decide) : wpAny (model X.prog X.w) X.A (eval (.Name x pos) X.env) Q E s := by
  obtain ⟨mb, h1, h2⟩ := I.mod.blt
  exact Calls.Name_function_global I.ok.kind hg (Calls.loadGlobal_builtin (by rw [I.ok.glob]; exact I.mod.glob.keeps I.bk) hm (by rw [I.ok.blt]; exact h1.keeps I.bk) ((h2 x hn).trans hv) h) hd
/-- a module's constant, a class, a function, as a value -/
theorem pe_glob {x : Str} {v : V} {u : Value} {pos : Pos} (hg : Gl X x) (hm : X.mg x = some u) (r : RelV v u) (hd : (x == ("__debug__" : Str)) = false := by decide) : PE X (.Name x pos) (tC v) :=
  fun _ _ _ H _ I h => ld_glob I hg hm ⟨v, H, I, r, h⟩ hd
theorem pe_bltn {x : Str} {v : V} {u : Value} {pos : Pos} (hg : Gl X x) (hm : X.mg x = none) (hv : bootBuiltins x = some u) (r : RelV v u) (hn : x ≠ "__name__" := by decide) (hd : (x == ("__debug__" : Str)) = false := by decide) : PE X (.Name x pos) (tC v) :=
  fun _ _ _ H _ I h => ld_blt I hg hm hv ⟨v, H, I, r, h⟩ hn hd

/-! ### arithmetic -/
/-- two ints -/
def t2I (ta tb : TE) (k : Int → Int → Hp → Prop) : St → Hp → Prop := fun σ H => ta σ H fun x H1 => tb σ H1 fun y H2 => ∃ i j, x = .int i ∧ y = .int j ∧ k i j H2
def tAdd (ta tb : TE) : TE := fun σ H Q => t2I ta tb (fun i j H2 => Q (.int (i + j)) H2) σ H
def tSub (ta tb : TE) : TE := fun σ H Q => t2I ta tb (fun i j H2 => Q (.int (i - j)) H2) σ H
/-- the left factor below 2^64 -/
def tMul (ta tb : TE) : TE := fun σ H Q => t2I ta tb (fun i j H2 => (-(2 ^ 64) < i ∧ i < 2 ^ 64) ∧ Q (.int (i * j)) H2) σ H
variable {a b : Expr} {ta tb : TE} {pos : Pos}
theorem pe_add (ha : PE X a ta) (hb : PE X b tb) : PE X (.BinOp a .Add b pos) (tAdd ta tb) := by
  intro pins s σ H Q I h
  refine wpAny_BinOp (bin ha hb I h fun v u s2 x y H2 I2 rx ry q => ?_)
  obtain ⟨i, j, rfl, rfl, q⟩ := q
  obtain ⟨t, rfl⟩ := rx
  obtain ⟨t', rfl⟩ := ry
  exact add_int ⟨.int _, H2, I2.tok _, ⟨_, rfl⟩, q⟩
theorem pe_sub (ha : PE X a ta) (hb : PE X b tb) : PE X (.BinOp a .Sub b pos) (tSub ta tb) := by
  intro pins s σ H Q I h
  refine wpAny_BinOp (bin ha hb I h fun v u s2 x y H2 I2 rx ry q => ?_)
  obtain ⟨i, j, rfl, rfl, q⟩ := q
  obtain ⟨t, rfl⟩ := rx
  obtain ⟨t', rfl⟩ := ry
  exact sub_int ⟨.int _, H2, I2.tok _, ⟨_, rfl⟩, q⟩
theorem pe_mul (ha : PE X a ta) (hb : PE X b tb) : PE X (.BinOp a .Mult b pos) (tMul ta tb) := by
  intro pins s σ H Q I h
  refine wpAny_BinOp (bin ha hb I h fun v u s2 x y H2 I2 rx ry q => ?_)
  obtain ⟨i, j, rfl, rfl, ⟨q1, q2⟩, q⟩ := q
  obtain ⟨t, rfl⟩ := rx
  obtain ⟨t', rfl⟩ := ry
  exact mul_int ⟨.int _, H2, I2.tok _, ⟨_, rfl⟩, q⟩ (.of_left (intBits_le_64 q1 q2))

/-! ### comparisons -/
def PC (X : Cx) (op : CmpOp) (a b : Expr) (t : TE) : Prop :=
  ∀ (pins : List (Addr × Obj)) (s : Shared) (σ : St) (H : Hp) (Q : VK), Inv X pins σ H s → t σ H Q →
    wpAny (model X.prog X.w) X.A (eval a X.env) (fun v s₁ => wpAny (model X.prog X.w) X.A (eval b X.env) (fun u s₂ => wpAny (model X.prog X.w) X.A (compareOp op v u) (EP X pins σ Q) X.xe s₂) X.xe s₁) X.xe s
theorem nobehind (b : Expr) {op : CmpOp} (h : op ≠ .In) (h2 : op ≠ .NotIn) : behindInMarks op b = false := by
  have e1 : (op == CmpOp.In) = false := by cases op <;> first | rfl | exact absurd rfl h
  have e2 : (op == CmpOp.NotIn) = false := by cases op <;> first | rfl | exact absurd rfl h2
  cases b <;> simp [behindInMarks, e1, e2]
def tCmp (p : Int → Int → Bool) (ta tb : TE) : TE := fun σ H Q => t2I ta tb (fun i j H2 => Q (.bl (p i j)) H2) σ H
abbrev tLt : TE → TE → TE := tCmp fun i j => decide (i < j)
abbrev tLe : TE → TE → TE := tCmp fun i j => decide (i ≤ j)
abbrev tGt : TE → TE → TE := tCmp fun i j => decide (j < i)
abbrev tGe : TE → TE → TE := tCmp fun i j => decide (j ≤ i)
abbrev tEqI : TE → TE → TE := tCmp fun i j => decide (i = j)
abbrev tNeI : TE → TE → TE := tCmp fun i j => !decide (i = j)
/-- a comparison of two ints, by its rule -/
theorem pc_int {op : CmpOp} {p : Int → Int → Bool} (ha : PE X a ta) (hb : PE X b tb)
    (rule : ∀ (i j : Int) (t u : Tok) (Q : Value → Shared → Prop) (s : Shared), Q (.bool (p i j)) s → wpAny (model X.prog X.w) X.A (compareOp op (.int i t) (.int j u)) Q X.xe s) : PC X op a b (tCmp p ta tb) := by
  intro pins s σ H Q I h
  refine bin ha hb I h fun v u s2 x y H2 I2 rx ry q => ?_
  obtain ⟨i, j, rfl, rfl, q⟩ := q
  obtain ⟨t, rfl⟩ := rx
  obtain ⟨t', rfl⟩ := ry
  exact rule i j t t' _ s2 ⟨.bl _, H2, I2, rfl, q⟩
theorem pc_lt (ha : PE X a ta) (hb : PE X b tb) : PC X .Lt a b (tLt ta tb) := pc_int ha hb fun _ _ _ _ _ _ h => lt_int h
theorem pc_le (ha : PE X a ta) (hb : PE X b tb) : PC X .LtE a b (tLe ta tb) := pc_int ha hb fun _ _ _ _ _ _ h => le_int h
theorem pc_gt (ha : PE X a ta) (hb : PE X b tb) : PC X .Gt a b (tGt ta tb) := pc_int ha hb fun _ _ _ _ _ _ h => gt_int h
theorem pc_ge (ha : PE X a ta) (hb : PE X b tb) : PC X .GtE a b (tGe ta tb) := pc_int ha hb fun _ _ _ _ _ _ h => ge_int h
theorem pc_eqI (ha : PE X a ta) (hb : PE X b tb) : PC X .Eq a b (tEqI ta tb) := pc_int ha hb fun _ _ _ _ _ _ h => eq_int (by rw [Bool.beq_eq_decide_eq]; exact h)
theorem pc_neI (ha : PE X a ta) (hb : PE X b tb) : PC X .NotEq a b (tNeI ta tb) := pc_int ha hb fun _ _ _ _ _ _ h => ne_int (by rw [bne, Bool.beq_eq_decide_eq]; exact h)
/-- is None -/
def tIsN (ta : TE) : TE := fun σ H Q => ta σ H fun x H1 => Q (.bl (decide (x = .non))) H1
def tNotN (ta : TE) : TE := fun σ H Q => ta σ H fun x H1 => Q (.bl (!decide (x = .non))) H1
theorem RelV.none_iff {x : V} {v : Value} (r : RelV x v) : (v == Value.none) = decide (x = .non) := by
  cases x with
  | non => cases r; rfl
  | bl _ => cases r; rfl
  | int _ => obtain ⟨t, rfl⟩ := r; rfl
  | str _ => obtain ⟨t, rfl⟩ := r; rfl
  | byt _ => obtain ⟨t, rfl⟩ := r; rfl
  | flt _ => obtain ⟨t, rfl⟩ := r; rfl
  | ref _ => cases r; rfl
  | ty _ => cases r; rfl
theorem pc_isN {j pos'} (ha : PE X a ta) : PC X .Is a (.Constant .none j pos') (tIsN ta) := by
  intro pins s σ H Q I h
  refine thn (ha pins s σ H _ I h) fun v s1 ⟨x, H1, I1, r1, q1⟩ => ?_
  exact Constant_none (is_none_gen ⟨.bl _, H1, I1, by rw [r1.none_iff]; rfl, q1⟩)
theorem pc_notN {j pos'} (ha : PE X a ta) : PC X .IsNot a (.Constant .none j pos') (tNotN ta) := by
  intro pins s σ H Q I h
  refine thn (ha pins s σ H _ I h) fun v s1 ⟨x, H1, I1, r1, q1⟩ => ?_
  exact Constant_none (isnot_none_gen ⟨.bl _, H1, I1, by rw [r1.none_iff]; rfl, q1⟩)
/-- a comparison as a value, as a test -/
def tB (t : TE) : TT := fun σ H Q => t σ H fun x H1 => ∃ c, x = .bl c ∧ Q c H1
theorem pe_cmp {op : CmpOp} {t : TE} (h : PC X op a b t) (h1 : behindInMarks op b = false := by first | exact nobehind _ (by decide) (by decide) | rfl) : PE X (.Compare a [op] [b] pos) t := fun pins s σ H Q I hw => wpAny_Compare1 (h pins s σ H Q I hw) h1
theorem pt_cmp {op : CmpOp} {t : TE} (h : PC X op a b t) (h1 : behindInMarks op b = false := by first | exact nobehind _ (by decide) (by decide) | rfl) : PT X (.Compare a [op] [b] pos) (tB t) := by
  intro pins s σ H Q I hw
  refine wpAny_isTrue_Compare1 (thn (h pins s σ H _ I hw) fun v s1 h1 => thn h1 fun u s2 h2 => thn h2 fun c s3 ⟨x, H1, I1, r1, q1⟩ => ?_) h1
  obtain ⟨d, rfl, q⟩ := q1
  cases r1
  exact wpAny_truthy_bool ⟨H1, I1, q⟩
/-- an expression whose value is a bool, as a test -/
theorem pt_val {e : Expr} {t : TE} (h : PE X e t) (he : ∀ whole, isTrue e X.env whole = (do let v ← whole; standAt e.pos; holding [v] (truthy v)) := by intro _; rfl) : PT X e (tB t) := by
  intro pins s σ H Q I hw
  refine isTrue_plain (thn (h pins s σ H _ I hw) fun v s1 ⟨x, H1, I1, r1, q1⟩ => ?_) (he _)
  obtain ⟨d, rfl, q⟩ := q1
  cases r1
  exact wpAny_truthy_bool ⟨H1, I1, q⟩

/-! ### and, or, not -/
variable {tA tB' : TT} {rest : List Expr}
def tAnd (t u : TT) : TT := fun σ H Q => t σ H fun c H1 => if c = true then u σ H1 Q else Q false H1
def tOr (t u : TT) : TT := fun σ H Q => t σ H fun c H1 => if c = true then Q true H1 else u σ H1 Q
def tNot (t : TT) : TT := fun σ H Q => t σ H fun c H1 => Q (!c) H1
theorem pw_and1 (ha : PT X a tA) : PW X (.BoolOp .And [a] pos) tA := by
  intro wh pins s σ H Q I h
  refine isTrue_and (thn (ha pins s σ H Q I h) fun c s1 e => ?_)
  cases c with
  | true => exact isTrue_and_nil e
  | false => exact e
theorem pw_or1 (ha : PT X a tA) : PW X (.BoolOp .Or [a] pos) tA := by
  intro wh pins s σ H Q I h
  refine isTrue_or (thn (ha pins s σ H Q I h) fun c s1 e => ?_)
  cases c with
  | false => exact isTrue_or_nil e
  | true => exact e
theorem pw_and (ha : PT X a tA) (hb : PW X (.BoolOp .And (b :: rest) pos) tB') : PW X (.BoolOp .And (a :: b :: rest) pos) (tAnd tA tB') := by
  intro wh pins s σ H Q I h
  refine isTrue_and (thn (ha pins s σ H _ I h) fun c s1 ⟨H1, I1, q1⟩ => ?_)
  cases c with
  | true => exact hb wh pins s1 σ H1 Q I1 q1
  | false => exact ⟨H1, I1, q1⟩
theorem pw_or (ha : PT X a tA) (hb : PW X (.BoolOp .Or (b :: rest) pos) tB') : PW X (.BoolOp .Or (a :: b :: rest) pos) (tOr tA tB') := by
  intro wh pins s σ H Q I h
  refine isTrue_or (thn (ha pins s σ H _ I h) fun c s1 ⟨H1, I1, q1⟩ => ?_)
  cases c with
  | true => exact ⟨H1, I1, q1⟩
  | false => exact hb wh pins s1 σ H1 Q I1 q1
theorem pt_not (ha : PT X a tA) : PT X (.UnaryOp .Not a pos) (tNot tA) := by
  intro pins s σ H Q I h
  exact isTrue_not (ha pins s σ H (fun c H1 => Q (!c) H1) I h)
/-- .. as values (bools) -/
def tAndV (ta tb : TE) : TE := fun σ H Q => ta σ H fun x H1 => ∃ c, x = .bl c ∧ if c = true then tb σ H1 Q else Q (.bl false) H1
def tOrV (ta tb : TE) : TE := fun σ H Q => ta σ H fun x H1 => ∃ c, x = .bl c ∧ if c = true then Q (.bl true) H1 else tb σ H1 Q
def tNotV (ta : TE) : TE := fun σ H Q => ta σ H fun x H1 => ∃ c, x = .bl c ∧ Q (.bl (!c)) H1
theorem pe_one {op} {t : TE} (h : PE X a t) : PE X (.BoolOp op [a] pos) t := fun pins s σ H Q I hw => BoolOp_one (h pins s σ H Q I hw)
theorem pe_and (ha : PE X a ta) (hb : PE X (.BoolOp .And (b :: rest) pos) tb) : PE X (.BoolOp .And (a :: b :: rest) pos) (tAndV ta tb) := by
  intro pins s σ H Q I h
  refine BoolOp_and (thn (ha pins s σ H _ I h) fun v s1 ⟨x, H1, I1, r1, q1⟩ => ?_)
  obtain ⟨c, rfl, q1⟩ := q1
  cases r1
  refine wpAny_truthy_bool ?_
  cases c with
  | true => exact hb pins s1 σ H1 Q I1 q1
  | false => exact ⟨.bl false, H1, I1, rfl, q1⟩
theorem pe_or (ha : PE X a ta) (hb : PE X (.BoolOp .Or (b :: rest) pos) tb) : PE X (.BoolOp .Or (a :: b :: rest) pos) (tOrV ta tb) := by
  intro pins s σ H Q I h
  refine BoolOp_or (thn (ha pins s σ H _ I h) fun v s1 ⟨x, H1, I1, r1, q1⟩ => ?_)
  obtain ⟨c, rfl, q1⟩ := q1
  cases r1
  refine wpAny_truthy_bool ?_
  cases c with
  | false => exact hb pins s1 σ H1 Q I1 q1
  | true => exact ⟨.bl true, H1, I1, rfl, q1⟩
theorem pe_not (ha : PE X a ta) : PE X (.UnaryOp .Not a pos) (tNotV ta) := by
  intro pins s σ H Q I h
  refine UnaryOp_ (thn (ha pins s σ H _ I h) fun v s1 ⟨x, H1, I1, r1, q1⟩ => ?_)
  obtain ⟨c, rfl, q1⟩ := q1
  cases r1
  exact not_of (wpAny_truthy_bool ⟨.bl (!c), H1, I1, rfl, q1⟩)
/-- a if t else b -/
def tIf (t : TT) (ta tb : TE) : TE := fun σ H Q => t σ H fun c H1 => if c = true then ta σ H1 Q else tb σ H1 Q
theorem pe_ifExp {c : Expr} (hc : PT X c tA) (ha : PE X a ta) (hb : PE X b tb) : PE X (.IfExp c a b pos) (tIf tA ta tb) := by
  intro pins s σ H Q I h
  refine wpAny_IfExp (thn (hc pins s σ H _ I h) fun d s1 ⟨H1, I1, q1⟩ => ?_)
  cases d with
  | true => exact ha pins s1 σ H1 Q I1 q1
  | false => exact hb pins s1 σ H1 Q I1 q1
end
end L2

namespace L2
open PySem PySem.Spec PyProof.Rows

/-! ### a list, a tuple that is read: tracked, frozen, or an object of the module -/
def SqL (K : PySem.W.Frag) (H : Hp) (a : Addr) (xs : List V) : Prop :=
  Rd H a (.lst xs) ∨
    ∃ (o : Obj) (its : Array Value) (n : Nat), K.lookup a = some o ∧ o.cls = .type "list" ∧ o.dict = none ∧ o.data = .seq its n ∧ its.size ≤ sizeLine ∧ Vals xs its.toList
def SqT (K : PySem.W.Frag) (H : Hp) (a : Addr) (xs : List V) : Prop :=
  Rd H a (.tup xs) ∨
    ∃ (o : Obj) (its : Array Value) (n : Nat), K.lookup a = some o ∧ o.cls = .type "tuple" ∧ o.data = .seq its n ∧ its.size ≤ sizeLine ∧ Vals xs its.toList
def absV : Value → Option V
  | .none => some .non
  | .bool b => some (.bl b)
  | .int i _ => some (.int i)
  | .str x _ => some (.str x)
  | .bytes b _ => some (.byt b)
  | .float b _ => some (.flt b)
  | .ref a => some (.ref a)
  | .type n => some (.ty n)
  | _ => none
theorem RelV.abs {x : V} {u : Value} (r : RelV x u) : absV u = some x := by
  cases x with
  | non => cases r; rfl
  | bl _ => cases r; rfl
  | int _ => obtain ⟨t, rfl⟩ := r; rfl
  | str _ => obtain ⟨t, rfl⟩ := r; rfl
  | byt _ => obtain ⟨t, rfl⟩ := r; rfl
  | flt _ => obtain ⟨t, rfl⟩ := r; rfl
  | ref _ => cases r; rfl
  | ty _ => cases r; rfl
theorem RelV.inj {x y : V} {u : Value} (r : RelV x u) (q : RelV y u) : x = y := Option.some.inj (r.abs.symm.trans q.abs)
theorem Vals.inj : ∀ {xs ys : List V} {us : List Value}, Vals xs us → Vals ys us → xs = ys
  | _, _, _, .nil, .nil => rfl
  | _, _, _, .cons r t, .cons r' t' => by rw [r.inj r', Vals.inj t t']
section
variable {X : Cx} {pins : List (Addr × Obj)} {σ : St} {H : Hp} {s : Shared} {a : Addr} {xs ys : List V}
theorem SqL.of {K : PySem.W.Frag} (h : H a = some (.lst xs)) : SqL K H a xs := .inl (.inl h)
theorem SqT.of {K : PySem.W.Frag} (h : H a = some (.tup xs)) : SqT K H a xs := .inl (.inl h)
theorem Inv.list (I : Inv X pins σ H s) (h : SqL X.K H a xs) : ∃ its : List Value, Vals xs its ∧ PlainL s.heap a its.toArray ∧ xs.length ≤ sizeLine := by
  rcases h with h | ⟨o, its, n, hk, hc, hd, hs, hz, r⟩
  · obtain ⟨z, its, n, r, e⟩ := h.ok I.hok
    exact ⟨its, r, ⟨_, n, e, rfl, rfl, rfl⟩, z⟩
  · refine ⟨its.toList, r, ⟨o, n, I.kIn a o hk, hc, hd, by simpa using hs⟩, ?_⟩
    have e := r.length
    simp only [Array.length_toList] at e
    omega
theorem Inv.tuple (I : Inv X pins σ H s) (h : SqT X.K H a xs) : ∃ its : List Value, Vals xs its ∧ IsTup s.heap a its.toArray ∧ xs.length ≤ sizeLine := by
  rcases h with h | ⟨o, its, n, hk, hc, hs, hz, r⟩
  · obtain ⟨z, its, r, p⟩ := h.ok I.hok
    exact ⟨its, r, p, z⟩
  · refine ⟨its.toList, r, ⟨o, I.kIn a o hk, hc, n, by simpa using hs⟩, ?_⟩
    have e := r.length
    simp only [Array.length_toList] at e
    omega
theorem Inv.list_inj (I : Inv X pins σ H s) (h : SqL X.K H a xs) (h' : SqL X.K H a ys) : xs = ys := by
  obtain ⟨its, r, ⟨o, n, e, _, _, d⟩, _⟩ := I.list h
  obtain ⟨its', r', ⟨o', n', e', _, _, d'⟩, _⟩ := I.list h'
  rw [e] at e'; cases e'
  rw [d] at d'
  injection d' with d1 _
  have : its = its' := by simpa using congrArg Array.toList d1
  subst this
  exact r.inj r'
theorem Inv.tuple_inj (I : Inv X pins σ H s) (h : SqT X.K H a xs) (h' : SqT X.K H a ys) : xs = ys := by
  obtain ⟨its, r, ⟨o, e, _, n, d⟩, _⟩ := I.tuple h
  obtain ⟨its', r', ⟨o', e', _, n', d'⟩, _⟩ := I.tuple h'
  rw [e] at e'; cases e'
  rw [d] at d'
  injection d' with d1 _
  have : its = its' := by simpa using congrArg Array.toList d1
  subst this
  exact r.inj r'
end

/-! ### another wish about exceptions -/
abbrev Cx.wish (X : Cx) (E : Value → Shared → Prop) : Cx := { X with xe := E }
/-- no exception leaves -/
abbrev Cx.nox (X : Cx) : Cx := X.wish fun _ _ => False
theorem Cx.Ok.wish {X : Cx} (ok : X.Ok) (E : Value → Shared → Prop) : (X.wish E).Ok :=
  ⟨ok.mod, ok.kind, ok.glob, ok.blt, ok.above, ok.inj, ok.has, ok.cab, ok.hd, ok.frames, ok.stk, ok.exf, ok.bs, ok.bsz, ok.noex, ok.exfs, ok.funs, ok.frf⟩
theorem Cx.Ok.unwish {X : Cx} {E : Value → Shared → Prop} (ok : (X.wish E).Ok) : X.Ok :=
  ⟨ok.mod, ok.kind, ok.glob, ok.blt, ok.above, ok.inj, ok.has, ok.cab, ok.hd, ok.frames, ok.stk, ok.exf, ok.bs, ok.bsz, ok.noex, ok.exfs, ok.funs, ok.frf⟩
section
variable {X : Cx} {pins : List (Addr × Obj)} {σ : St} {H : Hp} {s : Shared} {E : Value → Shared → Prop}
theorem Inv.wish (I : Inv X pins σ H s) (E : Value → Shared → Prop) : Inv (X.wish E) pins σ H s := ⟨I.ok.wish E, I.os, I.bare, I.base, I.loc, I.cell, I.free, I.freeC, I.pin, I.hok, I.len⟩
theorem Inv.unwish (I : Inv (X.wish E) pins σ H s) : Inv X pins σ H s := ⟨I.ok.unwish, I.os, I.bare, I.base, I.loc, I.cell, I.free, I.freeC, I.pin, I.hok, I.len⟩
theorem SP.unwish {D : Ends} {f : Flow} {s' : Shared} (h : SP (X.wish E) pins D f s') : SP X pins D f s' := by
  cases f with
  | next => obtain ⟨σ', H', I, q⟩ := h; exact ⟨σ', H', I.unwish, q⟩
  | brk => obtain ⟨σ', H', I, q⟩ := h; exact ⟨σ', H', I.unwish, q⟩
  | cont => obtain ⟨σ', H', I, q⟩ := h; exact ⟨σ', H', I.unwish, q⟩
  | ret u => obtain ⟨v, σ', H', I, r, q⟩ := h; exact ⟨v, σ', H', I.unwish, r, q⟩
theorem PE.nox {e : Expr} {t : TE} (h : PE X.nox e t) : PE X e t := fun pins s σ H Q I hw =>
  wpAny_mono (h pins s σ H Q (I.wish _) hw) (fun _ _ ⟨v, H', I', r, q⟩ => ⟨v, H', I'.unwish, r, q⟩) fun _ _ z => False.elim z
theorem PT.nox {e : Expr} {t : TT} (h : PT X.nox e t) : PT X e t := fun pins s σ H Q I hw =>
  wpAny_mono (h pins s σ H Q (I.wish _) hw) (fun _ _ ⟨H', I', q⟩ => ⟨H', I'.unwish, q⟩) fun _ _ z => False.elim z
theorem PSs.nox {st : List Stmt} {t : TS} (h : PSs X.nox st t) : PSs X st t := fun pins s σ H D I hw =>
  wpAny_mono (h pins s σ H D (I.wish _) hw) (fun _ _ q => q.unwish) fun _ _ z => False.elim z
end

/-! ### blocks and small statements -/
section
variable {X : Cx} {st : Stmt} {rest : List Stmt} {t u : TS} {e : Expr} {te : TE} {pos : Pos}
def tNext : TS := fun D σ H => D.nx σ H
def tSeq (t u : TS) : TS := fun D σ H => t { D with nx := u D } σ H
theorem pss_nil : PSs X [] tNext := fun _ _ σ H _ I h => wpAny_execs_nil ⟨σ, H, I, h⟩
theorem pss_cons (h1 : PS X st t) (h2 : PSs X rest u) : PSs X (st :: rest) (tSeq t u) := by
  intro pins s σ H D I h
  refine wpAny_execs_cons (thn (h1 pins s σ H { D with nx := u D } I h) fun f s1 q => ?_)
  cases f with
  | next =>
    obtain ⟨σ', H', I', q⟩ := q
    exact h2 pins s1 σ' H' D I' q
  | ret v => exact q
  | brk => exact q
  | cont => exact q
theorem pss_one (h1 : PS X st t) : PSs X [st] t := by
  intro pins s σ H D I h
  refine wpAny_execs_cons (thn (h1 pins s σ H D I h) fun f s1 q => ?_)
  cases f with
  | next => exact wpAny_execs_nil q
  | ret v => exact q
  | brk => exact q
  | cont => exact q
def tBreak : TS := fun D σ H => D.bk σ H
def tCont : TS := fun D σ H => D.ct σ H
theorem ps_pass : PS X (.Pass pos) tNext := fun _ _ σ H _ I h => wpAny_Pass ⟨σ, H, I, h⟩
theorem ps_break : PS X (.Break pos) tBreak := fun _ _ σ H _ I h => wpAny_Break ⟨σ, H, I, h⟩
theorem ps_continue : PS X (.Continue pos) tCont := fun _ _ σ H _ I h => wpAny_Continue ⟨σ, H, I, h⟩
/-- in a def's body nothing is shown -/
theorem Inv.quiet {pins : List (Addr × Obj)} {σ : St} {H : Hp} {s : Shared} (I : Inv X pins σ H s) : interactive X.env = false := by simp [interactive, I.ok.kind]
/-- a docstring -/
theorem ps_doc {x j pos pos'} : PS X (.Expr (.Constant (.str x) j pos) pos') tNext := fun _ s σ H _ I h => wpAny_Expr (Calls.Constant_str (show SP X _ _ .next { s with toks := s.toks + 1 } from ⟨σ, H, I.tok _, h⟩)) I.quiet
/-- an expression whose value is dropped -/
def tDrop (te : TE) : TS := fun D σ H => te σ H fun _ H1 => D.nx σ H1
theorem ps_expr (he : PE X e te) (hs : swapsWith e none pos.line X.env = pure false := by rfl) : PS X (.Expr e pos) (tDrop te) := by
  intro pins s σ H D I h
  exact wpAny_Expr_any (thn (he pins s σ H _ I h) fun v s1 ⟨x, H1, I1, r1, q1⟩ => ⟨σ, H1, I1, q1⟩) I.quiet hs
def tRet (te : TE) : TS := fun D σ H => te σ H D.rt
theorem ps_ret (he : PE X e te) : PS X (.Return (some e) pos) (tRet te) := by
  intro pins s σ H D I h
  exact wpAny_Return_some (thn (he pins s σ H _ I h) fun v s1 ⟨x, H1, I1, r1, q1⟩ => ⟨x, σ, H1, I1, r1, q1⟩)
def tRetN : TS := fun D _ H => D.rt .non H
theorem ps_retN : PS X (.Return none pos) tRetN := fun _ _ σ H _ I h => wpAny_Return_none ⟨.non, σ, H, I, rfl, h⟩
def tIfS (c : TT) (t u : TS) : TS := fun D σ H => c σ H fun b H1 => if b = true then t D σ H1 else u D σ H1
theorem ps_if {c : Expr} {a b : List Stmt} {tc : TT} (hc : PT X c tc) (ha : PSs X a t) (hb : PSs X b u) : PS X (.If c a b pos) (tIfS tc t u) := by
  intro pins s σ H D I h
  refine wpAny_If (thn (hc pins s σ H _ I h) fun d s1 ⟨H1, I1, q1⟩ => ?_)
  cases d with
  | true => exact ha pins s1 σ H1 D I1 q1
  | false => exact hb pins s1 σ H1 D I1 q1
/-- code that the proof never comes to -/
def tNever : TS := fun _ _ _ => False
theorem ps_never : PS X st tNever := fun _ _ _ _ _ _ h => h.elim
theorem pss_never {sts : List Stmt} : PSs X sts tNever := fun _ _ _ _ _ _ h => h.elim
end

/-! ### targets -/
abbrev TG := V → St → Hp → (St → Hp → Prop) → Prop
abbrev TGs := List V → St → Hp → (St → Hp → Prop) → Prop
def PG (X : Cx) (target : Expr) (t : TG) : Prop :=
  ∀ (pins : List (Addr × Obj)) (s : Shared) (σ : St) (H : Hp) (v : V) (u : Value) (Q : St → Hp → Prop), Inv X pins σ H s → RelV v u → t v σ H Q →
    wpAny (model X.prog X.w) X.A (assign target X.env u) (fun _ s' => ∃ σ' H', Inv X pins σ' H' s' ∧ Q σ' H') X.xe s
/-- several targets, one after another -/
def PGs (X : Cx) (ts : List Expr) (t : TGs) : Prop :=
  ∀ (pins : List (Addr × Obj)) (s : Shared) (σ : St) (H : Hp) (vs : List V) (us : List Value) (Q : St → Hp → Prop), Inv X pins σ H s → Vals vs us → t vs σ H Q →
    wpAny (model X.prog X.w) X.A (assignInOrder ((assignEach ts X.env).map (·.2)) us) (fun _ s' => ∃ σ' H', Inv X pins σ' H' s' ∧ Q σ' H') X.xe s
/-- o[i] = v, by values -/
abbrev TSet := V → V → V → Hp → (Hp → Prop) → Prop
def PSet (X : Cx) (t : TSet) : Prop :=
  ∀ (pins : List (Addr × Obj)) (s : Shared) (σ : St) (H : Hp) (o i v : V) (ov iv u : Value) (Q : Hp → Prop), Inv X pins σ H s → RelV o ov → RelV i iv → RelV v u → t o i v H Q →
    wpAny (model X.prog X.w) X.A (setItem ov iv u) (fun _ s' => ∃ H', Inv X pins σ H' s' ∧ Q H') X.xe s
/-- a op= b, by values -/
abbrev TIp := V → V → Hp → VK → Prop
def PIp (X : Cx) (op : Operator) (t : TIp) : Prop :=
  ∀ (pins : List (Addr × Obj)) (s : Shared) (σ : St) (H : Hp) (x y : V) (v u : Value) (Q : VK), Inv X pins σ H s → RelV x v → RelV y u → t x y H Q →
    wpAny (model X.prog X.w) X.A (inplaceOp op v u) (EP X pins σ Q) X.xe s
section
variable {X : Cx} {pos : Pos}
def gName (i : Nat) : TG := fun v σ H Q => Q (σ.set i (some v)) H
theorem pg_name {i : Nat} {x : Str} (hN : X.N.Nodup) (hi : X.N[i]? = some x) (hx : Loc X.env.scope x) (hf : X.fn x = true ∨ X.env.scope.names.lookup x = some .local := by first | exact .inl rfl | exact .inr rfl | assumption) : PG X (.Name x pos) (gName i) := by
  intro pins s σ H v u Q I r h
  exact wpAny_assign_Name (store_ok I hN hi hx r (fun s' I' => ⟨_, H, I', h⟩) hf)
def gNil : TGs := fun vs σ H Q => vs = [] ∧ Q σ H
def gCons (t : TG) (u : TGs) : TGs := fun vs σ H Q => ∃ v r, vs = v :: r ∧ t v σ H fun σ' H' => u r σ' H' Q
theorem pgs_nil : PGs X [] gNil := by
  intro pins s σ H vs us Q I r h
  obtain ⟨e, h⟩ := h
  subst e
  cases r
  exact assignInOrder_nil ⟨σ, H, I, h⟩
theorem pgs_cons {e : Expr} {es : List Expr} {t : TG} {u : TGs} (h1 : PG X e t) (h2 : PGs X es u)
    (hs : (assignEach (e :: es) X.env).map (·.2) = assign e X.env :: (assignEach es X.env).map (·.2) := by rfl) : PGs X (e :: es) (gCons t u) := by
  intro pins s σ H vs us Q I r h
  obtain ⟨v, vr, e1, h⟩ := h
  subst e1
  cases r with
  | cons r rr =>
    rw [hs]
    refine assignInOrder_cons (thn (h1 pins s σ H _ _ _ I r h) fun _ s1 ⟨σ1, H1, I1, q1⟩ => ?_)
    exact h2 pins s1 σ1 H1 _ _ Q I1 rr q1
/-- (a, b, ..) = a tuple of that length -/
def gTup (K : PySem.W.Frag) (n : Nat) (t : TGs) : TG := fun v σ H Q => ∃ a xs, v = .ref a ∧ SqT K H a xs ∧ xs.length = n ∧ t xs σ H Q
theorem pg_tup {es : List Expr} {k : Nat} {t : TGs} {n : Nat} (hc : X.calm = true) (h : PGs X es t)
    (hn : (assignEach es X.env).length = n := by rfl) (hst : (assignEach es X.env).findIdx? (·.1) = none := by rfl) : PG X (.Tuple es k pos) (gTup X.K n t) := by
  intro pins s σ H v u Q I r hw
  obtain ⟨a, xs, e1, hq, hl, hw⟩ := hw
  subst e1
  cases r
  obtain ⟨its, rv, ht, hz⟩ := I.tuple hq
  refine assign_Tuple_tuple (I.ok.hd hc) ht (by simp [hn, ← hl, rv.length]) hst fun h' hx => ?_
  have I1 : Inv X pins σ H { s with heap := h' } := I.kept (t' := s.toks) fun b o e => hx b o (Nat.ne_of_lt (Heap.lt_size e)) e
  exact h pins _ σ H xs _ Q I1 (by simpa using rv) hw
/-- o[i] = .. -/
def gSub (to ti : TE) (t : TSet) : TG := fun v σ H Q => to σ H fun o H1 => ti σ H1 fun i H2 => t o i v H2 fun H3 => Q σ H3
theorem pg_sub {o i : Expr} {to ti : TE} {t : TSet} (ho : PE X o to) (hi : PE X i ti) (hs : PSet X t)
    (ha : ∀ v, assign (.Subscript o i pos) X.env v = (do
      let ov ← holding [v] (eval o X.env)
      let iv ← holding [v, ov] (eval i X.env)
      standAt pos
      holding [v, ov, iv] (setItem ov iv v)
      release [v, ov, iv] []) := by intro _; rfl) : PG X (.Subscript o i pos) (gSub to ti t) := by
  intro pins s σ H v u Q I r h
  rw [ha]
  refine wpAny_bind (wpAny_holding (thn (ho pins s σ H _ I h) fun ov s1 ⟨x, H1, I1, r1, q1⟩ => ?_))
  refine wpAny_bind (wpAny_holding (thn (hi pins s1 σ H1 _ I1 q1) fun iv s2 ⟨y, H2, I2, r2, q2⟩ => ?_))
  refine wpAny_bind (wpAny_standAt (wpAny_bind (wpAny_holding (thn (hs pins s2 σ H2 x y v ov iv u _ I2 r1 r2 r q2) fun _ s3 ⟨H3, I3, q3⟩ => ?_))))
  exact wpAny_release ⟨σ, H3, I3, q3⟩
/-- target = value -/
def tAsg (te : TE) (g : TG) : TS := fun D σ H => te σ H fun x H1 => g x σ H1 D.nx
theorem ps_asg {tg e : Expr} {te : TE} {g : TG} (he : PE X e te) (hg : PG X tg g) (hs : swapsWithSole [tg] e pos.line X.env = pure false := by rfl) (hw : swappedStores [tg] e X.env = pure none := by rfl)
    (h1 : (assignEach [tg] X.env).map (·.2) = [assign tg X.env] := by rfl) : PS X (.Assign [tg] e pos) (tAsg te g) := by
  intro pins s σ H D I h
  refine wpAny_Assign_stores (thn (he pins s σ H _ I h) fun v s1 ⟨x, H1, I1, r1, q1⟩ => ?_) hs hw
  rw [h1]
  exact thn (hg pins s1 σ H1 x v _ I1 r1 q1) fun _ s2 q => q
/-- name = value -/
theorem ps_set {i : Nat} {x : Str} {e : Expr} {te : TE} {pos' : Pos} (hN : X.N.Nodup) (hi : X.N[i]? = some x) (hx : Loc X.env.scope x) (he : PE X e te) (hs : swapsWith e (some (.Name x pos')) pos.line X.env = pure false := by rfl) (hf : X.fn x = true ∨ X.env.scope.names.lookup x = some .local := by first | exact .inl rfl | exact .inr rfl | assumption) :
    PS X (.Assign [.Name x pos'] e pos) (tAsg te (gName i)) := by
  intro pins s σ H D I h
  refine wpAny_Assign_Name (thn (he pins s σ H _ I h) fun v s1 ⟨y, H1, I1, r1, q1⟩ => ?_) hs
  exact store_ok I1 hN hi hx r1 (fun s2 I2 => ⟨_, H1, I2, q1⟩) hf
/-- a, b = x, y with plain local names: stored from the right; the pair itself is not tracked (the opening rows as in PyProof/Rows/TupAssign.lean:23) -/
def tPar (i j : Nat) (ta : TA) : TS := fun D σ H => ta σ H fun vs H1 => ∃ v w, vs = [v, w] ∧ D.nx ((σ.set i (some v)).set j (some w)) H1
theorem ps_par {i j : Nat} {x y : Str} {a b : Expr} {ta : TA} {px py pt : Pos} {kt k2 pt2} (hc : X.calm = true) (hN : X.N.Nodup) (hi : X.N[i]? = some x) (hj : X.N[j]? = some y) (hij : i ≠ j)
    (hx : X.env.scope.names.lookup x = some .local) (hy : X.env.scope.names.lookup y = some .local) (ha : PA X [a, b] ta)
    (hw : swappedStores [.Tuple [.Name x px, .Name y py] kt pt] (.Tuple [a, b] k2 pt2) X.env = pure (some [x, y]))
    (hs : swapsWithSole [.Tuple [.Name x px, .Name y py] kt pt] (.Tuple [a, b] k2 pt2) pos.line X.env = pure false := by rfl) :
    PS X (.Assign [.Tuple [.Name x px, .Name y py] kt pt] (.Tuple [a, b] k2 pt2) pos) (tPar i j ta) := by
  intro pins s σ H D I h
  rw [exec_Assign_arm]
  refine wpAny_bind (wpAny_standAt ?_)
  rw [hs]
  refine wpAny_bind (wpAny_pure ?_)
  rw [if_neg (by decide)]
  refine wpAny_bind (Tuple_ (thn (ha _ pins s σ H _ I h) fun us s1 ⟨vs, H1, I1, r1, q1⟩ => ?_))
  obtain ⟨v, w, e1, q1⟩ := q1
  subst e1
  obtain ⟨u1, u2, rfl, rv, rw'⟩ : ∃ u1 u2, us = [u1, u2] ∧ RelV v u1 ∧ RelV w u2 := by
    cases r1 with
    | cons p q =>
      cases q with
      | cons p' q' =>
        cases q'
        exact ⟨_, _, rfl, p, p'⟩
  refine wpAny_newObj_type ?_ (by show 2 ≤ sizeLine; decide)
  have I2 : Inv X pins σ H1 { s1 with heap := s1.heap.push { cls := .type "tuple", data := .seq [u1, u2].toArray } } := I1.kept (t' := s1.toks) fun b o e => Heap.get?_push_of_some _ e
  rw [hw]
  refine wpAny_bind (wpAny_pure ?_)
  show wpAny (model X.prog X.w) X.A (do rule "assign.swapped-stores"; let items ← unpackItems (.ref s1.heap.objs.size) 2 none; assignInOrder [fun v => bindName X.env y v, fun v => bindName X.env x v] items.reverse; pure Flow.next) _ _ _
  refine wpAny_bind (wpAny_rule (wpAny_bind (unpackItems_tuple (items := #[u1, u2]) (I.ok.hd hc) (IsTup.new s1.heap _) fun h' hx' => ?_)))
  have I3 := I2.kept (h' := h') (t' := s1.toks) fun b o e => hx' b o (Nat.ne_of_lt (Heap.lt_size e)) e
  show wpAny _ _ (assignInOrder [fun v => bindName X.env y v, fun v => bindName X.env x v] [u2, u1] >>= fun _ => pure Flow.next) _ _ _
  refine wpAny_bind (assignInOrder_cons (wpAny_bindName (store_ok I3 hN hj (.inl hy) rw' (fun s2 I4 => ?_) (.inr hy))))
  refine assignInOrder_cons (wpAny_bindName (store_ok I4 hN hi (.inl hx) rv (fun s3 I5 => assignInOrder_nil (wpAny_pure ?_)) (.inr hx)))
  rw [List.set_comm _ _ (Ne.symm hij)] at I5
  exact ⟨_, H1, I5, q1⟩
/-- name op= e -/
def tAug (i : Nat) (te : TE) (ti : TIp) : TS := fun D σ H => ∃ x, σ[i]? = some (some x) ∧ te σ H fun y H1 => ti x y H1 fun z H2 => D.nx (σ.set i (some z)) H2
theorem ps_aug {i : Nat} {x : Str} {e : Expr} {te : TE} {op : Operator} {ti : TIp} {pos' : Pos} (hN : X.N.Nodup) (hi : X.N[i]? = some x) (hx : Loc X.env.scope x) (he : PE X e te) (ho : PIp X op ti) (hf : X.fn x = true ∨ X.env.scope.names.lookup x = some .local := by first | exact .inl rfl | exact .inr rfl | assumption) :
    PS X (.AugAssign (.Name x pos') op e pos) (tAug i te ti) := by
  intro pins s σ H D I h
  obtain ⟨v, e1, h⟩ := h
  obtain ⟨m, hn, hl⟩ := I.loc
  have vis : Vis X.env.scope x := by rcases hx with k | k; exact .inl k; exact .inr (.inl k)
  obtain ⟨u, r, l⟩ := hl i x v hi e1 vis
  refine wpAny_AugAssign_Name ?_
  have go : wpAny (model X.prog X.w) X.A (eval e X.env) (fun w s₂ => wpAny (model X.prog X.w) X.A (inplaceOp op u w) (fun r s₃ => wpAny (model X.prog X.w) X.A (storeName X.env x r) (fun _ => SP X pins D .next) X.xe s₃) X.xe s₂) X.xe s := by
    refine thn (he pins s σ H _ I h) fun w s1 ⟨y, H1, I1, r1, q1⟩ => ?_
    refine thn (ho pins s1 σ H1 v y u w _ I1 r r1 q1) fun z s2 ⟨zv, H2, I2, r2, q2⟩ => ?_
    exact store_ok I2 hN hi hx r2 (fun s3 I3 => ⟨_, H2, I3, q2⟩) hf
  rcases l with ⟨hk, hm⟩ | ⟨hk, c, hc, hcell⟩
  · exact wpAny_loadName_local I.ok.kind hk hn hm go
  · rcases hk with hk | hk
    · exact wpAny_loadName_cell I.ok.kind hk hc hcell go
    · rcases hx with k | k
      · have : X.env.scope.names.lookup x = some .free := hk
        rw [k] at this; cases this
      · have : X.env.scope.names.lookup x = some .free := hk
        rw [k] at this; cases this
/-- o[i] op= e -/
def tAugS (to ti te : TE) (tget : V → V → Hp → VK → Prop) (tip : TIp) (tset : TSet) : TS := fun D σ H => to σ H fun o H1 => ti σ H1 fun i H2 => tget o i H2 fun x H3 => te σ H3 fun y H4 => tip x y H4 fun z H5 => tset o i z H5 fun H6 => D.nx σ H6
/-- o[i], by values -/
def PGet (X : Cx) (t : V → V → Hp → VK → Prop) : Prop :=
  ∀ (pins : List (Addr × Obj)) (s : Shared) (σ : St) (H : Hp) (o i : V) (ov iv : Value) (Q : VK), Inv X pins σ H s → RelV o ov → RelV i iv → t o i H Q →
    wpAny (model X.prog X.w) X.A (getItem ov iv) (EP X pins σ Q) X.xe s
theorem ps_augS {o i e : Expr} {to ti te : TE} {tget : V → V → Hp → VK → Prop} {tip : TIp} {tset : TSet} {op : Operator} {tpos : Pos} (ho : PE X o to) (hi : PE X i ti) (hg : PGet X tget) (he : PE X e te) (hp : PIp X op tip) (hs : PSet X tset)
    (ha : ∀ ov iv new, augStore i ov iv new = (do holding [new, ov, iv] (setItem ov iv new); release [new, ov, iv] []; pure .next) := by intros; rfl) : PS X (.AugAssign (.Subscript o i tpos) op e pos) (tAugS to ti te tget tip tset) := by
  intro pins s σ H D I h
  refine wpAny_AugAssign_SubscriptAny (thn (ho pins s σ H _ I h) fun ov s1 ⟨x1, H1, I1, r1, q1⟩ => ?_) ha
  refine thn (hi pins s1 σ H1 _ I1 q1) fun iv s2 ⟨x2, H2, I2, r2, q2⟩ => ?_
  refine thn (hg pins s2 σ H2 x1 x2 ov iv _ I2 r1 r2 q2) fun old s3 ⟨x3, H3, I3, r3, q3⟩ => ?_
  refine thn (he pins s3 σ H3 _ I3 q3) fun v s4 ⟨x4, H4, I4, r4, q4⟩ => ?_
  refine thn (hp pins s4 σ H4 x3 x4 old v _ I4 r3 r4 q4) fun new s5 ⟨x5, H5, I5, r5, q5⟩ => ?_
  exact thn (hs pins s5 σ H5 x1 x2 x5 ov iv new _ I5 r1 r2 r5 q5) fun _ s6 ⟨H6, I6, q6⟩ => ⟨σ, H6, I6, q6⟩
/-- ints -/
def ipI (f : Int → Int → Int) : TIp := fun x y H Q => ∃ i j, x = .int i ∧ y = .int j ∧ Q (.int (f i j)) H
theorem ip_add : PIp X .Add (ipI fun i j => i + j) := by
  intro pins s σ H x y v u Q I r1 r2 h
  obtain ⟨i, j, e1, e2, q⟩ := h
  subst e1; subst e2
  obtain ⟨t, rfl⟩ := r1
  obtain ⟨t', rfl⟩ := r2
  exact iadd_int ⟨.int _, H, I.tok _, ⟨_, rfl⟩, q⟩
theorem ip_sub : PIp X .Sub (ipI fun i j => i - j) := by
  intro pins s σ H x y v u Q I r1 r2 h
  obtain ⟨i, j, e1, e2, q⟩ := h
  subst e1; subst e2
  obtain ⟨t, rfl⟩ := r1
  obtain ⟨t', rfl⟩ := r2
  exact isub_int ⟨.int _, H, I.tok _, ⟨_, rfl⟩, q⟩
end

/-! ### while -/
section
variable {X : Cx} {pos : Pos}
/-- the invariant W with its measure -/
def tWhile (c : TT) (tb : TS) : TS := fun D σ H => ∃ W : Nat → St → Hp → Prop, (∃ m, W m σ H) ∧ ∀ m σ H, W m σ H →
  c σ H fun b H1 => if b = true then ∃ N : St → Hp → Prop, (∀ σ' H', N σ' H' → ∃ m', m' < m ∧ W m' σ' H') ∧ tb { D with nx := N, ct := N, bk := D.nx } σ H1 else D.nx σ H1
theorem ps_while {c : Expr} {body : List Stmt} {tc : TT} {tb : TS} (hp : PassesOwn (model X.prog X.w) X.A X.env X.xe) (hc : PT X c tc) (hb : PSs X body tb) : PS X (.While c body [] pos) (tWhile tc tb) := by
  intro pins s σ H D I h
  obtain ⟨W, ⟨m0, w0⟩, turn⟩ := h
  refine wpAny_While (codeAny_whileLoop (fun n s' => ∃ σ' H', Inv X pins σ' H' s' ∧ W n σ' H') ?_ m0 ⟨σ, H, I, w0⟩)
  rintro n s1 ⟨σ1, H1, I1, w1⟩
  refine wpAny_passesOwn hp (thn (hc pins s1 σ1 H1 _ I1 (turn n σ1 H1 w1)) fun b s2 ⟨H2, I2, q2⟩ => ?_)
  cases b with
  | true =>
    obtain ⟨N, hN, q2⟩ := q2
    rw [if_pos rfl]
    refine wpAny_passesOwn hp (thn (hb pins s2 σ1 H2 _ I2 q2) fun f s3 q3 => ?_)
    cases f with
    | next =>
      obtain ⟨σ3, H3, I3, n3⟩ := q3
      obtain ⟨m', hm, w3⟩ := hN σ3 H3 n3
      exact ⟨m', hm, σ3, H3, I3, w3⟩
    | cont =>
      obtain ⟨σ3, H3, I3, n3⟩ := q3
      obtain ⟨m', hm, w3⟩ := hN σ3 H3 n3
      exact ⟨m', hm, σ3, H3, I3, w3⟩
    | brk => exact q3
    | ret v => exact q3
  | false =>
    rw [if_neg Bool.false_ne_true]
    exact wpAny_execs_nil ⟨σ1, H2, I2, q2⟩
end

/-! ### what a loop or a comprehension walks -/
/-- at turn i: it yields x (the heap may grow), or it stops -/
structure It where
  go : Nat → Hp → Prop
  yld : Nat → Hp → V → Hp → Prop
  stop : Nat → Hp → Prop
/-- the iterator's own objects may turn: they are not the frame's, not pinned, younger than the entry (or a comprehension's own) -/
def FpOk (X : Cx) (pins : List (Addr × Obj)) (H : Hp) (b : Addr) : Prop :=
  H b = none ∧ b ≠ X.env.locals ∧ b ∉ X.fs ∧ (b ∈ X.ex ∨ X.s_0.heap.objs.size ≤ b) ∧ (∀ x c, X.env.cells.lookup x = some c → c ≠ b) ∧ ∀ p ∈ X.pn ++ pins, p.1 ≠ b
theorem Inv.fpOk {X : Cx} {pins : List (Addr × Obj)} {σ : St} {H H' : Hp} {s : Shared} {b : Addr} (I : Inv X pins σ H s) (hb : s.heap.objs.size ≤ b) (hn : H' b = none) : FpOk X pins H' b := by
  refine ⟨hn, Nat.ne_of_gt (Nat.lt_of_lt_of_le I.lt hb), I.nofs hb, .inr (Nat.le_trans I.sz hb), fun x c e z => ?_, fun p hp z => ?_⟩
  · obtain ⟨v, q⟩ := I.cell x c e
    exact absurd (Nat.lt_of_lt_of_le q.lt (by rw [z]; exact hb)) (Nat.lt_irrefl _)
  · exact absurd (Nat.lt_of_lt_of_le (Heap.lt_size (I.pin p hp).1) (by rw [z]; exact hb)) (Nat.lt_irrefl _)
structure Turn (P : Program) (w : World) (K : PySem.W.Frag) (tg : Expr) (J : It) (fp : List Addr) (it : Addr) (tn : Nat → Heap → Prop) : Prop where
  mem : it ∈ fp
  obj : ∀ i h, tn i h → ∀ b ∈ fp, ∃ o, h.get? b = some o ∧ ∀ v, o.data ≠ .cell v
  keep : ∀ i h h', tn i h → (∀ b ∈ fp, ∀ o, h.get? b = some o → h'.get? b = some o) → tn i h'
  item : ∀ (X : Cx), X.prog = P → X.w = w → X.K = K → X.calm = true → ∀ (i : Nat) (pins : List (Addr × Obj)) (s : Shared) (σ : St) (H : Hp) (E : Value → Shared → Prop), Inv X pins σ H s → (∀ b ∈ fp, FpOk X pins H b) → tn i s.heap → J.go i H →
    wpAny (model P w) X.A (pyNext (.ref it)) (fun r s1 => ∃ u, r = some u ∧
      wpAny (model P w) X.A (letOwnedTupleGo tg (.ref it) u) (fun _ s2 => ∃ x H', Inv X pins σ H' s2 ∧ RelV x u ∧ J.yld i H x H' ∧ tn (i + 1) s2.heap ∧ ∀ b ∈ fp, H' b = none) E s1) E s
  done : ∀ (X : Cx), X.prog = P → X.w = w → X.K = K → X.calm = true → ∀ (i : Nat) (pins : List (Addr × Obj)) (s : Shared) (σ : St) (H : Hp) (E : Value → Shared → Prop), Inv X pins σ H s → (∀ b ∈ fp, FpOk X pins H b) → tn i s.heap → J.stop i H →
    wpAny (model P w) X.A (pyNext (.ref it)) (fun r s1 => r = none ∧ Inv X pins σ H s1) E s
  self : ∀ (A : Around) (i : Nat) (s : Shared) (Q : Value → Shared → Prop) (E : Value → Shared → Prop), tn i s.heap → Q (.ref it) s → wpAny (model P w) A (pyIter (.ref it)) Q E s
abbrev TI := St → Hp → (It → Hp → Prop) → Prop
/-- an iterator has come -/
def PIE (X : Cx) (pins : List (Addr × Obj)) (σ : St) (tg : Expr) (R : It → Hp → Prop) (itv : Value) (s2 : Shared) : Prop :=
  ∃ (it : Addr) (fp : List Addr) (tn : Nat → Heap → Prop) (J : It) (H' : Hp), itv = .ref it ∧ Inv X pins σ H' s2 ∧ Turn X.prog X.w X.K tg J fp it tn ∧ tn 0 s2.heap ∧ (∀ b ∈ fp, FpOk X pins H' b) ∧ R J H'
def PI (X : Cx) (tg iter : Expr) (wi : TI) : Prop :=
  ∀ (pins : List (Addr × Obj)) (s : Shared) (σ : St) (H : Hp) (R : It → Hp → Prop), Inv X pins σ H s → wi σ H R →
    wpAny (model X.prog X.w) X.A (eval iter X.env) (fun v s1 => wpAny (model X.prog X.w) X.A (pyIter v) (PIE X pins σ tg R) X.xe s1) X.xe s

/-- the step ahead of the store is nothing for an iterator that keeps no tuple -/
theorem go_of {M : Model} {A : Around} {E : Value → Shared → Prop} {s : Shared} {tg : Expr} {it : Addr} {u : Value} {o : Obj} {n : String} {vs : Array Value} {Q : Unit → Shared → Prop} (ho : s.heap.get? it = some o) (hc : o.cls = .type n) (hd : o.data = .fields vs)
    (hn : ["enumerate", "zip", "dict_itemiterator", "dict_reverseitemiterator", "odict_iterator", "itertools.zip_longest", "itertools.pairwise"].contains n = false) (hQ : Q () s) : wpAny M A (letOwnedTupleGo tg (.ref it) u) Q E s := by
  unfold letOwnedTupleGo
  cases tg <;> first
    | exact wpAny_pure hQ
    | (cases u <;> first
        | exact wpAny_pure hQ
        | (refine wpAny_bind (wpAny_load ho ?_)
           rw [hc, hd]
           show wpAny M A (if (["enumerate", "zip", "dict_itemiterator", "dict_reverseitemiterator", "odict_iterator", "itertools.zip_longest", "itertools.pairwise"].contains n && vs[0]? == some (rawInt _)) = true then _ else _) Q E s
           rw [if_neg (by intro h; rw [hn, Bool.false_and] at h; cases h)]
           exact wpAny_pure hQ))

/-- the list at a, as it stands at each turn (a loop may append to it) -/
def Itl (K : PySem.W.Frag) (a : Addr) : It :=
  ⟨fun i H => ∃ xs x, SqL K H a xs ∧ xs[i]? = some x, fun i H x H' => H' = H ∧ ∀ xs, SqL K H a xs → xs[i]? = some x, fun i H => ∃ xs, SqL K H a xs ∧ xs.length ≤ i⟩
def Itt (K : PySem.W.Frag) (a : Addr) : It :=
  ⟨fun i H => ∃ xs x, SqT K H a xs ∧ xs[i]? = some x, fun i H x H' => H' = H ∧ ∀ xs, SqT K H a xs → xs[i]? = some x, fun i H => ∃ xs, SqT K H a xs ∧ xs.length ≤ i⟩
/-- lo, lo + 1, .. (n of them) -/
def Itr (lo : Int) (n : Nat) : It := ⟨fun i _ => i < n, fun i H x H' => H' = H ∧ x = .int (lo + i), fun i _ => n ≤ i⟩
theorem turn_list {P : Program} {w : World} {K : PySem.W.Frag} {tg : Expr} (a it : Addr) : Turn P w K tg (Itl K a) [it] it (fun i h => h.IsListIter it a i) where
  mem := by simp
  obj := fun i h st b hb => by
    have e : b = it := by simpa using hb
    subst e
    obtain ⟨o, e, c, d⟩ := st
    exact ⟨o, e, fun v z => by rw [d] at z; cases z⟩
  keep := fun i h h' st k => st.at fun o e => k it (by simp) o e
  item := by
    intro X hP hw hK hc i pins s σ H E I hf st hg
    subst hP hw hK
    obtain ⟨xs, x, hq, hx⟩ := hg
    obtain ⟨its, rv, p, hz⟩ := I.list hq
    obtain ⟨u, hu, ru⟩ := rv.get hx
    obtain ⟨f0, f1, f2, f3, f4, f5⟩ := hf it (by simp)
    refine wpAny_pyNext_list_item st p.isList (x := u) (by simpa using hu) fun h' st' sb => ?_
    have I1 : Inv X pins σ H { s with heap := h' } := I.turned (t' := s.toks) (fun b o hb e => (sb.2 b hb).trans e) f0 f1 f3 f4 f5
    obtain ⟨o, e, c, d⟩ := id st'
    exact ⟨u, rfl, go_of (s := { s with heap := h' }) e c d (by decide) ⟨x, H, I1, ru, ⟨rfl, fun ys hy => by rw [I.list_inj hy hq]; exact hx⟩, st', fun b hb => (hf b hb).1⟩⟩
  done := by
    intro X hP hw hK hc i pins s σ H E I hf st hg
    subst hP hw hK
    obtain ⟨xs, hq, hx⟩ := hg
    obtain ⟨its, rv, p, hz⟩ := I.list hq
    obtain ⟨f0, f1, f2, f3, f4, f5⟩ := hf it (by simp)
    have hl := rv.length
    exact wpAny_pyNext_list_end (I.ok.hd hc) st p.isList (by simp; omega) fun h' eb => ⟨rfl, I.turned (t' := s.toks) (fun b o hb e => eb b o hb e) f0 f1 f3 f4 f5⟩
  self := fun _ _ _ _ _ st h => wpAny_pyIter_listiter st h
theorem turn_tuple {P : Program} {w : World} {K : PySem.W.Frag} {tg : Expr} (a it : Addr) : Turn P w K tg (Itt K a) [it] it (fun i h => h.IsTupleIter it a i) where
  mem := by simp
  obj := fun i h st b hb => by
    have e : b = it := by simpa using hb
    subst e
    obtain ⟨o, e, c, d⟩ := st
    exact ⟨o, e, fun v z => by rw [d] at z; cases z⟩
  keep := fun i h h' st k => st.at fun o e => k it (by simp) o e
  item := by
    intro X hP hw hK hc i pins s σ H E I hf st hg
    subst hP hw hK
    obtain ⟨xs, x, hq, hx⟩ := hg
    obtain ⟨its, rv, p, hz⟩ := I.tuple hq
    obtain ⟨u, hu, ru⟩ := rv.get hx
    obtain ⟨f0, f1, f2, f3, f4, f5⟩ := hf it (by simp)
    refine wpAny_pyNext_tuple_item st (show s.heap.IsTuple a its.toArray from p) (x := u) (by simpa using hu) fun h' st' sb => ?_
    have I1 : Inv X pins σ H { s with heap := h' } := I.turned (t' := s.toks) (fun b o hb e => (sb.2 b hb).trans e) f0 f1 f3 f4 f5
    obtain ⟨o, e, c, d⟩ := id st'
    exact ⟨u, rfl, go_of (s := { s with heap := h' }) e c d (by decide) ⟨x, H, I1, ru, ⟨rfl, fun ys hy => by rw [I.tuple_inj hy hq]; exact hx⟩, st', fun b hb => (hf b hb).1⟩⟩
  done := by
    intro X hP hw hK hc i pins s σ H E I hf st hg
    subst hP hw hK
    obtain ⟨xs, hq, hx⟩ := hg
    obtain ⟨its, rv, p, hz⟩ := I.tuple hq
    obtain ⟨f0, f1, f2, f3, f4, f5⟩ := hf it (by simp)
    have hl := rv.length
    exact wpAny_pyNext_tuple_end (I.ok.hd hc) st (show s.heap.IsTuple a its.toArray from p) (by simp; omega) fun h' eb => ⟨rfl, I.turned (t' := s.toks) (fun b o hb e => eb b o hb e) f0 f1 f3 f4 f5⟩
  self := fun _ _ _ _ _ st h => wpAny_pyIter_tupleiter st h
theorem turn_range {P : Program} {w : World} {K : PySem.W.Frag} {tg : Expr} (it : Addr) (lo : Int) (n : Nat) : Turn P w K tg (Itr lo n) [it] it (fun i h => IsRangeIter h it (lo + (i : Nat) * 1) ((n : Int) - (i : Nat)) 1) where
  mem := by simp
  obj := fun i h st b hb => by
    have e : b = it := by simpa using hb
    subst e
    exact ⟨_, st, fun v z => by
      have z' : Data.fields _ = Data.cell v := z
      cases z'⟩
  keep := fun i h h' st k => k it (by simp) _ st
  item := by
    intro X hP hw hK hc i pins s σ H E I hf st hg
    subst hP hw hK
    obtain ⟨f0, f1, f2, f3, f4, f5⟩ := hf it (by simp)
    have W := Walks.range (prog := X.prog) (w := X.w) (I.ok.hd hc) it lo 1 n
    refine W.item i s _ _ hg st fun v h' tk hv st' kk => ?_
    obtain ⟨t, rfl⟩ := hv
    have I1 : Inv X pins σ H { s with heap := h', toks := tk } := I.turned (fun b o hb e => kk b o (by simpa using hb) e) f0 f1 f3 f4 f5
    refine ⟨_, rfl, go_of (s := { s with heap := h', toks := tk }) (n := "range_iterator") st' rfl rfl (by decide) ⟨.int (lo + i), H, I1, ⟨t, ?_⟩, ⟨rfl, rfl⟩, st', fun b hb => (hf b hb).1⟩⟩
    rw [Int.mul_one]
  done := by
    intro X hP hw hK hc i pins s σ H E I hf st hg
    subst hP hw hK
    obtain ⟨f0, f1, f2, f3, f4, f5⟩ := hf it (by simp)
    exact wpAny_pyNext_range_end (I.ok.hd hc) st (by have : n ≤ i := hg; omega) fun h' eb => ⟨rfl, I.turned (t' := s.toks) (fun b o hb e => eb b o hb e) f0 f1 f3 f4 f5⟩
  self := fun _ _ _ _ _ st h => wpAny_pyIter_rangeiter st h
end L2

namespace L2
open PySem PySem.Spec PyProof.Rows
section
variable {X : Cx} {tg : Expr}
def iList (K : PySem.W.Frag) (tl : TE) : TI := fun σ H R => tl σ H fun x H1 => ∃ a, x = .ref a ∧ (∃ xs, SqL K H1 a xs) ∧ R (Itl K a) H1
def iTup (K : PySem.W.Frag) (tl : TE) : TI := fun σ H R => tl σ H fun x H1 => ∃ a, x = .ref a ∧ (∃ xs, SqT K H1 a xs) ∧ R (Itt K a) H1
theorem pi_list {l : Expr} {tl : TE} (hl : PE X l tl) : PI X tg l (iList X.K tl) := by
  intro pins s σ H R I h
  refine thn (hl pins s σ H _ I h) fun v s1 ⟨x, H1, I1, r1, q1⟩ => ?_
  obtain ⟨a, e, ⟨xs, hq⟩, q⟩ := q1
  subst e
  cases r1
  obtain ⟨its, rv, p, hz⟩ := I1.list hq
  refine wpAny_pyIter_list p.isList ?_
  refine ⟨s1.heap.objs.size, [s1.heap.objs.size], _, _, H1, rfl, I1.kept (t' := s1.toks) fun b o e => Heap.get?_push_of_some _ e, turn_list a _, ⟨_, Heap.get?_push_size _ rfl, rfl, rfl⟩, fun b hb => ?_, q⟩
  have e : b = s1.heap.objs.size := by simpa using hb
  subst e
  exact I1.fpOk (Nat.le_refl _) (I1.hok.fresh (Nat.le_refl _))
theorem pi_tup {l : Expr} {tl : TE} (hl : PE X l tl) : PI X tg l (iTup X.K tl) := by
  intro pins s σ H R I h
  refine thn (hl pins s σ H _ I h) fun v s1 ⟨x, H1, I1, r1, q1⟩ => ?_
  obtain ⟨a, e, ⟨xs, hq⟩, q⟩ := q1
  subst e
  cases r1
  obtain ⟨its, rv, p, hz⟩ := I1.tuple hq
  refine wpAny_pyIter_tuple (show s1.heap.IsTuple a its.toArray from p) ?_
  refine ⟨s1.heap.objs.size, [s1.heap.objs.size], _, _, H1, rfl, I1.kept (t' := s1.toks) fun b o e => Heap.get?_push_of_some _ e, turn_tuple a _, ⟨_, Heap.get?_push_size _ rfl, rfl, rfl⟩, fun b hb => ?_, q⟩
  have e : b = s1.heap.objs.size := by simpa using hb
  subst e
  exact I1.fpOk (Nat.le_refl _) (I1.hok.fresh (Nat.le_refl _))
/-- a range object just made, walked -/
theorem range_it {pins : List (Addr × Obj)} {σ : St} {H : Hp} {s : Shared} {R : It → Hp → Prop} {E : Value → Shared → Prop} {lo hi : Int} {t u v : Tok} {tk : Nat} (I : Inv X pins σ H s) (h1 : -(2 ^ 62) ≤ lo) (h2 : lo < 2 ^ 62) (h3 : -(2 ^ 62) ≤ hi) (h4 : hi < 2 ^ 62)
    (q : R (Itr lo (hi - lo).toNat) H) : wpAny (model X.prog X.w) X.A (pyIter (.ref s.heap.objs.size)) (PIE X pins σ tg R) E { s with heap := s.heap.push { cls := .type "range", data := .fields #[.int lo t, .int hi u, .int 1 v] }, toks := tk } := by
  refine wpAny_pyIter_range (IsRange.new ..) (small_one h1 h2 h3 h4) ?_
  have I1 : Inv X pins σ H { s with heap := s.heap.push { cls := .type "range", data := .fields #[.int lo t, .int hi u, .int 1 v] }, toks := tk } := I.kept fun b o e => Heap.get?_push_of_some _ e
  refine ⟨(s.heap.push { cls := .type "range", data := .fields #[.int lo t, .int hi u, .int 1 v] }).objs.size, [(s.heap.push { cls := .type "range", data := .fields #[.int lo t, .int hi u, .int 1 v] }).objs.size], _, _, H, rfl,
    I1.kept (t' := tk) fun b o e => Heap.get?_push_of_some _ e, turn_range _ lo (hi - lo).toNat, ?_, fun b hb => ?_, q⟩
  · have e1 : lo + ((0 : Nat) : Int) * 1 = lo := by simp
    have e2 : (((hi - lo).toNat : Nat) : Int) - ((0 : Nat) : Int) = Builtin.Range.rangeSize lo hi 1 := by rw [rangeSize_one]; split <;> omega
    show IsRangeIter _ _ (lo + ((0 : Nat) : Int) * 1) ((((hi - lo).toNat : Nat) : Int) - ((0 : Nat) : Int)) 1
    rw [e1, e2]
    exact Heap.get?_push_size _ rfl
  · have e : b = (s.heap.push { cls := .type "range", data := .fields #[.int lo t, .int hi u, .int 1 v] }).objs.size := by simpa using hb
    subst e
    exact I1.fpOk (Nat.le_refl _) (I1.hok.fresh (Nat.le_refl _))
def iRng1 (ta : TA) : TI := fun σ H R => ta σ H fun vs H1 => ∃ j : Int, vs = [.int j] ∧ -(2 ^ 62) ≤ j ∧ j < 2 ^ 62 ∧ R (Itr 0 j.toNat) H1
def iRng2 (ta : TA) : TI := fun σ H R => ta σ H fun vs H1 => ∃ i j : Int, vs = [.int i, .int j] ∧ (-(2 ^ 62) ≤ i ∧ i < 2 ^ 62 ∧ -(2 ^ 62) ≤ j ∧ j < 2 ^ 62) ∧ R (Itr i (j - i).toNat) H1
theorem pi_range1 {a : Expr} {ta : TA} {p pos : Pos} (hg : Gl X "range") (hm : X.mg "range" = none) (ha : PA X [a] ta) (hs : starEach [a] X.env = [(false, eval a X.env)] := by rfl) : PI X tg (.Call (.Name "range" p) [a] [] pos) (iRng1 ta) := by
  intro pins s σ H R I h
  refine Call_ (ld_blt I hg hm boot_range (PyProof.Rows.callWith_type1 (thn (ha pos pins s σ H _ I h) fun us s1 ⟨vs, H1, I1, r1, q1⟩ => ?_) hs rfl))
  obtain ⟨j, e, q1, q2, q⟩ := q1
  subst e
  cases r1 with
  | cons r rr =>
    cases rr
    obtain ⟨t, rfl⟩ := r
    exact call_range_1 (range_it I1 (by omega) (by omega) q1 q2 (by simpa using q))
theorem pi_range2 {a b : Expr} {ta : TA} {p pos : Pos} (hg : Gl X "range") (hm : X.mg "range" = none) (ha : PA X [a, b] ta) (hs : starEach [a, b] X.env = [(false, eval a X.env), (false, eval b X.env)] := by rfl) (hs2 : starEach [b] X.env = [(false, eval b X.env)] := by rfl) :
    PI X tg (.Call (.Name "range" p) [a, b] [] pos) (iRng2 ta) := by
  intro pins s σ H R I h
  refine Call_ (ld_blt I hg hm boot_range (PyProof.Rows.callWith_type1 (thn (ha pos pins s σ H _ I h) fun us s1 ⟨vs, H1, I1, r1, q1⟩ => ?_) (by rw [hs, hs2]) (by rw [hs2]; rfl)))
  obtain ⟨i, j, e, ⟨q1, q2, q3, q4⟩, q⟩ := q1
  subst e
  cases r1 with
  | cons r rr =>
    cases rr with
    | cons r' rr =>
      cases rr
      obtain ⟨t, rfl⟩ := r
      obtain ⟨t', rfl⟩ := r'
      exact call_range_2 (range_it I1 q1 q2 q3 q4 q)

/-! ### for -/
/-- W: the invariant by the turn and a measure; N: what the body is to reach -/
def tFor (wi : TI) (g : TG) (tb : TS) : TS := fun D σ H => wi σ H fun J H1 => ∃ W : Nat → Nat → St → Hp → Prop, (∃ m, W 0 m σ H1) ∧ ∀ i m σ H, W i m σ H →
  (J.stop i H ∧ D.nx σ H) ∨ (J.go i H ∧ ∃ N : St → Hp → Prop, (∀ σ' H', N σ' H' → ∃ m', m' < m ∧ W (i + 1) m' σ' H') ∧ ∀ x H', J.yld i H x H' → g x σ H' fun σ2 H2 => tb { D with nx := N, ct := N, bk := D.nx } σ2 H2)
/-- the records at fp as they stand -/
def pinsAt (fp : List Addr) (h : Heap) : List (Addr × Obj) := fp.filterMap fun b => (h.get? b).map fun o => (b, o)
theorem mem_pinsAt {fp : List Addr} {h : Heap} {b : Addr} {o : Obj} (hb : b ∈ fp) (e : h.get? b = some o) : (b, o) ∈ pinsAt fp h := List.mem_filterMap.mpr ⟨b, hb, by rw [e]; rfl⟩
theorem of_pinsAt {fp : List Addr} {h : Heap} {p : Addr × Obj} (hp : p ∈ pinsAt fp h) : p.1 ∈ fp ∧ h.get? p.1 = some p.2 := by
  obtain ⟨b, hb, e⟩ := List.mem_filterMap.mp hp
  cases q : h.get? b with
  | none => rw [q] at e; cases e
  | some o =>
    rw [q] at e
    have e' : (b, o) = p := Option.some.inj e
    subst e'
    exact ⟨hb, q⟩
theorem Inv.pinned {pins : List (Addr × Obj)} {σ : St} {H : Hp} {s : Shared} {fp : List Addr} (I : Inv X pins σ H s) (hf : ∀ b ∈ fp, FpOk X pins H b) (ho : ∀ b ∈ fp, ∃ o, s.heap.get? b = some o ∧ ∀ v, o.data ≠ .cell v) : Inv X (pins ++ pinsAt fp s.heap) σ H s :=
  I.pins_of fun p hp => (List.mem_append.mp hp).elim (fun z => I.pin p (List.mem_append_right _ z)) fun z => by
    obtain ⟨hb, e⟩ := of_pinsAt z
    obtain ⟨f0, f1, f2, _⟩ := hf p.1 hb
    obtain ⟨o, e', d⟩ := ho p.1 hb
    rw [e] at e'; cases e'
    exact ⟨e, f0, f1, f2, d⟩
theorem Inv.unpinned {pins pl : List (Addr × Obj)} {σ : St} {H : Hp} {s : Shared} (I : Inv X (pins ++ pl) σ H s) : Inv X pins σ H s := I.pins_of fun p hp => I.pin p (List.mem_append_right _ (List.mem_append_left _ hp))
theorem ps_for {iter : Expr} {body : List Stmt} {wi : TI} {g : TG} {tb : TS} {pos : Pos} (hp : PassesOwn (model X.prog X.w) X.A X.env X.xe) (hc : X.calm = true) (hi : PI X tg iter wi) (hg : PG X tg g) (hb : PSs X body tb)
    (hs : ∀ x, foldedSetIterable iter X.env x = pure x := by intro _; rfl) : PS X (.For tg iter body [] pos) (tFor wi g tb) := by
  intro pins s σ H D I h
  refine wpAny_For (thn (hi pins s σ H _ I h) fun v s1 h1 => thn h1 fun itv s2 h2 => ?_) hs
  obtain ⟨it, fp, tn, J, H2, e, I2, T, st2, f2, W, ⟨m0, w0⟩, turn⟩ := h2
  subst e
  -- what stays true of the iterator's objects through the loop
  have stat : ∀ {H' : Hp}, (∀ b ∈ fp, H' b = none) → ∀ b ∈ fp, FpOk X pins H' b := fun hn b hb => ⟨hn b hb, (f2 b hb).2⟩
  refine codeAny_forLoop_any (fun n s' => ∃ i σ' H', Inv X pins σ' H' s' ∧ tn i s'.heap ∧ (∀ b ∈ fp, H' b = none) ∧ W i n σ' H') ?_ m0 ⟨0, σ, H2, I2, st2, fun b hb => (f2 b hb).1, w0⟩
  rintro n s3 ⟨i, σ3, H3, I3, st3, fr3, w3⟩
  rcases turn i n σ3 H3 w3 with ⟨stop, qn⟩ | ⟨go, N, hN, step⟩
  · refine wpAny_passesOwn hp (thn (T.done X rfl rfl rfl hc i pins s3 σ3 H3 X.xe I3 (stat fr3) st3 stop) fun r s4 ⟨hr, I4⟩ => ?_)
    subst hr
    exact wpAny_execs_nil ⟨σ3, H3, I4, qn⟩
  · refine wpAny_passesOwn hp (thn (T.item X rfl rfl rfl hc i pins s3 σ3 H3 X.xe I3 (stat fr3) st3 go) fun r s4 ⟨u, hr, h4⟩ => ?_)
    subst hr
    refine wpAny_passesOwn hp (thn h4 fun _ s5 ⟨x, H5, I5, r5, y5, st5, fr5⟩ => ?_)
    have I5' := I5.pinned (stat fr5) (T.obj _ _ st5)
    refine wpAny_passesOwn hp (thn (hg _ s5 σ3 H5 x u _ I5' r5 (step x H5 y5)) fun _ s6 ⟨σ6, H6, I6, q6⟩ => ?_)
    refine wpAny_passesOwn hp (thn (hb _ s6 σ6 H6 _ I6 q6) fun f s7 q7 => ?_)
    have again : ∀ {σ7 : St} {H7 : Hp}, Inv X (pins ++ pinsAt fp s5.heap) σ7 H7 s7 → N σ7 H7 → ∃ m, m < n ∧ ∃ i σ' H', Inv X pins σ' H' s7 ∧ tn i s7.heap ∧ (∀ b ∈ fp, H' b = none) ∧ W i m σ' H' := fun {σ7 H7} I7 n7 => by
      obtain ⟨m', hm, w7⟩ := hN σ7 H7 n7
      refine ⟨m', hm, i + 1, σ7, H7, I7.unpinned, T.keep _ _ _ st5 fun b hb o e => (I7.pin (b, o) (List.mem_append_right _ (List.mem_append_right _ (mem_pinsAt hb e)))).1, fun b hb => ?_, w7⟩
      obtain ⟨o, e, d⟩ := T.obj _ _ st5 b hb
      exact (I7.pin (b, o) (List.mem_append_right _ (List.mem_append_right _ (mem_pinsAt hb e)))).2.1
    cases f with
    | next => obtain ⟨σ7, H7, I7, n7⟩ := q7; exact again I7 n7
    | cont => obtain ⟨σ7, H7, I7, n7⟩ := q7; exact again I7 n7
    | brk => obtain ⟨σ7, H7, I7, q7⟩ := q7; exact ⟨σ7, H7, I7.unpinned, q7⟩
    | ret v => obtain ⟨x7, σ7, H7, I7, r7, q7⟩ := q7; exact ⟨x7, σ7, H7, I7.unpinned, r7, q7⟩
end

/-! ### the forms one uses -/
/-- over a list that the body leaves as it is -/
theorem for_list {K : PySem.W.Frag} {a : Addr} {xs : List V} {g : TG} {tb : TS} {D : Ends} {σ : St} {H : Hp} (Pv : Nat → St → Hp → Prop) (h0 : Pv 0 σ H) (hl : ∀ i σ H, i ≤ xs.length → Pv i σ H → SqL K H a xs)
    (hs : ∀ i x σ H, xs[i]? = some x → Pv i σ H → g x σ H fun σ2 H2 => tb { D with nx := Pv (i + 1), ct := Pv (i + 1), bk := D.nx } σ2 H2) (hd : ∀ σ H, Pv xs.length σ H → D.nx σ H) :
    ∃ W : Nat → Nat → St → Hp → Prop, (∃ m, W 0 m σ H) ∧ ∀ i m σ H, W i m σ H →
      ((Itl K a).stop i H ∧ D.nx σ H) ∨ ((Itl K a).go i H ∧ ∃ N : St → Hp → Prop, (∀ σ' H', N σ' H' → ∃ m', m' < m ∧ W (i + 1) m' σ' H') ∧ ∀ x H', (Itl K a).yld i H x H' → g x σ H' fun σ2 H2 => tb { D with nx := N, ct := N, bk := D.nx } σ2 H2) := by
  refine ⟨fun i m σ H => m = xs.length - i ∧ i ≤ xs.length ∧ Pv i σ H, ⟨xs.length, by simp, Nat.zero_le _, h0⟩, ?_⟩
  rintro i m σ H ⟨rfl, hi, p⟩
  have q := hl i σ H hi p
  by_cases hlt : i < xs.length
  · refine .inr ⟨⟨xs, xs[i], q, by simp [hlt]⟩, Pv (i + 1), fun σ' H' p' => ⟨xs.length - (i + 1), by omega, rfl, hlt, p'⟩, fun x H' y => ?_⟩
    obtain ⟨e, y⟩ := y
    subst e
    exact hs i x σ _ (y xs q) p
  · have e : i = xs.length := by omega
    subst e
    exact .inl ⟨⟨xs, q, Nat.le_refl _⟩, hd σ H p⟩
theorem for_tup {K : PySem.W.Frag} {a : Addr} {xs : List V} {g : TG} {tb : TS} {D : Ends} {σ : St} {H : Hp} (Pv : Nat → St → Hp → Prop) (h0 : Pv 0 σ H) (hl : ∀ i σ H, i ≤ xs.length → Pv i σ H → SqT K H a xs)
    (hs : ∀ i x σ H, xs[i]? = some x → Pv i σ H → g x σ H fun σ2 H2 => tb { D with nx := Pv (i + 1), ct := Pv (i + 1), bk := D.nx } σ2 H2) (hd : ∀ σ H, Pv xs.length σ H → D.nx σ H) :
    ∃ W : Nat → Nat → St → Hp → Prop, (∃ m, W 0 m σ H) ∧ ∀ i m σ H, W i m σ H →
      ((Itt K a).stop i H ∧ D.nx σ H) ∨ ((Itt K a).go i H ∧ ∃ N : St → Hp → Prop, (∀ σ' H', N σ' H' → ∃ m', m' < m ∧ W (i + 1) m' σ' H') ∧ ∀ x H', (Itt K a).yld i H x H' → g x σ H' fun σ2 H2 => tb { D with nx := N, ct := N, bk := D.nx } σ2 H2) := by
  refine ⟨fun i m σ H => m = xs.length - i ∧ i ≤ xs.length ∧ Pv i σ H, ⟨xs.length, by simp, Nat.zero_le _, h0⟩, ?_⟩
  rintro i m σ H ⟨rfl, hi, p⟩
  have q := hl i σ H hi p
  by_cases hlt : i < xs.length
  · refine .inr ⟨⟨xs, xs[i], q, by simp [hlt]⟩, Pv (i + 1), fun σ' H' p' => ⟨xs.length - (i + 1), by omega, rfl, hlt, p'⟩, fun x H' y => ?_⟩
    obtain ⟨e, y⟩ := y
    subst e
    exact hs i x σ _ (y xs q) p
  · have e : i = xs.length := by omega
    subst e
    exact .inl ⟨⟨xs, q, Nat.le_refl _⟩, hd σ H p⟩
theorem for_range {lo : Int} {n : Nat} {g : TG} {tb : TS} {D : Ends} {σ : St} {H : Hp} (Pv : Nat → St → Hp → Prop) (h0 : Pv 0 σ H)
    (hs : ∀ i σ H, i < n → Pv i σ H → g (.int (lo + i)) σ H fun σ2 H2 => tb { D with nx := Pv (i + 1), ct := Pv (i + 1), bk := D.nx } σ2 H2) (hd : ∀ σ H, Pv n σ H → D.nx σ H) :
    ∃ W : Nat → Nat → St → Hp → Prop, (∃ m, W 0 m σ H) ∧ ∀ i m σ H, W i m σ H →
      ((Itr lo n).stop i H ∧ D.nx σ H) ∨ ((Itr lo n).go i H ∧ ∃ N : St → Hp → Prop, (∀ σ' H', N σ' H' → ∃ m', m' < m ∧ W (i + 1) m' σ' H') ∧ ∀ x H', (Itr lo n).yld i H x H' → g x σ H' fun σ2 H2 => tb { D with nx := N, ct := N, bk := D.nx } σ2 H2) := by
  refine ⟨fun i m σ H => m = n - i ∧ i ≤ n ∧ Pv i σ H, ⟨n, by simp, Nat.zero_le _, h0⟩, ?_⟩
  rintro i m σ H ⟨rfl, hi, p⟩
  by_cases hlt : i < n
  · refine .inr ⟨hlt, Pv (i + 1), fun σ' H' p' => ⟨n - (i + 1), by omega, rfl, hlt, p'⟩, fun x H' y => ?_⟩
    obtain ⟨e, y⟩ := y
    subst e y
    exact hs i σ _ hlt p
  · have e : i = n := by omega
    subst e
    exact .inl ⟨Nat.le_refl _, hd σ H p⟩
/-- while, by a word and a measure of the state -/
theorem while_by {c : TT} {tb : TS} {D : Ends} {σ : St} {H : Hp} (Pv : St → Hp → Prop) (μ : St → Hp → Nat) (h0 : Pv σ H)
    (hs : ∀ σ H, Pv σ H → c σ H fun b H1 => if b = true then tb { D with nx := fun σ' H' => Pv σ' H' ∧ μ σ' H' < μ σ H, ct := fun σ' H' => Pv σ' H' ∧ μ σ' H' < μ σ H, bk := D.nx } σ H1 else D.nx σ H1)
    (mono : ∀ σ H Q Q', (∀ b H1, Q b H1 → Q' b H1) → c σ H Q → c σ H Q') : tWhile c tb D σ H := by
  refine ⟨fun m σ H => m = μ σ H ∧ Pv σ H, ⟨_, rfl, h0⟩, ?_⟩
  rintro m σ H ⟨rfl, p⟩
  refine mono σ H _ _ (fun b H1 q => ?_) (hs σ H p)
  cases b with
  | true => exact ⟨_, fun σ' H' ⟨p', l⟩ => ⟨_, l, rfl, p'⟩, q⟩
  | false => exact q
end L2

namespace L2
open PySem PySem.Spec PyProof.Rows

abbrev R2 := V → V → Hp → VK → Prop
/-- a two-place operation on values: f is binaryOp op, inplaceOp op or compareOp op -/
def OpR (X : Cx) (f : Value → Value → Sem Value) (r : R2) : Prop :=
  ∀ (pins : List (Addr × Obj)) (s : Shared) (σ : St) (H : Hp) (x y : V) (v u : Value) (Q : VK), Inv X pins σ H s → RelV x v → RelV y u → r x y H Q →
    wpAny (model X.prog X.w) X.A (f v u) (EP X pins σ Q) X.xe s
/-- a one-place operation -/
def UnR (X : Cx) (f : Value → Sem Value) (r : V → Hp → VK → Prop) : Prop :=
  ∀ (pins : List (Addr × Obj)) (s : Shared) (σ : St) (H : Hp) (x : V) (v : Value) (Q : VK), Inv X pins σ H s → RelV x v → r x H Q →
    wpAny (model X.prog X.w) X.A (f v) (EP X pins σ Q) X.xe s
/-- a call of a value that is known (a builtin, a type) with values -/
def CallR (X : Cx) (f : Value) (r : List V → Hp → VK → Prop) : Prop :=
  ∀ (pins : List (Addr × Obj)) (s : Shared) (σ : St) (H : Hp) (xs : List V) (us : List Value) (Q : VK), Inv X pins σ H s → Vals xs us → r xs H Q →
    wpAny (model X.prog X.w) X.A (call f us) (EP X pins σ Q) X.xe s
/-- a value's truth -/
def TruR (X : Cx) (r : V → Hp → (Bool → Hp → Prop) → Prop) : Prop :=
  ∀ (pins : List (Addr × Obj)) (s : Shared) (σ : St) (H : Hp) (x : V) (v : Value) (Q : Bool → Hp → Prop), Inv X pins σ H s → RelV x v → r x H Q →
    wpAny (model X.prog X.w) X.A (truthy v) (TP X pins σ Q) X.xe s

def tOp (r : R2) (ta tb : TE) : TE := fun σ H Q => ta σ H fun x H1 => tb σ H1 fun y H2 => r x y H2 Q
def tUn (r : V → Hp → VK → Prop) (ta : TE) : TE := fun σ H Q => ta σ H fun x H1 => r x H1 Q
/-- ints in, under C, and a value out -/
def rI (C : Int → Int → Prop) (g : Int → Int → V) : R2 := fun x y H Q => ∃ i j, x = .int i ∧ y = .int j ∧ C i j ∧ Q (g i j) H
def rI0 (g : Int → Int → V) : R2 := fun x y H Q => ∃ i j, x = .int i ∧ y = .int j ∧ Q (g i j) H
def rU (g : Int → V) : V → Hp → VK → Prop := fun x H Q => ∃ i, x = .int i ∧ Q (g i) H

section
variable {X : Cx} {a b c : Expr} {ta tb tc : TE} {pos : Pos}

theorem binT (ha : PE X a ta) (hb : PE X b tb) {pins : List (Addr × Obj)} {s : Shared} {σ : St} {H : Hp} {R : V → V → Hp → Prop} (I : Inv X pins σ H s)
    (h : ta σ H fun x H1 => tb σ H1 fun y H2 => R x y H2) {Q : Value → Shared → Prop} {f : Value → Value → Sem Value}
    (hf : ∀ v u s2 x y H2, Inv X pins σ H2 s2 → RelV x v → RelV y u → R x y H2 → wpAny (model X.prog X.w) X.A (f v u) Q X.xe s2) :
    wpAny (model X.prog X.w) X.A (eval a X.env) (fun v s₁ => wpAny (model X.prog X.w) X.A (eval b X.env) (fun u s₂ => wpAny (model X.prog X.w) X.A (f v u) Q X.xe s₂) X.xe s₁) X.xe s := by
  refine thn (ha pins s σ H _ I h) fun v s1 ⟨x, H1, I1, r1, q1⟩ => ?_
  refine thn (hb pins s1 σ H1 _ I1 q1) fun u s2 ⟨y, H2, I2, r2, q2⟩ => ?_
  exact hf v u s2 x y H2 I2 r1 r2 q2

theorem pe_op {op : Operator} {r : R2} (ho : OpR X (binaryOp op) r) (ha : PE X a ta) (hb : PE X b tb) : PE X (.BinOp a op b pos) (tOp r ta tb) := by
  intro pins s σ H Q I h
  exact wpAny_BinOp (binT ha hb I h fun v u s2 x y H2 I2 rx ry q => ho pins s2 σ H2 x y v u Q I2 rx ry q)
theorem pe_un {op : UnaryOp} {r : V → Hp → VK → Prop} (ho : UnR X (unaryOp op) r) (ha : PE X a ta) : PE X (.UnaryOp op a pos) (tUn r ta) := by
  intro pins s σ H Q I h
  exact UnaryOp_ (thn (ha pins s σ H _ I h) fun v s1 ⟨x, H1, I1, r1, q1⟩ => ho pins s1 σ H1 x v Q I1 r1 q1)
/-- a op= e at a name: the name's slot i -/
theorem augR {op : Operator} {r : R2} (ho : OpR X (inplaceOp op) r) {pins : List (Addr × Obj)} {s : Shared} {σ : St} {H : Hp} {x y : V} {v u : Value} {Q : VK} (I : Inv X pins σ H s)
    (rx : RelV x v) (ry : RelV y u) (q : r x y H Q) : wpAny (model X.prog X.w) X.A (inplaceOp op v u) (EP X pins σ Q) X.xe s := ho pins s σ H x y v u Q I rx ry q

/-! ### ints -/
theorem opI {f : Value → Value → Sem Value} {C : Int → Int → Prop} {g : Int → Int → Int}
    (rule : ∀ (i j : Int) (t u : Tok) (s : Shared) (Q : Value → Shared → Prop) (E : Value → Shared → Prop), C i j → Q (.int (g i j) s.toks) { s with toks := s.toks + 1 } → wpAny (model X.prog X.w) X.A (f (.int i t) (.int j u)) Q E s) :
    OpR X f (rI C fun i j => .int (g i j)) := by
  intro pins s σ H x y v u Q I rx ry h
  obtain ⟨i, j, rfl, rfl, hc, q⟩ := h
  obtain ⟨t, rfl⟩ := rx
  obtain ⟨t', rfl⟩ := ry
  exact rule i j t t' s _ _ hc ⟨.int (g i j), H, I.tok _, ⟨_, rfl⟩, q⟩
theorem opI0 {f : Value → Value → Sem Value} {g : Int → Int → Int}
    (rule : ∀ (i j : Int) (t u : Tok) (s : Shared) (Q : Value → Shared → Prop) (E : Value → Shared → Prop), Q (.int (g i j) s.toks) { s with toks := s.toks + 1 } → wpAny (model X.prog X.w) X.A (f (.int i t) (.int j u)) Q E s) :
    OpR X f (rI0 fun i j => .int (g i j)) := by
  intro pins s σ H x y v u Q I rx ry h
  obtain ⟨i, j, rfl, rfl, q⟩ := h
  obtain ⟨t, rfl⟩ := rx
  obtain ⟨t', rfl⟩ := ry
  exact rule i j t t' s _ _ ⟨.int (g i j), H, I.tok _, ⟨_, rfl⟩, q⟩
theorem opB0 {f : Value → Value → Sem Value} {g : Int → Int → Bool}
    (rule : ∀ (i j : Int) (t u : Tok) (s : Shared) (Q : Value → Shared → Prop) (E : Value → Shared → Prop), Q (.bool (g i j)) s → wpAny (model X.prog X.w) X.A (f (.int i t) (.int j u)) Q E s) :
    OpR X f (rI0 fun i j => .bl (g i j)) := by
  intro pins s σ H x y v u Q I rx ry h
  obtain ⟨i, j, rfl, rfl, q⟩ := h
  obtain ⟨t, rfl⟩ := rx
  obtain ⟨t', rfl⟩ := ry
  exact rule i j t t' s _ _ ⟨.bl (g i j), H, I, rfl, q⟩

def CDiv (i j : Int) : Prop := 0 < j ∧ j < 1073741824
def CDivN (i j : Int) : Prop := j ≠ 0 ∧ j.natAbs < 1073741824
def CPow (i j : Int) : Prop := 0 ≤ j ∧ j ≤ 1000000 ∧ i.natAbs < 2 ^ 64
def CMul (i j : Int) : Prop := (-(2 ^ 64) < i ∧ i < 2 ^ 64) ∨ (-(2 ^ 64) < j ∧ j < 2 ^ 64)
theorem CMul.ok {i j : Int} (h : CMul i j) : IntMulOk i j := by
  rcases h with ⟨h1, h2⟩ | ⟨h1, h2⟩
  · exact .of_left (intBits_le_64 h1 h2)
  · exact .of_right (intBits_le_64 h1 h2)
theorem two_pow_nn (k : Nat) : (0 : Int) ≤ 2 ^ k := by
  rw [two_pow_cast]
  exact Int.natCast_nonneg _

theorem op_add : OpR X (binaryOp .Add) (rI0 fun i j => .int (i + j)) := opI0 fun _ _ _ _ _ _ _ q => add_int q
theorem op_sub : OpR X (binaryOp .Sub) (rI0 fun i j => .int (i - j)) := opI0 fun _ _ _ _ _ _ _ q => sub_int q
theorem op_mul : OpR X (binaryOp .Mult) (rI CMul fun i j => .int (i * j)) := opI fun _ _ _ _ _ _ _ hc q => mul_int q hc.ok
/-- // by a positive divisor -/
theorem op_fdiv : OpR X (binaryOp .FloorDiv) (rI CDiv fun i j => .int (i / j)) := opI fun i j _ _ _ _ _ hc q => by
  have h1 : (0 : Int) < j := hc.1
  have h2 : j < 1073741824 := hc.2
  exact floordiv_int (by omega) (by rw [Int.fdiv_eq_ediv_of_nonneg i (by omega)]; exact q) (.inl (PyProof.noPylong_small (by omega)))
theorem op_fdivN : OpR X (binaryOp .FloorDiv) (rI CDivN fun i j => .int (i.fdiv j)) := opI fun _ _ _ _ _ _ _ hc q => floordiv_int hc.1 q (.inl (PyProof.noPylong_small hc.2))
/-- % by a positive divisor of any size -/
theorem op_mod : OpR X (binaryOp .Mod) (rI (fun _ j => 0 < j) fun i j => .int (i % j)) := opI fun i j _ _ _ _ _ hc q => by
  have h1 : (0 : Int) < j := hc
  exact mod_int' (by omega) (by rw [Int.fmod_eq_emod_of_nonneg i (by omega)]; exact q)
theorem op_modN : OpR X (binaryOp .Mod) (rI (fun _ j => j ≠ 0) fun i j => .int (i.fmod j)) := opI fun _ _ _ _ _ _ _ hc q => mod_int' hc q
theorem op_pow : OpR X (binaryOp .Pow) (rI CPow fun i j => .int (i ^ j.toNat)) := opI fun _ _ _ _ _ _ _ hc q => pow_int_small hc.1 hc.2.1 hc.2.2 q
theorem op_shl : OpR X (binaryOp .LShift) (rI CPow fun i j => .int (i * 2 ^ j.toNat)) := opI fun _ _ _ _ _ _ _ hc q => lshift_int_small hc.1 hc.2.1 hc.2.2 q
theorem op_shr : OpR X (binaryOp .RShift) (rI (fun _ j => 0 ≤ j) fun i j => .int (i / 2 ^ j.toNat)) := opI fun i j _ _ _ _ _ hc q =>
  rshift_int hc (by rw [Int.fdiv_eq_ediv_of_nonneg i (two_pow_nn _)]; exact q)
theorem op_and : OpR X (binaryOp .BitAnd) (rI0 fun i j => .int (Builtin.bitAnd i j)) := opI0 fun _ _ _ _ _ _ _ q => and_int q
theorem op_or : OpR X (binaryOp .BitOr) (rI0 fun i j => .int (Builtin.bitOr i j)) := opI0 fun _ _ _ _ _ _ _ q => or_int q
theorem op_xor : OpR X (binaryOp .BitXor) (rI0 fun i j => .int (Builtin.bitXor i j)) := opI0 fun _ _ _ _ _ _ _ q => xor_int q

theorem iop_add : OpR X (inplaceOp .Add) (rI0 fun i j => .int (i + j)) := opI0 fun _ _ _ _ _ _ _ q => iadd_int q
theorem iop_sub : OpR X (inplaceOp .Sub) (rI0 fun i j => .int (i - j)) := opI0 fun _ _ _ _ _ _ _ q => isub_int q
theorem iop_mul : OpR X (inplaceOp .Mult) (rI CMul fun i j => .int (i * j)) := opI fun _ _ _ _ _ _ _ hc q => imul_int q hc.ok
theorem iop_fdiv : OpR X (inplaceOp .FloorDiv) (rI CDiv fun i j => .int (i / j)) := opI fun i j _ _ _ _ _ hc q => by
  have h1 : (0 : Int) < j := hc.1
  have h2 : j < 1073741824 := hc.2
  exact ifloordiv_int (by omega) (by rw [Int.fdiv_eq_ediv_of_nonneg i (by omega)]; exact q) (.inl (PyProof.noPylong_small (by omega)))
theorem iop_mod : OpR X (inplaceOp .Mod) (rI (fun _ j => 0 < j) fun i j => .int (i % j)) := opI fun i j _ _ _ _ _ hc q => by
  have h1 : (0 : Int) < j := hc
  exact imod_int (by omega) (by rw [Int.fmod_eq_emod_of_nonneg i (by omega)]; exact q)
theorem iop_shl : OpR X (inplaceOp .LShift) (rI CPow fun i j => .int (i * 2 ^ j.toNat)) := opI fun _ _ _ _ _ _ _ hc q => ilshift_int_small hc.1 hc.2.1 hc.2.2 q
theorem iop_shr : OpR X (inplaceOp .RShift) (rI (fun _ j => 0 ≤ j) fun i j => .int (i / 2 ^ j.toNat)) := opI fun i j _ _ _ _ _ hc q =>
  irshift_int hc (by rw [Int.fdiv_eq_ediv_of_nonneg i (two_pow_nn _)]; exact q)
theorem iop_and : OpR X (inplaceOp .BitAnd) (rI0 fun i j => .int (Builtin.bitAnd i j)) := opI0 fun _ _ _ _ _ _ _ q => iand_int q
theorem iop_or : OpR X (inplaceOp .BitOr) (rI0 fun i j => .int (Builtin.bitOr i j)) := opI0 fun _ _ _ _ _ _ _ q => ior_int q
theorem iop_xor : OpR X (inplaceOp .BitXor) (rI0 fun i j => .int (Builtin.bitXor i j)) := opI0 fun _ _ _ _ _ _ _ q => ixor_int q

theorem unI {f : Value → Sem Value} {g : Int → Int}
    (rule : ∀ (i : Int) (t : Tok) (s : Shared) (Q : Value → Shared → Prop) (E : Value → Shared → Prop), Q (.int (g i) s.toks) { s with toks := s.toks + 1 } → wpAny (model X.prog X.w) X.A (f (.int i t)) Q E s) :
    UnR X f (rU fun i => .int (g i)) := by
  intro pins s σ H x v Q I rx h
  obtain ⟨i, rfl, q⟩ := h
  obtain ⟨t, rfl⟩ := rx
  exact rule i t s _ _ ⟨.int (g i), H, I.tok _, ⟨_, rfl⟩, q⟩
theorem un_neg : UnR X (unaryOp .USub) (rU fun i => .int (-i)) := unI fun _ _ _ _ _ q => neg_int q
theorem un_inv : UnR X (unaryOp .Invert) (rU fun i => .int (Builtin.bitNot i)) := unI fun _ _ _ _ _ q => invert_int q

/-! ### bools among ints: n += (a < b) -/
theorem op_add_ib : OpR X (binaryOp .Add) (fun x y H Q => ∃ i k, x = .int i ∧ y = .bl k ∧ Q (.int (i + b2i k)) H) := by
  intro pins s σ H x y v u Q I rx ry h
  obtain ⟨i, k, rfl, rfl, q⟩ := h
  obtain ⟨t, rfl⟩ := rx
  cases ry
  exact add_int_bool ⟨.int (i + b2i k), H, I.tok _, ⟨_, rfl⟩, q⟩
end

/-! ### comparisons -/
/-- the scalars that == tells apart as data does -/
def scal : V → V → Bool
  | .non, .non => true | .non, .int _ => true | .int _, .non => true | .non, .bl _ => true | .bl _, .non => true | .non, .str _ => true | .str _, .non => true
  | .int _, .int _ => true | .bl _, .bl _ => true | .str _, .str _ => true | .byt _, .byt _ => true
  | .int _, .str _ => true | .str _, .int _ => true | .bl _, .str _ => true | .str _, .bl _ => true
  | _, _ => false
def rEq : R2 := fun x y H Q => scal x y = true ∧ Q (.bl (decide (x = y))) H
def rNe : R2 := fun x y H Q => scal x y = true ∧ Q (.bl (!decide (x = y))) H

theorem dec_int {i j : Int} : decide (V.int i = V.int j) = (i == j) := by
  rw [Bool.eq_iff_iff]
  simp
theorem dec_bl {i j : Bool} : decide (V.bl i = V.bl j) = (i == j) := by
  rw [Bool.eq_iff_iff]
  simp
theorem dec_str {i j : Str} : decide (V.str i = V.str j) = (i == j) := by
  rw [Bool.eq_iff_iff]
  simp
theorem dec_byt {i j : Array UInt8} : decide (V.byt i = V.byt j) = (i.toList == j.toList) := by
  rw [Bool.eq_iff_iff]
  cases i
  cases j
  simp

section
variable {X : Cx} {a b c : Expr} {ta tb tc : TE} {pos : Pos}
theorem fin_bl {pins : List (Addr × Obj)} {σ : St} {H : Hp} {s : Shared} {Q : VK} {k k' : Bool} (I : Inv X pins σ H s) (q : Q (.bl k) H) (e : k = k') : EP X pins σ Q (.bool k') s := by
  subst e
  exact ⟨.bl k, H, I, rfl, q⟩
theorem op_eq : OpR X (compareOp .Eq) rEq := by
  intro pins s σ H x y v u Q I rx ry h
  obtain ⟨hs, q⟩ := h
  cases x with
  | non =>
    cases rx
    cases y with
    | non => cases ry; exact PySem.EqNone.eq_none_none (fin_bl I q (by simp))
    | bl j => cases ry; exact PySem.EqNone.eq_none_bool (fin_bl I q (by simp))
    | int j => obtain ⟨t', rfl⟩ := ry; exact PySem.EqNone.eq_none_int (fin_bl I q (by simp))
    | str j => obtain ⟨t', rfl⟩ := ry; exact PySem.EqNone.eq_none_str (fin_bl I q (by simp))
    | _ => exact absurd (show false = true from hs) Bool.false_ne_true
  | bl i =>
    cases rx
    cases y with
    | non => cases ry; exact PySem.EqNone.eq_bool_none (fin_bl I q (by simp))
    | bl j => cases ry; exact eq_bool (fin_bl I q dec_bl)
    | str j => obtain ⟨t', rfl⟩ := ry; exact PySem.EqMixed.eq_bool_str (fin_bl I q (by simp))
    | _ => exact absurd (show false = true from hs) Bool.false_ne_true
  | int i =>
    obtain ⟨t, rfl⟩ := rx
    cases y with
    | non => cases ry; exact PySem.EqNone.eq_int_none (fin_bl I q (by simp))
    | int j => obtain ⟨t', rfl⟩ := ry; exact eq_int (fin_bl I q dec_int)
    | str j => obtain ⟨t', rfl⟩ := ry; exact PySem.EqMixed.eq_int_str (fin_bl I q (by simp))
    | _ => exact absurd (show false = true from hs) Bool.false_ne_true
  | str i =>
    obtain ⟨t, rfl⟩ := rx
    cases y with
    | non => cases ry; exact PySem.EqNone.eq_str_none (fin_bl I q (by simp))
    | bl j => cases ry; exact PySem.EqMixed.eq_str_bool (fin_bl I q (by simp))
    | int j => obtain ⟨t', rfl⟩ := ry; exact PySem.EqMixed.eq_str_int (fin_bl I q (by simp))
    | str j => obtain ⟨t', rfl⟩ := ry; exact eq_str (fin_bl I q dec_str)
    | _ => exact absurd (show false = true from hs) Bool.false_ne_true
  | byt i =>
    obtain ⟨t, rfl⟩ := rx
    cases y with
    | byt j => obtain ⟨t', rfl⟩ := ry; exact PySem.W.eq_bytes (fin_bl I q dec_byt)
    | _ => exact absurd (show false = true from hs) Bool.false_ne_true
  | _ => cases y <;> exact absurd (show false = true from hs) Bool.false_ne_true
theorem op_ne : OpR X (compareOp .NotEq) rNe := by
  intro pins s σ H x y v u Q I rx ry h
  obtain ⟨hs, q⟩ := h
  cases x with
  | non =>
    cases rx
    cases y with
    | non => cases ry; exact PySem.EqNone.ne_none_none (fin_bl I q (by simp))
    | bl j => cases ry; exact PySem.EqNone.ne_none_bool (fin_bl I q (by simp))
    | int j => obtain ⟨t', rfl⟩ := ry; exact PySem.EqNone.ne_none_int (fin_bl I q (by simp))
    | str j => obtain ⟨t', rfl⟩ := ry; exact PySem.EqNone.ne_none_str (fin_bl I q (by simp))
    | _ => exact absurd (show false = true from hs) Bool.false_ne_true
  | bl i =>
    cases rx
    cases y with
    | non => cases ry; exact PySem.EqNone.ne_bool_none (fin_bl I q (by simp))
    | bl j => cases ry; exact ne_bool (fin_bl I q (congrArg not dec_bl))
    | str j => obtain ⟨t', rfl⟩ := ry; exact PySem.EqMixed.ne_bool_str (fin_bl I q (by simp))
    | _ => exact absurd (show false = true from hs) Bool.false_ne_true
  | int i =>
    obtain ⟨t, rfl⟩ := rx
    cases y with
    | non => cases ry; exact PySem.EqNone.ne_int_none (fin_bl I q (by simp))
    | int j => obtain ⟨t', rfl⟩ := ry; exact ne_int (fin_bl I q (congrArg not dec_int))
    | str j => obtain ⟨t', rfl⟩ := ry; exact PySem.EqMixed.ne_int_str (fin_bl I q (by simp))
    | _ => exact absurd (show false = true from hs) Bool.false_ne_true
  | str i =>
    obtain ⟨t, rfl⟩ := rx
    cases y with
    | non => cases ry; exact PySem.EqNone.ne_str_none (fin_bl I q (by simp))
    | bl j => cases ry; exact PySem.EqMixed.ne_str_bool (fin_bl I q (by simp))
    | int j => obtain ⟨t', rfl⟩ := ry; exact PySem.EqMixed.ne_str_int (fin_bl I q (by simp))
    | str j => obtain ⟨t', rfl⟩ := ry; exact ne_str (fin_bl I q (congrArg not dec_str))
    | _ => exact absurd (show false = true from hs) Bool.false_ne_true
  | byt i =>
    obtain ⟨t, rfl⟩ := rx
    cases y with
    | byt j => obtain ⟨t', rfl⟩ := ry; exact PySem.W.ne_bytes (fin_bl I q (congrArg not dec_byt))
    | _ => exact absurd (show false = true from hs) Bool.false_ne_true
  | _ => cases y <;> exact absurd (show false = true from hs) Bool.false_ne_true

theorem op_lt : OpR X (compareOp .Lt) (rI0 fun i j => .bl (decide (i < j))) := opB0 fun _ _ _ _ _ _ _ q => lt_int q
theorem op_le : OpR X (compareOp .LtE) (rI0 fun i j => .bl (decide (i ≤ j))) := opB0 fun _ _ _ _ _ _ _ q => le_int q
theorem op_gt : OpR X (compareOp .Gt) (rI0 fun i j => .bl (decide (j < i))) := opB0 fun _ _ _ _ _ _ _ q => gt_int q
theorem op_ge : OpR X (compareOp .GtE) (rI0 fun i j => .bl (decide (j ≤ i))) := opB0 fun _ _ _ _ _ _ _ q => ge_int q
theorem op_lt_str : OpR X (compareOp .Lt) (fun x y H Q => ∃ i j, x = .str i ∧ y = .str j ∧ Q (.bl (decide (i.cps.toList < j.cps.toList))) H) := by
  intro pins s σ H x y v u Q I rx ry h
  obtain ⟨i, j, rfl, rfl, q⟩ := h
  obtain ⟨t, rfl⟩ := rx
  obtain ⟨t', rfl⟩ := ry
  exact lt_str (fin_bl I q rfl)
/-- the one string within the other -/
theorem op_in_str : OpR X (compareOp .In) (fun x y H Q => ∃ i j, x = .str i ∧ y = .str j ∧ Q (.bl (!(Builtin.Str.occurrences j i 0 j.length 1).isEmpty)) H) := by
  intro pins s σ H x y v u Q I rx ry h
  obtain ⟨i, j, rfl, rfl, q⟩ := h
  obtain ⟨t, rfl⟩ := rx
  obtain ⟨t', rfl⟩ := ry
  exact in_str (fin_bl I q rfl)

/-- is None, is not None: the right side a value none -/
theorem op_isN : OpR X (compareOp .Is) (fun x y H Q => y = .non ∧ Q (.bl (decide (x = .non))) H) := by
  intro pins s σ H x y v u Q I rx ry h
  obtain ⟨rfl, q⟩ := h
  cases ry
  refine is_none_gen (fin_bl I q ?_)
  cases x <;> first
    | (cases rx; rfl)
    | (obtain ⟨t, rfl⟩ := rx; rfl)
theorem op_notN : OpR X (compareOp .IsNot) (fun x y H Q => y = .non ∧ Q (.bl (!decide (x = .non))) H) := by
  intro pins s σ H x y v u Q I rx ry h
  obtain ⟨rfl, q⟩ := h
  cases ry
  refine isnot_none_gen (fin_bl I q ?_)
  cases x <;> first
    | (cases rx; rfl)
    | (obtain ⟨t, rfl⟩ := rx; rfl)

theorem op_notin_str : OpR X (compareOp .NotIn) (fun x y H Q => ∃ i j, x = .str i ∧ y = .str j ∧ Q (.bl (!(!(Builtin.Str.occurrences j i 0 j.length 1).isEmpty))) H) := by
  intro pins s σ H x y v u Q I rx ry h
  obtain ⟨i, j, rfl, rfl, q⟩ := h
  obtain ⟨t, rfl⟩ := rx
  obtain ⟨t', rfl⟩ := ry
  exact notIn_str (fin_bl I q rfl)
/-- is, is not of two objects that are tracked lists or instances -/
def isObj : HO → Bool
  | .lst _ => true
  | .ins _ _ _ => true
  | _ => false
theorem obj_there {pins : List (Addr × Obj)} {s : Shared} {σ : St} {H : Hp} {a : Addr} {o : HO} (I : Inv X pins σ H s) (h : H a = some o) (p : isObj o = true) : ∃ ob, s.heap.get? a = some ob ∧ ob.cls ≠ .type "tuple" := by
  cases o with
  | lst xs =>
    obtain ⟨_, its, n, _, e⟩ : xs.length ≤ sizeLine ∧ ∃ (its : List Value) (n : Nat), Vals xs its ∧ s.heap.get? a = some { cls := .type "list", data := .seq its.toArray n } := I.hok a _ h
    exact ⟨_, e, (by show Value.type "list" ≠ .type "tuple"; decide +kernel)⟩
  | ins C dx fs =>
    have x := I.hok a _ h
    obtain ⟨_, _, _, e, _⟩ := x
    exact ⟨_, e, (by show Value.ref C ≠ .type "tuple"; exact fun z => by cases z)⟩
  | _ => exact absurd (show false = true from p) Bool.false_ne_true
theorem op_is_ref : OpR X (compareOp .Is) (fun x y H Q => ∃ a b oa ob, x = .ref a ∧ y = .ref b ∧ H a = some oa ∧ isObj oa = true ∧ H b = some ob ∧ isObj ob = true ∧ Q (.bl (decide (a = b))) H) := by
  intro pins s σ H x y v u Q I rx ry h
  obtain ⟨a, b, oa, ob, rfl, rfl, ha, pa, hb, pb, q⟩ := h
  cases rx
  cases ry
  obtain ⟨o1, e1, n1⟩ := obj_there I ha pa
  obtain ⟨o2, e2, _⟩ := obj_there I hb pb
  by_cases z : a = b
  · subst z
    exact wpAny_is_ref_self (fin_bl I q (by simp))
  · exact wpAny_is_ref_other z e1 e2 n1 (fin_bl I q (by simp [z]))
theorem op_isnot_ref : OpR X (compareOp .IsNot) (fun x y H Q => ∃ a b oa ob, x = .ref a ∧ y = .ref b ∧ H a = some oa ∧ isObj oa = true ∧ H b = some ob ∧ isObj ob = true ∧ Q (.bl (!decide (a = b))) H) := by
  intro pins s σ H x y v u Q I rx ry h
  obtain ⟨a, b, oa, ob, rfl, rfl, ha, pa, hb, pb, q⟩ := h
  cases rx
  cases ry
  obtain ⟨o1, e1, n1⟩ := obj_there I ha pa
  obtain ⟨o2, e2, _⟩ := obj_there I hb pb
  by_cases z : a = b
  · subst z
    exact wpAny_isNot_ref_self (fin_bl I q (by simp))
  · exact wpAny_isNot_ref_other z e1 e2 n1 (fin_bl I q (by simp [z]))

/-- two rules for one operation: by cases -/
theorem OpR.or {f : Value → Value → Sem Value} {r r' : R2} (h : OpR X f r) (h' : OpR X f r') : OpR X f (fun x y H Q => r x y H Q ∨ r' x y H Q) := by
  intro pins s σ H x y v u Q I rx ry q
  rcases q with q | q
  · exact h pins s σ H x y v u Q I rx ry q
  · exact h' pins s σ H x y v u Q I rx ry q

theorem nomark (b : Expr) {op : CmpOp} (h : op ≠ .In := by decide) (h2 : op ≠ .NotIn := by decide) : behindInMarks op b = false := by
  have e1 : (op == CmpOp.In) = false := by cases op <;> first | rfl | exact absurd rfl h
  have e2 : (op == CmpOp.NotIn) = false := by cases op <;> first | rfl | exact absurd rfl h2
  cases b <;> simp [behindInMarks, e1, e2]
/-- a comparison as a value; hm: nomark b, or (for in, not in) by with_unfolding_all rfl -/
theorem pe_cmpR {op : CmpOp} {r : R2} (ho : OpR X (compareOp op) r) (ha : PE X a ta) (hb : PE X b tb) (hm : behindInMarks op b = false) : PE X (.Compare a [op] [b] pos) (tOp r ta tb) := by
  intro pins s σ H Q I h
  exact wpAny_Compare1 (binT ha hb I h fun v u s2 x y H2 I2 rx ry q => ho pins s2 σ H2 x y v u Q I2 rx ry q) hm
/-- a reading of a value as a test -/
def tTest (t : TE) : TT := fun σ H Q => t σ H fun x H' => ∃ k, x = .bl k ∧ Q k H'
theorem pt_cmpR {op : CmpOp} {r : R2} (ho : OpR X (compareOp op) r) (ha : PE X a ta) (hb : PE X b tb) (hm : behindInMarks op b = false) : PT X (.Compare a [op] [b] pos) (tTest (tOp r ta tb)) := by
  intro pins s σ H Q I h
  refine wpAny_isTrue_Compare1 (thn (ha pins s σ H _ I h) fun v s1 ⟨x, H1, I1, r1, q1⟩ => thn (hb pins s1 σ H1 _ I1 q1) fun u s2 ⟨y, H2, I2, r2, q2⟩ =>
    thn (ho pins s2 σ H2 x y v u _ I2 r1 r2 q2) fun c s3 ⟨z, H3, I3, r3, k, e, q3⟩ => ?_) hm
  subst e
  cases r3
  exact wpAny_truthy_bool ⟨H3, I3, q3⟩
/-- a op1 b op2 c -/
def tChain (r r' : R2) (ta tb tc : TE) : TE := fun σ H Q => ta σ H fun x H1 => tb σ H1 fun y H2 => r x y H2 fun z H3 => ∃ k, z = .bl k ∧
  (if k = true then tc σ H3 fun w' H4 => r' y w' H4 Q else Q (.bl false) H3)
theorem pe_chain {op op' : CmpOp} {r r' : R2} (ho : OpR X (compareOp op) r) (ho' : OpR X (compareOp op') r') (ha : PE X a ta) (hb : PE X b tb) (hc : PE X c tc)
    (hm : lastMarks [op, op'] [b, c] = false := by with_unfolding_all rfl) : PE X (.Compare a [op, op'] [b, c] pos) (tChain r r' ta tb tc) := by
  intro pins s σ H Q I h
  refine Compare_chain (thn (ha pins s σ H _ I h) fun v s1 ⟨x, H1, I1, r1, q1⟩ => chain_link (thn (hb pins s1 σ H1 _ I1 q1) fun u s2 ⟨y, H2, I2, r2, q2⟩ =>
    thn (ho pins s2 σ H2 x y v u _ I2 r1 r2 q2) fun d s3 ⟨z, H3, I3, r3, k, e, q3⟩ => ?_)) hm
  subst e
  cases r3
  refine wpAny_truthy_bool ?_
  cases k with
  | false => exact ite_ff ⟨.bl false, H3, I3, rfl, q3⟩
  | true => exact ite_tt (chain_last (thn (hc pins s3 σ H3 _ I3 q3) fun w' s4 ⟨z', H4, I4, r4, q4⟩ => ho' pins s4 σ H4 y z' u w' Q I4 r2 r4 q4))
theorem pt_chain {op op' : CmpOp} {r r' : R2} (ho : OpR X (compareOp op) r) (ho' : OpR X (compareOp op') r') (ha : PE X a ta) (hb : PE X b tb) (hc : PE X c tc)
    (hm : lastMarks [op, op'] [b, c] = false := by with_unfolding_all rfl) : PT X (.Compare a [op, op'] [b, c] pos) (tTest (tChain r r' ta tb tc)) := by
  intro pins s σ H Q I h
  refine isTrue_chain (thn (ha pins s σ H _ I h) fun v s1 ⟨x, H1, I1, r1, q1⟩ => test_link (thn (hb pins s1 σ H1 _ I1 q1) fun u s2 ⟨y, H2, I2, r2, q2⟩ =>
    thn (ho pins s2 σ H2 x y v u _ I2 r1 r2 q2) fun d s3 ⟨z, H3, I3, r3, k, e, q3⟩ => ?_)) hm
  subst e
  cases r3
  refine wpAny_truthy_bool ?_
  cases k with
  | false =>
    obtain ⟨k', e', q'⟩ := q3
    cases e'
    exact ite_ff ⟨H3, I3, q'⟩
  | true =>
    refine ite_tt (test_last (thn (hc pins s3 σ H3 _ I3 q3) fun w' s4 ⟨z', H4, I4, r4, q4⟩ => thn (ho' pins s4 σ H4 y z' u w' _ I4 r2 r4 q4) fun d' s5 ⟨z2, H5, I5, r5, k2, e2, q5⟩ => ?_))
    subst e2
    cases r5
    exact wpAny_truthy_bool ⟨H5, I5, q5⟩

/-! ### truth -/
/-- a value's truth by the abstract heap -/
def TruV (K : PySem.W.Frag) (x : V) (H : Hp) (k : Bool) : Prop :=
  match x with
  | .non => k = false
  | .bl b => k = b
  | .int i => k = (i != 0)
  | .str y => y.length ≤ sizeLine ∧ k = ((y.length : Int) != 0)
  | .byt y => y.size ≤ sizeLine ∧ k = ((y.size : Int) != 0)
  | .ref p => (∃ xs, SqL K H p xs ∧ k = !xs.isEmpty) ∨ (∃ xs, SqT K H p xs ∧ k = !xs.isEmpty) ∨ ∃ kvs, H p = some (.dK kvs) ∧ k = !kvs.isEmpty
  | _ => False
theorem isEmpty_kv {κ : Type} {kvs : List (κ × V)} {vs : List (κ × Value)} (r : KV kvs vs) : (!vs.isEmpty) = !kvs.isEmpty := by
  cases r <;> rfl
theorem isEmpty_of {xs : List V} {its : List Value} (r : Vals xs its) : (!its.toArray.isEmpty) = !xs.isEmpty := by
  cases r <;> simp
theorem line63 : (sizeLine : Nat) < 2 ^ 63 := by rw [sizeLine_eq]; decide
theorem tru_ok : TruR X (fun x H Q => ∃ k, TruV X.K x H k ∧ Q k H) := by
  intro pins s σ H x v Q I rx h
  obtain ⟨k, e, q⟩ := h
  have hl := line63
  have hs : sizeLine = 16777216 := sizeLine_eq
  cases x with
  | non =>
    cases rx
    have e' : k = false := e
    subst e'
    exact truthy_none ⟨H, I, q⟩
  | bl b =>
    cases rx
    have e' : k = b := e
    subst e'
    exact wpAny_truthy_bool ⟨H, I, q⟩
  | int i =>
    obtain ⟨t, rfl⟩ := rx
    have e' : k = (i != 0) := e
    subst e'
    exact PySem.P.truthy_int ⟨H, I, q⟩
  | str y =>
    obtain ⟨t, rfl⟩ := rx
    obtain ⟨hy, e'⟩ : y.length ≤ sizeLine ∧ k = ((y.length : Int) != 0) := e
    subst e'
    exact PySem.P.truthy_str (by omega) ⟨H, I.tok _, q⟩
  | byt y =>
    obtain ⟨t, rfl⟩ := rx
    obtain ⟨hy, e'⟩ : y.size ≤ sizeLine ∧ k = ((y.size : Int) != 0) := e
    subst e'
    exact PySem.W.truthy_bytes (by omega) ⟨H, I.tok _, q⟩
  | ref p =>
    cases rx
    have e' : (∃ xs, SqL X.K H p xs ∧ k = !xs.isEmpty) ∨ (∃ xs, SqT X.K H p xs ∧ k = !xs.isEmpty) ∨ ∃ kvs, H p = some (.dK kvs) ∧ k = !kvs.isEmpty := e
    rcases e' with ⟨xs, hx, e'⟩ | ⟨xs, hx, e'⟩ | ⟨kvs, hx, e'⟩
    · subst e'
      obtain ⟨its, r, pl, hz⟩ := I.list hx
      have hlen := r.length
      exact wpAny_truthy_list pl.isList (by simp only [List.size_toArray]; omega) ⟨H, I.tok _, by rw [isEmpty_of r]; exact q⟩
    · subst e'
      obtain ⟨its, r, pl, hz⟩ := I.tuple hx
      have hlen := r.length
      exact truthy_tuple pl (by simp only [List.size_toArray]; omega) ⟨H, I.tok _, by rw [isEmpty_of r]; exact q⟩
    · subst e'
      obtain ⟨hz, hS, vs, r, m⟩ : kvs.length ≤ sizeLine ∧ (p == sysModules) = false ∧ ∃ vs, KV kvs vs ∧ s.heap.DictOf (mixKind X.prog X.w) p vs := I.hok p _ hx
      have hlen : kvs.length = vs.length := Paired.length r
      exact wpAny_truthy_dict hS m (by omega) ⟨H, I.tok _, by rw [isEmpty_kv r]; exact q⟩
  | _ => exact (show False from e).elim
/-- any expression whose test is its value's truth (a name, a call, a subscript, a field ..: he by fun _ => rfl) -/
theorem pt_truth (ha : PE X a ta) (he : ∀ whole, isTrue a X.env whole = (do let v ← whole; standAt a.pos; holding [v] (truthy v))) :
    PT X a (fun σ H Q => ta σ H fun x H' => ∃ k, TruV X.K x H' k ∧ Q k H') := by
  intro pins s σ H Q I h
  exact isTrue_plain (thn (ha pins s σ H _ I h) fun v s1 ⟨x, H1, I1, r1, q1⟩ => tru_ok pins s1 σ H1 x v Q I1 r1 q1) (he _)

/-! ### strs and bytes -/
theorem pe_byt {x : List UInt8} {k : Nat} : PE X (.Constant (.bytes x) k pos) (fun _ H Q => Q (.byt x.toArray) H) := fun _ _ _ H _ I h => PySem.W.Constant_bytes ⟨.byt x.toArray, H, I.tok _, ⟨_, rfl⟩, h⟩
theorem op_add_str : OpR X (binaryOp .Add) (fun x y H Q => ∃ i j, x = .str i ∧ y = .str j ∧ i.length + j.length ≤ sizeLine ∧ Q (.str (i ++ j)) H) := by
  intro pins s σ H x y v u Q I rx ry h
  obtain ⟨i, j, rfl, rfl, hz, q⟩ := h
  obtain ⟨t, rfl⟩ := rx
  obtain ⟨t', rfl⟩ := ry
  exact add_str (fun t' tk => ⟨.str (i ++ j), H, I.tok _, ⟨_, rfl⟩, q⟩) hz
theorem iop_add_str : OpR X (inplaceOp .Add) (fun x y H Q => ∃ i j, x = .str i ∧ y = .str j ∧ i.length + j.length ≤ sizeLine ∧ Q (.str (i ++ j)) H) := by
  intro pins s σ H x y v u Q I rx ry h
  obtain ⟨i, j, rfl, rfl, hz, q⟩ := h
  obtain ⟨t, rfl⟩ := rx
  obtain ⟨t', rfl⟩ := ry
  exact iadd_str (fun t' tk => ⟨.str (i ++ j), H, I.tok _, ⟨_, rfl⟩, q⟩) hz
theorem op_add_byt : OpR X (binaryOp .Add) (fun x y H Q => ∃ i j, x = .byt i ∧ y = .byt j ∧ i.size + j.size ≤ 16777216 ∧ Q (.byt (i ++ j)) H) := by
  intro pins s σ H x y v u Q I rx ry h
  obtain ⟨i, j, rfl, rfl, hz, q⟩ := h
  obtain ⟨t, rfl⟩ := rx
  obtain ⟨t', rfl⟩ := ry
  exact PySem.W.KBy.add_bytes hz (fun t' tk => ⟨.byt (i ++ j), H, I.tok _, ⟨_, rfl⟩, q⟩)

def PlainIxT (b : Expr) : Prop := ∀ o i, subscripted b false o i = operate [o, i] (getItem o i)
/-- s[i], 0 ≤ i < len -/
theorem pe_item_str (ha : PE X a ta) (hb : PE X b tb) (hs : PlainIxT b) :
    PE X (.Subscript a b pos) (tOp (fun x y H Q => ∃ z i c, x = .str z ∧ y = .int i ∧ 0 ≤ i ∧ i < 2 ^ 63 ∧ i < z.length ∧ z.cps[i.toNat]? = some c ∧ Q (.str ⟨#[c]⟩) H) ta tb) := by
  intro pins s σ H Q I h
  refine Subscript_ (binT ha hb I h fun v u s2 x y H2 I2 rx ry q => ?_)
  obtain ⟨z, i, c, rfl, rfl, h0, h63, h1, hc, q⟩ := q
  obtain ⟨t, rfl⟩ := rx
  obtain ⟨t', rfl⟩ := ry
  have e : seqIndex? i z.length = some i.toNat := PySem.StrLaws.seqIndex_nonneg h0 h1
  exact tail_any (typeIs_str s2 z t) slot_str_getitem.lookup (getItem_str (c := c) (by
    have e1 : decide (i < -(2 ^ 63 : Int)) = false := decide_eq_false (by omega)
    have e2 : decide (i ≥ 2 ^ 63) = false := decide_eq_false (by omega)
    rw [e1, e2] <;> rfl) (by rw [e]; exact hc) ⟨.str ⟨#[c]⟩, H2, I2.tok _, ⟨_, rfl⟩, q⟩) (hs _ _)
/-- b[i], 0 ≤ i < len -/
theorem pe_item_byt (ha : PE X a ta) (hb : PE X b tb) (hs : PlainIxT b) :
    PE X (.Subscript a b pos) (tOp (fun x y H Q => ∃ (z : List UInt8) (i : Int), x = .byt z.toArray ∧ y = .int i ∧ z.length ≤ sizeLine ∧ 0 ≤ i ∧ i < z.length ∧ Q (.int ((z.getD i.toNat 0).toNat : Nat)) H) ta tb) := by
  intro pins s σ H Q I h
  refine Subscript_ (binT ha hb I h fun v u s2 x y H2 I2 rx ry q => ?_)
  obtain ⟨z, i, rfl, rfl, hz, h0, h1, q⟩ := q
  obtain ⟨t, rfl⟩ := rx
  obtain ⟨t', rfl⟩ := ry
  have hl : sizeLine = 16777216 := sizeLine_eq
  exact tail_any (PySem.W.typeIs_bytes s2 z.toArray t) PySem.W.FB.slot_bytes_getitem.lookup (PySem.W.getItem_bytes (by omega) h0 h1 ⟨.int ((z.getD i.toNat 0).toNat : Nat), H2, I2.tok _, ⟨_, rfl⟩, q⟩) (hs _ _)

/-! ### scalar builtins, by CallR -/
theorem vals1 {x : V} {us : List Value} (r : Vals [x] us) : ∃ u, us = [u] ∧ RelV x u := by
  cases r with
  | cons r1 r2 => cases r2; exact ⟨_, rfl, r1⟩
theorem vals2 {x y : V} {us : List Value} (r : Vals [x, y] us) : ∃ u w', us = [u, w'] ∧ RelV x u ∧ RelV y w' := by
  cases r with
  | cons r1 r2 =>
    cases r2 with
    | cons r3 r4 => cases r4; exact ⟨_, _, rfl, r1, r3⟩
theorem call_abs : CallR X (.builtin "abs") (fun xs H Q => ∃ i, xs = [.int i] ∧ Q (.int (if i < 0 then -i else i)) H) := by
  intro pins s σ H xs us Q I r h
  obtain ⟨i, rfl, q⟩ := h
  obtain ⟨u, rfl, t, rfl⟩ := vals1 r
  exact call_abs_int fun u tk => ⟨.int (if i < 0 then -i else i), H, I.tok _, ⟨_, rfl⟩, q⟩
theorem call_max2 (hc : X.calm = true) : CallR X (.builtin "max") (fun xs H Q => ∃ i j, xs = [.int i, .int j] ∧ Q (.int (if j > i then j else i)) H) := by
  intro pins s σ H xs us Q I r h
  obtain ⟨i, j, rfl, q⟩ := h
  obtain ⟨u, w', rfl, ⟨t, rfl⟩, ⟨t', rfl⟩⟩ := vals2 r
  refine max_two_ints (I.ok.hd hc) fun h' tk k => ⟨_, H, I.kept k, ?_, q⟩
  by_cases hj : j > i
  · rw [if_pos hj, if_pos hj]; exact ⟨_, rfl⟩
  · rw [if_neg hj, if_neg hj]; exact ⟨_, rfl⟩
theorem call_min2 (hc : X.calm = true) : CallR X (.builtin "min") (fun xs H Q => ∃ i j, xs = [.int i, .int j] ∧ Q (.int (if j < i then j else i)) H) := by
  intro pins s σ H xs us Q I r h
  obtain ⟨i, j, rfl, q⟩ := h
  obtain ⟨u, w', rfl, ⟨t, rfl⟩, ⟨t', rfl⟩⟩ := vals2 r
  refine min_two_ints (I.ok.hd hc) fun h' tk k => ⟨_, H, I.kept k, ?_, q⟩
  by_cases hj : j < i
  · rw [if_pos hj, if_pos hj]; exact ⟨_, rfl⟩
  · rw [if_neg hj, if_neg hj]; exact ⟨_, rfl⟩
theorem call_int1 : CallR X (.type "int") (fun xs H Q => (∃ i, xs = [.int i] ∧ Q (.int i) H) ∨ ∃ k, xs = [.bl k] ∧ Q (.int (if k then 1 else 0)) H) := by
  intro pins s σ H xs us Q I r h
  rcases h with ⟨i, rfl, q⟩ | ⟨k, rfl, q⟩
  · obtain ⟨u, rfl, t, rfl⟩ := vals1 r
    exact call_int_int ⟨.int i, H, I, ⟨_, rfl⟩, q⟩
  · obtain ⟨u, rfl, r1⟩ := vals1 r
    cases r1
    exact call_int_bool ⟨.int (if k then 1 else 0), H, I.tok _, ⟨_, rfl⟩, q⟩
theorem call_bool1 : CallR X (.type "bool") (fun xs H Q => (∃ i, xs = [.int i] ∧ Q (.bl (i != 0)) H) ∨ ∃ k, xs = [.bl k] ∧ Q (.bl k) H) := by
  intro pins s σ H xs us Q I r h
  rcases h with ⟨i, rfl, q⟩ | ⟨k, rfl, q⟩
  · obtain ⟨u, rfl, t, rfl⟩ := vals1 r
    exact call_bool_int ⟨.bl (i != 0), H, I, rfl, q⟩
  · obtain ⟨u, rfl, r1⟩ := vals1 r
    cases r1
    exact call_bool_bool ⟨.bl k, H, I, rfl, q⟩
theorem call_str_int : CallR X (.type "str") (fun xs H Q => ∃ i, xs = [.int i] ∧ i.natAbs.log2 < 1920 ∧ Q (.str (toString i)) H) := by
  intro pins s σ H xs us Q I r h
  obtain ⟨i, rfl, hz, q⟩ := h
  obtain ⟨u, rfl, t, rfl⟩ := vals1 r
  exact PySem.P.str_of_int hz ⟨.str _, H, I.tok _, ⟨_, rfl⟩, q⟩
theorem call_ord : CallR X (.builtin "ord") (fun xs H Q => ∃ x, xs = [.str x] ∧ x.length = 1 ∧ Q (.int (x.cps.getD 0 0 : Nat)) H) := by
  intro pins s σ H xs us Q I r h
  obtain ⟨x, rfl, hz, q⟩ := h
  obtain ⟨u, rfl, t, rfl⟩ := vals1 r
  exact ord_of_one hz ⟨.int _, H, I.tok _, ⟨_, rfl⟩, q⟩
theorem call_chr : CallR X (.builtin "chr") (fun xs H Q => ∃ i, xs = [.int i] ∧ 0 ≤ i ∧ i ≤ 1114111 ∧ Q (.str ⟨#[i.toNat]⟩) H) := by
  intro pins s σ H xs us Q I r h
  obtain ⟨i, rfl, h0, h1, q⟩ := h
  obtain ⟨u, rfl, t, rfl⟩ := vals1 r
  exact chr_of_range h0 h1 ⟨.str _, H, I.tok _, ⟨_, rfl⟩, q⟩
/-- len of a str, a bytes, a list, a tuple -/
def LenV (K : PySem.W.Frag) (x : V) (H : Hp) (n : Nat) : Prop :=
  match x with
  | .str y => y.length ≤ sizeLine ∧ n = y.length
  | .byt y => y.size ≤ sizeLine ∧ n = y.size
  | .ref p => (∃ xs, SqL K H p xs ∧ n = xs.length) ∨ ∃ xs, SqT K H p xs ∧ n = xs.length
  | _ => False
theorem call_len : CallR X (.builtin "len") (fun xs H Q => ∃ x n, xs = [x] ∧ LenV X.K x H n ∧ Q (.int n) H) := by
  intro pins s σ H xs us Q I r h
  obtain ⟨x, n, rfl, e, q⟩ := h
  obtain ⟨u, rfl, rx⟩ := vals1 r
  have hl := line63
  have hs : sizeLine = 16777216 := sizeLine_eq
  cases x with
  | str y =>
    obtain ⟨t, rfl⟩ := rx
    obtain ⟨hy, e'⟩ : y.length ≤ sizeLine ∧ n = y.length := e
    subst e'
    exact len_str (by omega) ⟨.int _, H, I.tok _, ⟨_, rfl⟩, q⟩
  | byt y =>
    obtain ⟨t, rfl⟩ := rx
    obtain ⟨hy, e'⟩ : y.size ≤ sizeLine ∧ n = y.size := e
    subst e'
    exact PySem.W.len_bytes (by omega) ⟨.int _, H, I.tok _, ⟨_, rfl⟩, q⟩
  | ref p =>
    cases rx
    have e' : (∃ xs, SqL X.K H p xs ∧ n = xs.length) ∨ ∃ xs, SqT X.K H p xs ∧ n = xs.length := e
    rcases e' with ⟨xs, hx, e'⟩ | ⟨xs, hx, e'⟩
    · subst e'
      obtain ⟨its, r', pl, hz⟩ := I.list hx
      have hlen := r'.length
      exact Calls.call_len_list pl.isList (by simp only [List.size_toArray]; omega) ⟨.int xs.length, H, I.tok _, ⟨_, by simp only [List.size_toArray]; rw [hlen]⟩, q⟩
    · subst e'
      obtain ⟨its, r', pl, hz⟩ := I.tuple hx
      have hlen := r'.length
      exact len_tuple pl (by simp only [List.size_toArray]; omega) ⟨.int xs.length, H, I.tok _, ⟨_, by simp only [List.size_toArray]; rw [hlen]⟩, q⟩
  | _ => exact (show False from e).elim
/-- divmod: a new tuple -/
theorem call_divmod : CallR X (.builtin "divmod") (fun xs H Q => ∃ i j, xs = [.int i, .int j] ∧ CDiv i j ∧ ∀ p, H p = none → Q (.ref p) (upd H p (.tup [.int (i / j), .int (i % j)]))) := by
  intro pins s σ H xs us Q I r h
  obtain ⟨i, j, rfl, ⟨h1, h2⟩, q⟩ := h
  obtain ⟨u, w', rfl, ⟨t, rfl⟩, ⟨t', rfl⟩⟩ := vals2 r
  refine divmod_int (by omega) ?_ (.inl (PyProof.noPylong_small (by omega)))
  rw [Int.fdiv_eq_ediv_of_nonneg i (by omega), Int.fmod_eq_emod_of_nonneg i (by omega)]
  have hn : H s.heap.objs.size = none := I.hok.fresh (Nat.le_refl _)
  refine ⟨.ref s.heap.objs.size, _, ?_, rfl, q _ hn⟩
  refine I.laid (fun b o e => Heap.get?_push_of_some _ e) (Nat.le_refl _) ⟨by simp only [List.length_cons, List.length_nil]; rw [sizeLine_eq]; decide, [.int (i / j) s.toks, .int (i % j) (s.toks + 1)], .cons ⟨_, rfl⟩ (.cons ⟨_, rfl⟩ .nil), ?_⟩
  exact ⟨_, Heap.get?_push_size s.heap rfl, rfl, 0, rfl⟩
end
end L2

namespace L2
open PySem PySem.Spec PyProof.Rows

/-! ### an instance, its attributes a map -/
structure ObjM (h : Heap) (x dx C : Addr) (mA : Str → Option Value) : Prop where
  obj : h.get? x = some (PySem.W.instObj C dx)
  ns : h.Ns1 dx mA
  ne : dx ≠ x

theorem lookIn_ns {h : Heap} {dx : Addr} {mA : Str → Option Value} (n : h.Ns1 dx mA) : ∃ od, h.get? dx = some od ∧ ∀ name, PySem.W.lookIn name od = some (mA name) := by
  obtain ⟨o, es, ep, ho, hd, hk, _, hm⟩ := n
  refine ⟨o, ho, fun name => ?_⟩
  have e := hm name
  unfold nsFind findBy at e
  rw [← Array.find?_toList] at e
  unfold PySem.W.lookIn
  rw [hd]
  dsimp only
  split
  · rename_i y q
    rw [q] at e
    exact congrArg some e
  · rename_i q
    rw [q] at e
    have a : es.toList.any (·.refKey) = false := by
      rw [List.any_eq_false]
      intro y hy
      obtain ⟨z, t, hkey⟩ := hk y (Array.mem_toList_iff.mp hy)
      simp [DictEntry.refKey, hkey]
    have a' : ¬ es.toList.any (·.refKey) = true := by rw [a]; exact Bool.false_ne_true
    rw [if_neg a']
    exact congrArg some e

theorem ObjM.look {h : Heap} {x dx C : Addr} {mA : Str → Option Value} (I : ObjM h x dx C mA) : ∃ od, PySem.W.InstAt h x (PySem.W.instObj C dx) C (some od) ∧ ∀ name, PySem.W.lookIn name od = some (mA name) :=
  let ⟨od, ho, hl⟩ := lookIn_ns I.ns
  ⟨od, ⟨I.obj, rfl, rfl, ho⟩, hl⟩

section
variable {prog : Program} {w : World} {A : Around} {E : Value → Shared → Prop} {s : Shared} {K : PySem.W.Frag} {x dx C f : Addr} {mA : Str → Option Value} {name : Str} {v : Value}

theorem get_map {expr : Bool} {Q : Value → Shared → Prop} (X : K.In s.heap) (I : ObjM s.heap x dx C mA) (hg : PySem.W.plainGet K C name = true) (hh : PySem.W.hasDictIn K C = true)
    (ha : PySem.W.findIn K (.ref C) name = some none) (hv : mA name = some v) (hv' : PySem.W.handedIn v = true) (h : Q v { s with toks := s.toks + 1 }) :
    wpAny (model prog w) A (getAttr (.ref x) name expr) Q E s := by
  obtain ⟨od, J, hl⟩ := I.look
  exact PySem.W.get_value X J (PySem.W.plainGet_of hg).1 (PySem.W.findObj_own hh ha rfl (by rw [hl, hv])) hv' h

theorem get_const {expr : Bool} {a : Value} {Q : Value → Shared → Prop} (X : K.In s.heap) (I : ObjM s.heap x dx C mA) (hg : PySem.W.plainGet K C name = true) (hh : PySem.W.hasDictIn K C = true)
    (ha : PySem.W.findIn K (.ref C) name = some (some a)) (hn : PySem.W.specialIn K a "__get__" = some none) (hc : PySem.W.copiedNames.contains name = false) (hv : mA name = none) (hv' : PySem.W.handedIn a = true)
    (h : Q a { s with toks := s.toks + 1 }) : wpAny (model prog w) A (getAttr (.ref x) name expr) Q E s := by
  obtain ⟨od, J, hl⟩ := I.look
  exact PySem.W.get_value X J (PySem.W.plainGet_of hg).1 (PySem.W.findObj_cls hh ha hn hv' hc (by rw [hl, hv])) hv' h

theorem get_meth {pl : Sem Bool} {Q : Value × List Value → Shared → Prop} (X : K.In s.heap) (I : ObjM s.heap x dx C mA) (hg : PySem.W.plainGet K C name = true)
    (hf : PySem.W.findIn K (.ref C) name = some (some (.ref f))) (ht : PySem.W.isFn K (.ref f) = true) (hv : mA name = none) (h : Q (.ref f, [.ref x]) s) :
    wpAny (model prog w) A (getMethod (.ref x) name pl) Q E s := by
  obtain ⟨od, J, hl⟩ := I.look
  exact PySem.W.method_fn X J (PySem.W.plainGet_of hg).1 (PySem.W.plainGet_of hg).2 hf (beq_iff_eq.mp ht) (by show (PySem.W.lookIn name od).map (·.isSome) = some false; rw [hl, hv]; rfl) h

theorem set_map {ns : List Str} {Q : Unit → Shared → Prop} (X : K.In s.heap) (I : ObjM s.heap x dx C mA)
    (hs : PySem.W.findIn K (.ref C) "__setattr__" = some (some (.builtin "object.__setattr__"))) (hp : PySem.W.plainOver K C = true) (ht : PySem.W.takerIn K C name = some none) (hh : PySem.W.hasDictIn K C = true)
    (hw : PySem.Within mA ns) (hsz : ns.length ≤ sizeLine)
    (h : ∀ h', ObjM h' x dx C (fun y => if y = name then some v else mA y) → Heap.SameBut dx s.heap h' → Q () { s with heap := h', toks := s.toks + 2 }) :
    wpAny (model prog w) A (setAttr (.ref x) name v) Q E s := by
  obtain ⟨od, J, hl⟩ := I.look
  refine PySem.W.set_plain X J hs (PySem.W.osa_open (s := { s with toks := s.toks + 1 }) (r := none) X J hp ht fun b => ?_)
  obtain ⟨cd, hc, hd'⟩ := PySem.W.any_some hh
  have hx : s.heap.get? x = some ⟨.ref C, some dx, .plain, #[]⟩ := I.obj
  refine wpAny_bind (wpAny_pure (wpAny_bind (wpAny_bind (wpAny_loadPart hx (wpAny_bind (PySem.W.Looks.here (s := { s with toks := s.toks + 1 }) (PySem.W.looks_clsIn X hc) ?_))))))
  rw [hd']
  refine wpAny_pure (a := some dx) (wpAny_bind (wpAny_pure (wpAny_bind ?_)))
  refine wpAny_nsSet1 (s := { s with toks := s.toks + 1 }) I.ns fun h' hn2 hs2 => ?_
  obtain ⟨oD, esD, epD, hoD, hdD, hcD⟩ := hn2.count (PySem.Within.cons name v hw)
  refine wpAny_bind (wpAny_lookBehind hoD (by rw [hdD]; exact pastItsLine_dict (Nat.le_trans hcD (by rw [List.length_cons]; omega))) ?_)
  exact wpAny_pure (h _ ⟨(hs2.2 _ (Ne.symm I.ne)).trans I.obj, hn2, I.ne⟩ hs2)

/-- C(..): the dict at the heap's end, the instance behind it; then its __init__ -/
theorem make_map {R : Result → Shared → Prop} {vs : List Value} {kw : List (Str × Value)} (X : K.In s.heap) (hm : PySem.W.makesIn K C = true)
    (hi : PySem.W.findIn K (.ref C) "__init__" = some (some (.ref f))) (hf : PySem.W.typeIn K (.ref f) = some (.type "function"))
    (h : codeAny (model prog w) (A.under (.builtin "type.__call__" ⟨.ref C :: vs, kw⟩)) (.call (.ref f) ⟨.ref (s.heap.objs.size + 1) :: vs, kw⟩) (PySem.W.InitBack (s.heap.objs.size + 1) R)
      { s with heap := (s.heap.push PySem.W.emptyDict).push (PySem.W.instObj C s.heap.objs.size) }) :
    codeAny (model prog w) A (.call (.ref C) ⟨vs, kw⟩) R s := by
  obtain ⟨hh, g, d, t, os⟩ := s
  exact PySem.W.make_core (PySem.W.makes_of X hm) (PySem.W.looks_findIn X hi) (fun self => PySem.W.bind_fn X self hf) (.inl rfl) h
/-- C() where there is no __init__ but object's -/
theorem make_map0 {R : Result → Shared → Prop} (X : K.In s.heap) (hm : PySem.W.makesIn K C = true)
    (hi : PySem.W.findIn K (.ref C) "__init__" = some (some (.builtin "object.__init__")))
    (hb : ∀ self, PySem.W.Looks (model prog w) s.heap (bindSpecial (.builtin "object.__init__") self) (.builtin "object.__init__", [self]))
    (h : codeAny (model prog w) (A.under (.builtin "type.__call__" ⟨[.ref C], []⟩)) (.call (.builtin "object.__init__") ⟨[.ref (s.heap.objs.size + 1)], []⟩) (PySem.W.InitBack (s.heap.objs.size + 1) R)
      { s with heap := (s.heap.push PySem.W.emptyDict).push (PySem.W.instObj C s.heap.objs.size) }) :
    codeAny (model prog w) A (.call (.ref C) ⟨[], []⟩) R s := by
  obtain ⟨hh, g, d, t, os⟩ := s
  exact PySem.W.make_core (PySem.W.makes_of X hm) (PySem.W.looks_findIn X hi) hb (.inr ⟨rfl, rfl⟩) h
end

/-! ### the attributes as a list of pairs -/
def putF (f : Str) (v : V) : List (Str × V) → List (Str × V)
  | [] => [(f, v)]
  | (g, x) :: r => if g = f then (g, v) :: r else (g, x) :: putF f v r
theorem lookup_putF (f g : Str) (v : V) : ∀ fs : List (Str × V), (putF f v fs).lookup g = if g = f then some v else fs.lookup g
  | [] => by
    show List.lookup g [(f, v)] = _
    by_cases h : g = f
    · have hb : (g == f) = true := beq_iff_eq.mpr h
      simp only [List.lookup, hb, if_pos h]
    · have hb : (g == f) = false := beq_eq_false_iff_ne.mpr h
      simp only [List.lookup, hb, if_neg h]
  | (k, x) :: r => by
    have ih := lookup_putF f g v r
    rw [show putF f v ((k, x) :: r) = (if k = f then (k, v) :: r else (k, x) :: putF f v r) from rfl]
    by_cases hk : k = f
    · rw [if_pos hk]
      by_cases h : g = k
      · have hb : (g == k) = true := beq_iff_eq.mpr h
        simp only [List.lookup, hb, if_pos (h.trans hk)]
      · have hb : (g == k) = false := beq_eq_false_iff_ne.mpr h
        simp only [List.lookup, hb, if_neg (fun e : g = f => h (e.trans hk.symm))]
    · rw [if_neg hk]
      by_cases h : g = k
      · have hb : (g == k) = true := beq_iff_eq.mpr h
        simp only [List.lookup, hb, if_neg (fun e : g = f => hk (h.symm.trans e))]
      · have hb : (g == k) = false := beq_eq_false_iff_ne.mpr h
        simp only [List.lookup, hb]
        exact ih
theorem keys_putF (f : Str) (v : V) : ∀ fs : List (Str × V), f ∈ (putF f v fs).map (·.1) ∧ ∀ g, g ∈ fs.map (·.1) → g ∈ (putF f v fs).map (·.1)
  | [] => ⟨by simp [putF], fun g h => by simp at h⟩
  | (k, x) :: r => by
    obtain ⟨i1, i2⟩ := keys_putF f v r
    rw [show putF f v ((k, x) :: r) = (if k = f then (k, v) :: r else (k, x) :: putF f v r) from rfl]
    by_cases hk : k = f
    · rw [if_pos hk]
      subst hk
      exact ⟨by simp, fun g h => by simpa using h⟩
    · rw [if_neg hk]
      refine ⟨?_, fun g h => ?_⟩
      · rw [List.map_cons]
        exact List.mem_cons_of_mem _ i1
      · rw [List.map_cons] at h ⊢
        rcases List.mem_cons.mp h with e | e
        · exact List.mem_cons.mpr (.inl e)
        · exact List.mem_cons_of_mem _ (i2 g e)
theorem length_putF (f : Str) (v : V) : ∀ fs : List (Str × V), (putF f v fs).length ≤ fs.length + 1
  | [] => by simp [putF]
  | (k, x) :: r => by
    have ih := length_putF f v r
    rw [show putF f v ((k, x) :: r) = (if k = f then (k, v) :: r else (k, x) :: putF f v r) from rfl]
    by_cases hk : k = f
    · rw [if_pos hk, List.length_cons, List.length_cons]; omega
    · rw [if_neg hk, List.length_cons, List.length_cons]; omega

theorem RelO.some_of {v : V} {o : Option Value} (r : RelO (some v) o) : ∃ u, o = some u ∧ RelV v u := by
  cases o with
  | none => exact (show False from r).elim
  | some u => exact ⟨u, rfl, r⟩
theorem RelO.none_of {o : Option Value} (r : RelO none o) : o = none := by
  cases o with
  | none => rfl
  | some u => exact (show False from r).elim
theorem handed_of {v : V} {u : Value} (r : RelV v u) : PySem.W.handedIn u = true := by
  cases v with
  | non => cases (show u = Value.none from r); rfl
  | bl b => cases (show u = Value.bool b from r); rfl
  | int i => obtain ⟨t, e⟩ := (show ∃ t, u = Value.int i t from r); cases e; rfl
  | str x => obtain ⟨t, e⟩ := (show ∃ t, u = Value.str x t from r); cases e; rfl
  | byt b => obtain ⟨t, e⟩ := (show ∃ t, u = Value.bytes b t from r); cases e; rfl
  | flt b => obtain ⟨t, e⟩ := (show ∃ t, u = Value.float b t from r); cases e; rfl
  | ref a => cases (show u = Value.ref a from r); rfl
  | ty n => cases (show u = Value.type n from r); rfl

section
variable {P : Program} {w : World} {H H' : Hp} {h h' : Heap} {a C dx : Addr} {fs fs' : List (Str × V)}
theorem ins_get (hok : HOk P w H h) (e : H a = some (.ins C dx fs)) : ∃ mA, ObjM h a dx C mA ∧ (∀ f, RelO (fs.lookup f) (mA f)) ∧ PySem.Within mA (fs.map (·.1)) ∧ fs.length ≤ 1000 ∧ H dx = some (.own a) := by
  obtain ⟨d, z, ne, ob, mA, n, r, q⟩ := (show ObjOk P w H h a (.ins C dx fs) from hok a _ e)
  exact ⟨mA, ⟨ob, n, ne⟩, r, q, z, d⟩
end

/-! ### what of the text a class must have -/
structure Cls (K : PySem.W.Frag) (C : Addr) : Prop where
  pg : PySem.W.plainGet K C Str.empty = true
  hd : PySem.W.hasDictIn K C = true
  po : PySem.W.plainOver K C = true
  sa : PySem.W.findIn K (.ref C) "__setattr__" = some (some (.builtin "object.__setattr__"))
theorem Cls.get {K : PySem.W.Frag} {C : Addr} (c : Cls K C) (f : Str) : PySem.W.plainGet K C f = true := c.pg
/-- no class of it has the name -/
def NoAttr (K : PySem.W.Frag) (C : Addr) (f : Str) : Prop := PySem.W.findIn K (.ref C) f = some none
theorem NoAttr.taker {K : PySem.W.Frag} {C : Addr} {f : Str} (n : NoAttr K C f) : PySem.W.takerIn K C f = some none := by
  unfold PySem.W.takerIn
  rw [show PySem.W.findIn K (.ref C) f = some none from n]
  rfl
/-- a constant of the class -/
structure Con (K : PySem.W.Frag) (C : Addr) (f : Str) (v : V) (u : Value) : Prop where
  at_ : PySem.W.findIn K (.ref C) f = some (some u)
  rel : RelV v u
  get : PySem.W.specialIn K u "__get__" = some none
  cp : PySem.W.copiedNames.contains f = false
/-- a method: a plain def of the class or of one above it -/
structure Meth (K : PySem.W.Frag) (C : Addr) (m : Str) (f : Addr) : Prop where
  at_ : PySem.W.findIn K (.ref C) m = some (some (.ref f))
  fn : PySem.W.isFn K (.ref f) = true
  kp : PySem.W.keepIn K (.ref f) = true

section
variable {X : Cx} {pins : List (Addr × Obj)} {σ : St} {H : Hp} {s : Shared} {a C dx : Addr} {fs : List (Str × V)} {f : Str} {v : V} {A : Around} {E : Value → Shared → Prop}

theorem getattr_ok {b : Bool} {Q : Value → Shared → Prop} (I : Inv X pins σ H s) (e : H a = some (.ins C dx fs)) (c : Cls X.K C) (n : NoAttr X.K C f) (l : fs.lookup f = some v)
    (h : ∀ u s', Inv X pins σ H s' → RelV v u → Q u s') : wpAny (model X.prog X.w) A (getAttr (.ref a) f b) Q E s := by
  obtain ⟨mA, O, r, _, _, _⟩ := ins_get I.hok e
  obtain ⟨u, hu, ru⟩ := RelO.some_of (v := v) (o := mA f) (by rw [← l]; exact r f)
  exact get_map I.kIn O (c.get f) c.hd n hu (handed_of ru) (h u _ (I.tok _) ru)

theorem getcon_ok {b : Bool} {u : Value} {Q : Value → Shared → Prop} (I : Inv X pins σ H s) (e : H a = some (.ins C dx fs)) (c : Cls X.K C) (k : Con X.K C f v u) (l : fs.lookup f = none)
    (h : ∀ s', Inv X pins σ H s' → Q u s') : wpAny (model X.prog X.w) A (getAttr (.ref a) f b) Q E s := by
  obtain ⟨mA, O, r, _, _, _⟩ := ins_get I.hok e
  have hn : mA f = none := RelO.none_of (by rw [← l]; exact r f)
  exact get_const I.kIn O (c.get f) c.hd k.at_ k.get k.cp hn (handed_of k.rel) (h _ (I.tok _))

theorem getmeth_ok {m : Str} {g : Addr} {pl : Sem Bool} {Q : Value × List Value → Shared → Prop} (I : Inv X pins σ H s) (e : H a = some (.ins C dx fs)) (c : Cls X.K C) (k : Meth X.K C m g) (l : fs.lookup m = none)
    (h : Q (.ref g, [.ref a]) s) : wpAny (model X.prog X.w) A (getMethod (.ref a) m pl) Q E s := by
  obtain ⟨mA, O, r, _, _, _⟩ := ins_get I.hok e
  have hn : mA m = none := RelO.none_of (by rw [← l]; exact r m)
  exact get_meth I.kIn O (c.get m) k.at_ k.fn hn h

theorem setattr_ok {y : V} {u : Value} {Q : Unit → Shared → Prop} (I : Inv X pins σ H s) (e : H a = some (.ins C dx fs)) (c : Cls X.K C) (n : NoAttr X.K C f) (hl : fs.length < 1000) (ry : RelV y u)
    (h : ∀ s', Inv X pins σ (upd H a (.ins C dx (putF f y fs))) s' → Q () s') : wpAny (model X.prog X.w) A (setAttr (.ref a) f u) Q E s := by
  obtain ⟨mA, O, r, wi, _, ho⟩ := ins_get I.hok e
  have hz : (fs.map (·.1)).length ≤ sizeLine := by rw [List.length_map, sizeLine_eq]; omega
  refine set_map I.kIn O c.sa c.po n.taker c.hd wi hz fun h' O' sb => h _ ?_
  have hd : ∃ o, h'.get? dx = some o := let ⟨o, _, _, e', _⟩ := O'.ns; ⟨o, e'⟩
  refine I.write (x := a) (e := dx) (by rw [e]; exact True.intro) (.inr ho) (fun b q hb z => (sb.2 b hb).trans z) hd ?_
  refine ⟨by rw [upd_ne O.ne]; exact ho, ?_, O.ne, O'.obj, _, O'.ns, fun g => ?_, fun g hg => ?_⟩
  · have := length_putF f y fs; omega
  · show RelO ((putF f y fs).lookup g) (if g = f then some u else mA g)
    rw [lookup_putF]
    by_cases q : g = f
    · rw [if_pos q, if_pos q]; exact ry
    · rw [if_neg q, if_neg q]; exact r g
  · by_cases q : g = f
    · rw [q]; exact (keys_putF f y fs).1
    · refine (keys_putF f y fs).2 g (wi g fun z => hg ?_)
      show (if g = f then some u else mA g) = none
      rw [if_neg q]; exact z

/-- a new instance, tracked, without attributes -/
theorem Inv.made (I : Inv X pins σ H s) : Inv X pins σ (upd (upd H s.heap.objs.size (.own (s.heap.objs.size + 1))) (s.heap.objs.size + 1) (.ins C s.heap.objs.size []))
    { s with heap := (s.heap.push PySem.W.emptyDict).push (PySem.W.instObj C s.heap.objs.size) } := by
  have e1 : (s.heap.push PySem.W.emptyDict).get? s.heap.objs.size = some PySem.W.emptyDict := Heap.get?_push_size s.heap rfl
  have e2 : ((s.heap.push PySem.W.emptyDict).push (PySem.W.instObj C s.heap.objs.size)).get? (s.heap.objs.size + 1) = some (PySem.W.instObj C s.heap.objs.size) := by
    have := Heap.get?_push_size (s.heap.push PySem.W.emptyDict) (o := PySem.W.instObj C s.heap.objs.size) rfl
    rwa [Heap.size_push] at this
  have e3 : (s.heap.push PySem.W.emptyDict).Ns s.heap.objs.size (fun _ => none) := ⟨PySem.W.emptyDict, #[], _, e1, rfl, (fun e he => absurd he (by simp)), fun _ => rfl⟩
  have I1 := I.laid (a := s.heap.objs.size) (o := .own (s.heap.objs.size + 1)) (h' := s.heap.push PySem.W.emptyDict) (t' := s.toks) (fun b u q => Heap.get?_push_of_some _ q) (Nat.le_refl _) ⟨_, e1⟩
  refine I1.laid (a := s.heap.objs.size + 1) (o := .ins C s.heap.objs.size []) (t' := s.toks) (fun b u q => Heap.get?_push_of_some _ q) (Nat.le_of_eq (Heap.size_push _ _)) ?_
  have ne : s.heap.objs.size ≠ s.heap.objs.size + 1 := Nat.ne_of_lt (Nat.lt_succ_self _)
  refine ⟨by rw [upd_ne ne, upd_same], Nat.zero_le _, ne, e2, fun _ => none, (Heap.Ns1.of_empty e3).at fun o q => Heap.get?_push_of_some _ q, fun _ => True.intro, fun y hy => absurd rfl hy⟩

/-- e.f where nothing but the object is asked: through attributeBase (super) and the last hold -/
theorem attr_of {prog : Program} {w : World} {env : Env} {e : Expr} {f : Str} {pos : Pos} {s : Shared} {Q : Value → Shared → Prop} (hb : attributeBase e f env (eval e env) = eval e env)
    (h : wpAny (model prog w) A (eval e env) (fun o s₁ => wpAny (model prog w) A (getAttr o f true) Q E s₁) E s) : wpAny (model prog w) A (eval (.Attribute e f pos) env) Q E s :=
  Attribute_any_ h (by rw [arm_eval_Attribute, hb])
end

/-! ### readings and rules -/
/-- e.f, an attribute of the instance -/
def tFld (K : PySem.W.Frag) (ta : TE) (f : Str) : TE := fun σ H Q => ta σ H fun x H1 => ∃ a C dx fs v, x = .ref a ∧ H1 a = some (.ins C dx fs) ∧ Cls K C ∧ NoAttr K C f ∧ fs.lookup f = some v ∧ Q v H1
/-- e.f, a constant of the class -/
def tCon (K : PySem.W.Frag) (ta : TE) (f : Str) : TE := fun σ H Q => ta σ H fun x H1 => ∃ a C dx fs v u, x = .ref a ∧ H1 a = some (.ins C dx fs) ∧ Cls K C ∧ Con K C f v u ∧ fs.lookup f = none ∧ Q v H1
/-- e.f = value -/
def sFld (K : PySem.W.Frag) (ta tv : TE) (f : Str) : TS := fun D σ H => tv σ H fun y H1 => ta σ H1 fun x H2 => ∃ a C dx fs, x = .ref a ∧ H2 a = some (.ins C dx fs) ∧ Cls K C ∧ NoAttr K C f ∧ fs.length < 1000 ∧
  D.nx σ (upd H2 a (.ins C dx (putF f y fs)))
/-- an augmented operator on two values -/
def InOp (X : Cx) (op : Operator) (rd : V → V → Hp → VK → Prop) : Prop :=
  ∀ (pins : List (Addr × Obj)) (s : Shared) (σ : St) (H : Hp) (x y : V) (u v : Value) (Q : VK), Inv X pins σ H s → RelV x u → RelV y v → rd x y H Q → wpAny (model X.prog X.w) X.A (inplaceOp op u v) (EP X pins σ Q) X.xe s
/-- e.f op= value -/
def sFldAug (K : PySem.W.Frag) (ta tv : TE) (rd : V → V → Hp → VK → Prop) (f : Str) : TS := fun D σ H => ta σ H fun x H1 => ∃ a C dx fs v, x = .ref a ∧ H1 a = some (.ins C dx fs) ∧ Cls K C ∧ NoAttr K C f ∧ fs.lookup f = some v ∧
  tv σ H1 fun y H2 => rd v y H2 fun z H3 => ∃ dx' fs', H3 a = some (.ins C dx' fs') ∧ fs'.length < 1000 ∧ D.nx σ (upd H3 a (.ins C dx' (putF f z fs')))

section
variable {X : Cx} {o e value : Expr} {f : Str} {pos pos' tpos : Pos} {ta tv : TE}
theorem pe_fld (he : PE X e ta) (hb : attributeBase e f X.env (eval e X.env) = eval e X.env) : PE X (.Attribute e f pos) (tFld X.K ta f) := by
  intro pins s σ H Q I h
  refine attr_of hb (thn (he pins s σ H _ I h) fun u s1 ⟨x, H1, I1, rx, a, C, dx, fs, v, ex, ea, c, n, l, q⟩ => ?_)
  subst ex
  obtain rfl : u = Value.ref a := rx
  exact getattr_ok I1 ea c n l fun u' s2 I2 ru => ⟨v, H1, I2, ru, q⟩
theorem pe_con (he : PE X e ta) (hb : attributeBase e f X.env (eval e X.env) = eval e X.env) : PE X (.Attribute e f pos) (tCon X.K ta f) := by
  intro pins s σ H Q I h
  refine attr_of hb (thn (he pins s σ H _ I h) fun u s1 ⟨x, H1, I1, rx, a, C, dx, fs, v, u0, ex, ea, c, k, l, q⟩ => ?_)
  subst ex
  obtain rfl : u = Value.ref a := rx
  exact getcon_ok I1 ea c k l fun s2 I2 => ⟨v, H1, I2, k.rel, q⟩
theorem ps_fld (ha : PE X o ta) (hv : PE X value tv) (hs : swapsWith value (some (.Attribute o f pos')) pos.line X.env = pure false) : PS X (.Assign [.Attribute o f pos'] value pos) (sFld X.K ta tv f) := by
  intro pins s σ H D I h
  refine plainObj_wpAny_Assign_Attribute (thn (hv pins s σ H _ I h) fun u s1 ⟨y, H1, I1, ry, q⟩ => thn (ha pins s1 σ H1 _ I1 q) fun ov s2 ⟨x, H2, I2, rx, a, C, dx, fs, ex, ea, c, n, l, q2⟩ => ?_) hs
  subst ex
  obtain rfl : ov = Value.ref a := rx
  exact setattr_ok I2 ea c n l ry fun s3 I3 => ⟨σ, _, I3, q2⟩
theorem ps_fldaug {op : Operator} {rd : V → V → Hp → VK → Prop} (ha : PE X o ta) (hv : PE X value tv) (hop : InOp X op rd) : PS X (.AugAssign (.Attribute o f tpos) op value pos) (sFldAug X.K ta tv rd f) := by
  intro pins s σ H D I h
  refine wpAny_AugAssign_AttributeAny (thn (ha pins s σ H _ I h) fun ov s1 ⟨x, H1, I1, rx, a, C, dx, fs, v, ex, ea, c, n, l, q⟩ => ?_)
  subst ex
  obtain rfl : ov = Value.ref a := rx
  refine getattr_ok I1 ea c n l fun u s2 I2 ru => thn (hv pins s2 σ H1 _ I2 q) fun w3 s3 ⟨y, H2, I3, ry, q3⟩ => thn (hop pins s3 σ H2 v y u w3 _ I3 ru ry q3) fun w4 s4 ⟨z, H3, I4, rz, dx', fs', ea', l', q4⟩ => ?_
  exact setattr_ok I4 ea' c n l' rz fun s5 I5 => ⟨σ, _, I5, q4⟩
def rAdd : V → V → Hp → VK → Prop := fun x y H Q => ∃ i j, x = .int i ∧ y = .int j ∧ Q (.int (i + j)) H
def rSub : V → V → Hp → VK → Prop := fun x y H Q => ∃ i j, x = .int i ∧ y = .int j ∧ Q (.int (i - j)) H
theorem in_add : InOp X .Add rAdd := by
  rintro pins s σ H x y u v Q I rx ry ⟨i, j, rfl, rfl, q⟩
  obtain ⟨t, rfl⟩ := (show ∃ t, u = Value.int i t from rx)
  obtain ⟨t', rfl⟩ := (show ∃ t', v = Value.int j t' from ry)
  exact PyProof.Rows.iadd_int ⟨.int (i + j), H, I.tok _, ⟨_, rfl⟩, q⟩
theorem in_sub : InOp X .Sub rSub := by
  rintro pins s σ H x y u v Q I rx ry ⟨i, j, rfl, rfl, q⟩
  obtain ⟨t, rfl⟩ := (show ∃ t, u = Value.int i t from rx)
  obtain ⟨t', rfl⟩ := (show ∃ t', v = Value.int j t' from ry)
  exact PyProof.Rows.isub_int ⟨.int (i - j), H, I.tok _, ⟨_, rfl⟩, q⟩

/-- what is between an instance and its method: the tree of a method call -/
theorem methcall_of {pl : Sem Bool} {m : Str} {apos : Pos} {args : List Expr} {pins : List (Addr × Obj)} {s : Shared} {σ : St} {H : Hp} {Q : Value → Shared → Prop} {te : TE} (he : PE X e te) (I : Inv X pins σ H s)
    (h : te σ H fun x H1 => ∃ a C dx fs g, x = .ref a ∧ H1 a = some (.ins C dx fs) ∧ Cls X.K C ∧ Meth X.K C m g ∧ fs.lookup m = none ∧
      ∀ s1, Inv X pins σ H1 s1 → wpAny (model X.prog X.w) X.A (callWith pos (.ref g) [.ref a] (backTo pos (starEach args X.env)) (backToKw pos (keywordEach [] X.env))) Q X.xe s1)
    (ht : eval (.Call (.Attribute e m apos) args [] pos) X.env = (do
      let ov ← eval e X.env
      standAt apos.atName
      let (f, first) ← holding [ov] (getMethod ov m pl)
      callWith pos f first (backTo pos (starEach args X.env)) (backToKw pos (keywordEach [] X.env)))) :
    wpAny (model X.prog X.w) X.A (eval (.Call (.Attribute e m apos) args [] pos) X.env) Q X.xe s := by
  refine PySem.W.methodCall_KW (pl := pl) (thn (he pins s σ H _ I h) fun u s1 ⟨x, H1, I1, rx, a, C, dx, fs, g, ex, ea, c, k, l, q⟩ => ?_) ht
  subst ex
  obtain rfl : u = Value.ref a := rx
  exact getmeth_ok I1 ea c k l (q s1 I1)
end

/-! ### isinstance -/
section
variable {X : Cx} {pins : List (Addr × Obj)} {σ : St} {H : Hp} {s : Shared} {A : Around} {E : Value → Shared → Prop} {Q : Value → Shared → Prop} {c : Value} {b : Bool}
/-- the type of a value, as the fragment's deciders take it; for an instance its class -/
inductive TyOf (K : PySem.W.Frag) (H : Hp) : V → Value → Prop where
  | non : TyOf K H .non (.type "NoneType")
  | bl (x : Bool) : TyOf K H (.bl x) (.type "bool")
  | int (i : Int) : TyOf K H (.int i) (.type "int")
  | str (x : Str) : TyOf K H (.str x) (.type "str")
  | flt (x : UInt64) : TyOf K H (.flt x) (.type "float")
  | lst {a : Addr} {xs : List V} (e : H a = some (.lst xs)) : TyOf K H (.ref a) (.type "list")
  | frz {a : Addr} {o : Obj} {xs : List V} (e : H a = some (.frz o (.lst xs))) : TyOf K H (.ref a) (.type "list")
  | tup {a : Addr} {xs : List V} (e : H a = some (.tup xs)) : TyOf K H (.ref a) (.type "tuple")
  | dK {a : Addr} {kvs : List (Key × V)} (e : H a = some (.dK kvs)) : TyOf K H (.ref a) (.type "dict")
  | dT {a : Addr} {kvs : List (List Key × V)} (e : H a = some (.dT kvs)) : TyOf K H (.ref a) (.type "dict")
  | ins {a C dx : Addr} {fs : List (Str × V)} (e : H a = some (.ins C dx fs)) (cl : Cls K C) (ha : PySem.W.findIn K (.ref C) "__class__" = some (some (.builtin "object.__class__")))
      (hn : PySem.W.specialIn K (.builtin "object.__class__") "__get__" = some (some (.builtin "getset_descriptor.__get__"))) (htk : PySem.W.takesIn K (.builtin "object.__class__") = some true)
      (hm : PySem.W.mroIn K C (.type "object") = some true) : TyOf K H (.ref a) (.ref C)
/-- isinstance(x, c) for one class c, a built-in or an own one: kitOne's answer -/
theorem isinst_ok {x : V} {u t : Value} (I : Inv X pins σ H s) (rx : RelV x u) (ty : TyOf X.K H x t) (e : PySem.W.kitOne X.K t c = some b) (h : ∀ tk, Q (.bool b) { s with toks := tk }) :
    wpAny (model X.prog X.w) A (call (.builtin "isinstance") [u, c]) Q E s := by
  cases ty with
  | non => cases (show u = Value.none from rx); exact PySem.W.kia_one PySem.W.kitx_none I.kIn True.intro e (fun z => nomatch z) h
  | bl y => cases (show u = Value.bool y from rx); exact PySem.W.kia_one PySem.W.kitx_bool I.kIn True.intro e (fun z => nomatch z) h
  | int i => obtain ⟨t, q⟩ := (show ∃ t, u = Value.int i t from rx); cases q; exact PySem.W.kia_one PySem.W.kitx_int I.kIn True.intro e (fun z => nomatch z) h
  | str y => obtain ⟨t, q⟩ := (show ∃ t, u = Value.str y t from rx); cases q; exact PySem.W.kia_one PySem.W.kitx_str I.kIn True.intro e (fun z => nomatch z) h
  | flt y => obtain ⟨t, q⟩ := (show ∃ t, u = Value.float y t from rx); cases q; exact PySem.W.kia_one PySem.W.kitx_float I.kIn True.intro e (fun z => nomatch z) h
  | @lst a xs ea =>
    cases (show u = Value.ref a from rx)
    obtain ⟨_, _, n, _, h1⟩ := (show ObjOk X.prog X.w H s.heap a (.lst xs) from I.hok a _ ea)
    exact PySem.W.kia_one PySem.W.kitx_list I.kIn ⟨_, h1, rfl⟩ e (fun z => nomatch z) h
  | @frz a ob xs ea =>
    cases (show u = Value.ref a from rx)
    obtain ⟨_, _, _, n, _, h1⟩ := (show ObjOk X.prog X.w H s.heap a (.frz ob (.lst xs)) from I.hok a _ ea)
    exact PySem.W.kia_one PySem.W.kitx_list I.kIn ⟨_, h1, rfl⟩ e (fun z => nomatch z) h
  | @tup a xs ea =>
    cases (show u = Value.ref a from rx)
    obtain ⟨_, _, _, p⟩ := (show ObjOk X.prog X.w H s.heap a (.tup xs) from I.hok a _ ea)
    obtain ⟨o, h1, h2, _⟩ := p
    exact PySem.W.kia_one PySem.W.kitx_tuple I.kIn ⟨o, h1, h2⟩ e (fun z => nomatch z) h
  | @dK a kvs ea =>
    cases (show u = Value.ref a from rx)
    obtain ⟨_, _, vs, _, p⟩ := (show ObjOk X.prog X.w H s.heap a (.dK kvs) from I.hok a _ ea)
    obtain ⟨o, es, ep, h1, h2, _⟩ := p
    exact PySem.W.kia_one PySem.W.kitx_dict I.kIn ⟨o, h1, h2.1⟩ e (fun z => nomatch z) h
  | @dT a kvs ea =>
    cases (show u = Value.ref a from rx)
    obtain ⟨_, _, xs, _, o, es, ep, h1, h2, _⟩ := (show ObjOk X.prog X.w H s.heap a (.dT kvs) from I.hok a _ ea)
    exact PySem.W.kia_one PySem.W.kitx_dict I.kIn ⟨o, h1, h2.1⟩ e (fun z => nomatch z) h
  | @ins a C dx fs ea cl ha hn htk hm =>
    cases (show u = Value.ref a from rx)
    obtain ⟨mA, O, _⟩ := ins_get I.hok ea
    obtain ⟨od, J, _⟩ := O.look
    exact PySem.W.kia_one (PySem.W.kitx_own (cl.get _) cl.hd ha hn htk hm) I.kIn J e (fun z => nomatch z) h
end
end L2

namespace L2
open PySem PySem.Spec PyProof.Rows

/-! ### room -/
structure Room (k : Nat) (A : Around) : Prop where
  hd : A.handled = none
  dp : A.depth + 3 * k + 5 < recursionLimit
  un : A.units + 16 * k + 200 < cLine
theorem Room.mono {j k : Nat} {A : Around} (r : Room k A) (h : j ≤ k) : Room j A := ⟨r.hd, by have := r.dp; omega, by have := r.un; omega⟩
theorem Room.deeper {k : Nat} {A : Around} (r : Room (k + 1) A) (env : Env) : Room k (A.deeper env) :=
  ⟨r.hd, by have := r.dp; show A.depth + 1 + 3 * k + 5 < _; omega, by have := r.un; show A.units + 3 + 16 * k + 200 < _; omega⟩
theorem Room.in1 {k : Nat} {A : Around} (r : Room (k + 1) A) : Room k A.in1 :=
  ⟨r.hd, by have := r.dp; show A.depth + 3 * k + 5 < _; omega, by have := r.un; show A.units + 1 + 16 * k + 200 < _; omega⟩
theorem make_depth {A : Around} {C : Addr} {us : List Value} {kw : List (Str × Value)} : (A.under (.builtin "type.__call__" ⟨.ref C :: us, kw⟩)).depth = A.depth + 1 := by
  first | rfl | simp [Around.under, Code.weight, Code.isCreation, Code.isGuard, Code.isCaller, Code.frames, Code.isFrame, guardIds]
theorem make_units {A : Around} {C : Addr} {us : List Value} {kw : List (Str × Value)} : (A.under (.builtin "type.__call__" ⟨.ref C :: us, kw⟩)).units = A.units + 1 := by
  first | rfl | simp [Around.under, Code.cUnits, Code.frames, Code.isFrame]
theorem Room.make {k : Nat} {A : Around} (r : Room (k + 1) A) (C : Addr) (us : List Value) (kw : List (Str × Value)) : Room k (A.under (.builtin "type.__call__" ⟨.ref C :: us, kw⟩)) :=
  ⟨r.hd, by have := r.dp; rw [make_depth]; omega, by have := r.un; rw [make_units]; omega⟩
theorem Room.depth {k : Nat} {A : Around} (r : Room k A) : A.depth < recursionLimit := by have := r.dp; omega
theorem Room.units {k : Nat} {A : Around} (r : Room k A) : A.units + 64 < cLine := by have := r.un; omega
theorem Room.units0 {k : Nat} {A : Around} (r : Room k A) : A.units < cLine := by have := r.un; omega

/-! ### argument lists and displays -/
def tNil : TA := fun _ H Q => Q [] H
def tCons (ta : TE) (tr : TA) : TA := fun σ H Q => ta σ H fun x H1 => tr σ H1 fun xs H2 => Q (x :: xs) H2
section
variable {X : Cx} {e : Expr} {es : List Expr} {te : TE} {t : TA} {pos : Pos}
theorem pa_nil : PA X [] tNil := fun _ _ _ _ H Q I h => Calls.spliced_nil ⟨[], H, I, .nil, h⟩
theorem pa_cons (ha : PE X e te) (hr : PA X es t) (hs : starEach (e :: es) X.env = (false, eval e X.env) :: starEach es X.env := by rfl) : PA X (e :: es) (tCons te t) := by
  intro pos pins s σ H Q I h
  rw [hs]
  show wpAny _ _ (spliced ((false, eval e X.env) :: backTo pos (starEach es X.env))) _ _ s
  refine Calls.spliced_cons (thn (ha pins s σ H _ I h) fun u s1 ⟨x, H1, I1, r1, q1⟩ => ?_)
  exact thn (hr pos pins s1 σ H1 _ I1 q1) fun us s2 ⟨xs, H2, I2, r2, q2⟩ => ⟨x :: xs, H2, I2, .cons r1 r2, q2⟩

/-- a tuple, a list of written items -/
def tTup (t : TA) : TE := fun σ H Q => t σ H fun xs H1 => xs.length ≤ sizeLine ∧ ∀ p, H1 p = none → Q (.ref p) (upd H1 p (.tup xs))
def tLst (t : TA) : TE := fun σ H Q => t σ H fun xs H1 => xs.length ≤ sizeLine ∧ ∀ p, H1 p = none → Q (.ref p) (upd H1 p (.lst xs))
theorem pe_tup {x1} (h : PA X es t) : PE X (.Tuple es x1 pos) (tTup t) := by
  intro pins s σ H Q I hq
  refine wpAny_Tuple_spliced (thn (h pos pins s σ H _ I hq) fun us s1 ⟨xs, H1, I1, r, z, q⟩ => ⟨by rw [← r.length]; exact z, ?_⟩)
  have hf : H1 s1.heap.objs.size = none := I1.hok.fresh (Nat.le_refl _)
  refine ⟨.ref s1.heap.objs.size, upd H1 s1.heap.objs.size (.tup xs), I1.laid (t' := s1.toks) (fun b u e => Heap.get?_push_of_some _ e) (Nat.le_refl _) ?_, rfl, q _ hf⟩
  exact ⟨z, us, r, ⟨_, Heap.get?_push_size _ rfl, rfl, _, rfl⟩⟩
theorem pe_lst (h : PA X es t) : PE X (.List es pos) (tLst t) := by
  intro pins s σ H Q I hq
  refine wpAny_List_spliced (thn (h pos pins s σ H _ I hq) fun us s1 ⟨xs, H1, I1, r, z, q⟩ => ⟨by rw [← r.length]; exact z, ?_⟩)
  have hf : H1 s1.heap.objs.size = none := I1.hok.fresh (Nat.le_refl _)
  refine ⟨.ref s1.heap.objs.size, upd H1 s1.heap.objs.size (.lst xs), I1.laid (t' := s1.toks) (fun b u e => Heap.get?_push_of_some _ e) (Nat.le_refl _) ?_, rfl, q _ hf⟩
  exact ⟨z, us, 0, r, Heap.get?_push_size _ rfl⟩
end

/-! ### what a def promises -/
/-- a def's promise: the bound arguments in the parameters' order, the heap, the wanted end, the wanted exception -/
abbrev Sp := List V → Hp → VK → XK → Prop
/-- how an exception lies behind a call (file 08 gives it): the callers' frames, abstract heap and state ahead of the call, the wish, the exception, the state -/
abbrev CXT := List Env → Hp → Shared → XK → Value → Shared → Prop

/-- the state at a call -/
structure Env0 (P : Program) (w : World) (K : PySem.W.Frag) (mg : Str → Option Value) (base : Heap) (A : Around) (outer : List Env) (s : Shared) (H : Hp) : Prop where
  frames : A.frames = some outer
  mod : Mod K mg base
  bs : ∀ b o, base.get? b = some o → s.heap.get? b = some o ∧ H b = none
  bsz : base.objs.size ≤ s.heap.objs.size
  funs : s.heap.FunFrames base outer
  frf : ∀ b ∈ frs outer, H b = none
  hok : HOk P w H s.heap
  bare : AllBare s.gens
/-- a call's end -/
def CE (outer : List Env) (P : Program) (w : World) (H : Hp) (s : Shared) (Q : VK) (u : Value) (s' : Shared) : Prop :=
  ∃ v H', s'.os = s.os ∧ AllBare s'.gens ∧ Un (frs outer) [] H H' s.heap s'.heap ∧ HOk P w H' s'.heap ∧ RelV v u ∧ Q v H'
def CR (CX : CXT) (outer : List Env) (P : Program) (w : World) (H : Hp) (s : Shared) (Q : VK) (E : XK) (r : Result) (s' : Shared) : Prop :=
  match r with
  | .ok (.ret u) => CE outer P w H s Q u s'
  | .ok _ => False
  | .error e => CX outer H s E e s'
structure FnOk (P : Program) (w : World) (K : PySem.W.Frag) (mg : Str → Option Value) (base : Heap) (CX : CXT) (k : Nat) (f : Addr) (fd : FuncData) (ps : List Str) (sp : Sp) : Prop where
  len : ∀ vs H Q E, sp vs H Q E → vs.length = ps.length
  run : ∀ (A : Around) (outer : List Env) (s : Shared) (H : Hp) (args : Args) (us : List Value) (vs : List V) (Q : VK) (E : XK), Room k A → Env0 P w K mg base A outer s H → BindsTo s fd args (ps.zip us) → Vals vs us → sp vs H Q E →
    codeAny (model P w) A (.call (.ref f) args) (CR CX outer P w H s Q E) s
theorem FnOk.mono {P : Program} {w : World} {K : PySem.W.Frag} {mg : Str → Option Value} {base : Heap} {CX : CXT} {j k : Nat} {f : Addr} {fd : FuncData} {ps : List Str} {sp : Sp} (F : FnOk P w K mg base CX j f fd ps sp) (h : j ≤ k) :
    FnOk P w K mg base CX k f fd ps sp := ⟨F.len, fun A outer s H args us vs Q E hr => F.run A outer s H args us vs Q E (hr.mono h)⟩
/-- a weaker promise -/
theorem FnOk.imp {P : Program} {w : World} {K : PySem.W.Frag} {mg : Str → Option Value} {base : Heap} {CX : CXT} {k : Nat} {f : Addr} {fd : FuncData} {ps : List Str} {sp sp' : Sp} (F : FnOk P w K mg base CX k f fd ps sp)
    (h : ∀ vs H Q E, sp' vs H Q E → sp vs H Q E) : FnOk P w K mg base CX k f fd ps sp' :=
  ⟨fun vs H Q E q => F.len vs H Q E (h _ _ _ _ q), fun A outer s H args us vs Q E hr he hb hv hs => F.run A outer s H args us vs Q E hr he hb hv (h _ _ _ _ hs)⟩

theorem Env0.make {P : Program} {w : World} {K : PySem.W.Frag} {mg : Str → Option Value} {base : Heap} {A : Around} {outer : List Env} {s : Shared} {H : Hp} (e : Env0 P w K mg base A outer s H) (C : Addr) (us : List Value) (kw : List (Str × Value)) :
    Env0 P w K mg base (A.under (.builtin "type.__call__" ⟨.ref C :: us, kw⟩)) outer s H := ⟨by first | exact e.frames | (simpa [Around.under, Code.envs, Code.isFrame, pushEnvs] using e.frames), e.mod, e.bs, e.bsz, e.funs, e.frf, e.hok, e.bare⟩
theorem Env0.in1 {P : Program} {w : World} {K : PySem.W.Frag} {mg : Str → Option Value} {base : Heap} {A : Around} {outer : List Env} {s : Shared} {H : Hp} (e : Env0 P w K mg base A outer s H) :
    Env0 P w K mg base A.in1 outer s H := ⟨e.frames, e.mod, e.bs, e.bsz, e.funs, e.frf, e.hok, e.bare⟩

section
variable {X : Cx} {pins : List (Addr × Obj)} {σ : St} {H : Hp} {s s' : Shared}
/-- from a body: what a callee wants -/
theorem Inv.env0 (I : Inv X pins σ H s) : Env0 X.prog X.w X.K X.mg X.base X.A X.stack s H :=
  ⟨I.ok.frames, I.ok.mod, I.bs, Nat.le_trans I.ok.bsz I.sz, I.stack, I.stkFree, I.hok, I.bare⟩
/-- behind a call -/
theorem Inv.after {Q : VK} {u : Value} (I : Inv X pins σ H s) (h : CE X.stack X.prog X.w H s Q u s') : EP X pins σ Q u s' := by
  obtain ⟨v, H', os, bare, un, hok, r, q⟩ := h
  obtain ⟨hh, g, d, t, os'⟩ := s'
  obtain rfl : os' = s.os := os
  exact ⟨v, H', I.call (h' := hh) (g' := g) (d' := d) (t' := t) (ch := []) un hok bare (fun b z => absurd z (by simp)), r, q⟩
end

/-! ### calls -/
/-- f(..): the written arguments, then the defaults dvs; E: what is wanted of an exception -/
def tCall (sp : Sp) (dvs : List V) (E : XK) (t : TA) : TE := fun σ H Q => t σ H fun vs H1 => sp (vs ++ dvs) H1 Q E
/-- o.m(..) of an instance of the class at C -/
def tMeth (C : Addr) (m : Str) (sp : Sp) (dvs : List V) (E : XK) (ta : TE) (t : TA) : TE := fun σ H Q => ta σ H fun x H1 => ∃ a dx fs, x = .ref a ∧ H1 a = some (.ins C dx fs) ∧ fs.lookup m = none ∧
  t σ H1 fun vs H2 => sp (x :: (vs ++ dvs)) H2 Q E
/-- C(..): a new instance and its dict, then __init__ -/
def tMake (C : Addr) (sp : Sp) (dvs : List V) (E : XK) (t : TA) : TE := fun σ H Q => t σ H fun vs H1 => ∀ x dx, H1 x = none → H1 dx = none → dx ≠ x →
  sp (.ref x :: (vs ++ dvs)) (upd (upd H1 dx (.own x)) x (.ins C dx [])) (fun v H2 => v = .non ∧ Q (.ref x) H2) E

/-- how the parameters are bound: us the positional arguments, kw the keywords' values by name, ds the defaults that fill up -/
def Binds (K : PySem.W.Frag) (fd : FuncData) (ps : List Str) (ds : List Value) : Prop :=
  ∀ (s : Shared) (us : List Value), K.In s.heap → (us ++ ds).length = ps.length → BindsTo s fd ⟨us, []⟩ (ps.zip (us ++ ds))
/-- every parameter is given -/
theorem Binds.all {K : PySem.W.Frag} {fd : FuncData} {ps : List Str} (h : ∀ us : List Value, us.length = ps.length → bindArgs fd ⟨us, []⟩ = pure (ps.zip us)) : Binds K fd ps [] := fun s us _ hl => by
  rw [List.append_nil] at hl ⊢
  exact .of_eq (h us hl)

/-- an exception of a callee reaches what this body wants of exceptions -/
def Passes (CX : CXT) (X : Cx) (E : XK) : Prop := ∀ (pins : List (Addr × Obj)) (σ : St) (H : Hp) (s : Shared) (e : Value) (s' : Shared), Inv X pins σ H s → CX X.stack H s E e s' → X.xe e s'

section
variable {X : Cx} {CX : CXT} {k : Nat} {f C : Addr} {fd : FuncData} {ps : List Str} {sp : Sp} {dvs : List V} {ds : List Value} {E : XK} {x m : Str} {p pos apos : Pos} {e o : Expr} {es : List Expr} {ta : TE} {t : TA}

/-- the callee runs -/
theorem run_fn {pins : List (Addr × Obj)} {σ : St} {H : Hp} {s : Shared} {Q : VK} {us : List Value} {vs : List V} (F : FnOk X.prog X.w X.K X.mg X.base CX k f fd ps sp) (hr : Room k X.A) (hb : Binds X.K fd ps ds) (hd : Vals dvs ds) (hx : Passes CX X E)
    (I : Inv X pins σ H s) (r : Vals vs us) (h : sp (vs ++ dvs) H Q E) : wpAny (model X.prog X.w) X.A (call (.ref f) us) (EP X pins σ Q) X.xe s := by
  have r2 : Vals (vs ++ dvs) (us ++ ds) := r.append hd
  have hl : (us ++ ds).length = ps.length := by rw [← r2.length]; exact F.len _ _ _ _ h
  refine wpAny_call (codeAny_mono (F.run X.A X.stack s H ⟨us, []⟩ (us ++ ds) (vs ++ dvs) Q E hr I.env0 (hb s us I.kIn hl) r2 h) fun r s' hq => ?_)
  cases r with
  | error e => exact hx pins σ H s e s' I hq
  | ok fl =>
    cases fl with
    | ret u => exact I.after hq
    | next => exact False.elim hq
    | brk => exact False.elim hq
    | cont => exact False.elim hq

theorem pe_call (F : FnOk X.prog X.w X.K X.mg X.base CX k f fd ps sp) (hr : Room k X.A) (hg : Gl X x) (hm : X.mg x = some (.ref f)) (hk : PySem.W.keepIn X.K (.ref f) = true) (hb : Binds X.K fd ps ds) (hd : Vals dvs ds) (hx : Passes CX X E)
    (ha : PA X (e :: es) t) (hdb : (x == ("__debug__" : Str)) = false := by decide) (he : starEach (e :: es) X.env = (false, eval e X.env) :: starEach es X.env := by rfl) (hpl : (backTo pos (starEach es X.env)).any (·.1) = false := by rfl) :
    PE X (.Call (.Name x p) (e :: es) [] pos) (tCall sp dvs E t) := by
  intro pins s σ H Q I h
  refine wpAny_Call_Name_kw (ld_glob I hg hm ?_ hdb)
  refine PySem.W.callWith_K (h₀ := X.base) I.ok.mod.kin hk (thn (ha pos pins s σ H _ I h) fun us s1 ⟨vs, H1, I1, r, q⟩ => ⟨I1.kIn, ?_⟩) he hpl
  exact run_fn F hr hb hd hx I1 r q
theorem pe_call0 (F : FnOk X.prog X.w X.K X.mg X.base CX k f fd ps sp) (hr : Room k X.A) (hg : Gl X x) (hm : X.mg x = some (.ref f)) (hk : PySem.W.keepIn X.K (.ref f) = true) (hb : Binds X.K fd ps ds) (hd : Vals dvs ds) (hx : Passes CX X E)
    (hdb : (x == ("__debug__" : Str)) = false := by decide) : PE X (.Call (.Name x p) [] [] pos) (tCall sp dvs E tNil) := by
  intro pins s σ H Q I h
  refine wpAny_Call_Name_kw (ld_glob I hg hm ?_ hdb)
  exact PySem.W.callWith_K0 I.kIn hk (run_fn (us := []) F hr hb hd hx I .nil h)

/-- o.m(e, ..) -/
theorem pe_meth {pl : Sem Bool} (he : PE X o ta) (c : Cls X.K C) (hm : Meth X.K C m f) (F : FnOk X.prog X.w X.K X.mg X.base CX k f fd ps sp) (hr : Room k X.A) (hb : Binds X.K fd ps ds) (hd : Vals dvs ds) (hx : Passes CX X E) (ha : PA X (e :: es) t)
    (hst : starEach (e :: es) X.env = (false, eval e X.env) :: starEach es X.env := by rfl) (hpl : (backTo pos (starEach es X.env)).any (·.1) = false := by rfl)
    (ht : eval (.Call (.Attribute o m apos) (e :: es) [] pos) X.env = (do
      let ov ← eval o X.env
      standAt apos.atName
      let (f, first) ← holding [ov] (getMethod ov m pl)
      callWith pos f first (backTo pos (starEach (e :: es) X.env)) (backToKw pos (keywordEach [] X.env))) := by rfl) :
    PE X (.Call (.Attribute o m apos) (e :: es) [] pos) (tMeth C m sp dvs E ta t) := by
  intro pins s σ H Q I h
  refine PySem.W.methodCall_KW (pl := pl) (thn (he pins s σ H _ I h) fun u s1 ⟨x, H1, I1, rx, a, dx, fs, ex, ea, l, q⟩ => ?_) ht
  subst ex
  obtain rfl : u = Value.ref a := rx
  refine getmeth_ok I1 ea c hm l ?_
  refine PySem.W.callWith_K (first := [.ref a]) (h₀ := X.base) I.ok.mod.kin hm.kp (thn (ha pos pins s1 σ H1 _ I1 q) fun us s2 ⟨vs, H2, I2, r, q2⟩ => ⟨I2.kIn, ?_⟩) hst hpl
  exact run_fn (us := .ref a :: us) (vs := .ref a :: vs) F hr hb hd hx I2 (.cons rfl r) q2
/-- o.m() -/
theorem pe_meth0 {pl : Sem Bool} (he : PE X o ta) (c : Cls X.K C) (hm : Meth X.K C m f) (F : FnOk X.prog X.w X.K X.mg X.base CX k f fd ps sp) (hr : Room k X.A) (hb : Binds X.K fd ps ds) (hd : Vals dvs ds) (hx : Passes CX X E)
    (ht : eval (.Call (.Attribute o m apos) [] [] pos) X.env = (do
      let ov ← eval o X.env
      standAt apos.atName
      let (f, first) ← holding [ov] (getMethod ov m pl)
      callWith pos f first (backTo pos (starEach [] X.env)) (backToKw pos (keywordEach [] X.env))) := by rfl) :
    PE X (.Call (.Attribute o m apos) [] [] pos) (tMeth C m sp dvs E ta tNil) := by
  intro pins s σ H Q I h
  refine PySem.W.methodCall_KW (pl := pl) (thn (he pins s σ H _ I h) fun u s1 ⟨x, H1, I1, rx, a, dx, fs, ex, ea, l, q⟩ => ?_) ht
  subst ex
  obtain rfl : u = Value.ref a := rx
  refine getmeth_ok I1 ea c hm l ?_
  exact PySem.W.callWith_K0 (first := [.ref a]) I1.kIn hm.kp (run_fn (us := [.ref a]) (vs := [.ref a]) F hr hb hd hx I1 (.cons rfl .nil) q)

/-- what a class must have to be made -/
structure Mk (K : PySem.W.Frag) (C f : Addr) : Prop where
  makes : PySem.W.makesIn K C = true
  init : PySem.W.findIn K (.ref C) "__init__" = some (some (.ref f))
  fn : PySem.W.isFn K (.ref f) = true
  kp : PySem.W.keepIn K (.ref C) = true

theorem run_make {pins : List (Addr × Obj)} {σ : St} {H : Hp} {s : Shared} {Q : VK} {us : List Value} {vs : List V} (M : Mk X.K C f) (F : FnOk X.prog X.w X.K X.mg X.base CX k f fd ps sp) (hr : Room (k + 1) X.A) (hb : Binds X.K fd ps ds) (hd : Vals dvs ds)
    (hx : Passes CX X E) (I : Inv X pins σ H s) (r : Vals vs us)
    (h : ∀ x dx, H x = none → H dx = none → dx ≠ x → sp (.ref x :: (vs ++ dvs)) (upd (upd H dx (.own x)) x (.ins C dx [])) (fun v H2 => v = .non ∧ Q (.ref x) H2) E) :
    wpAny (model X.prog X.w) X.A (call (.ref C) us) (EP X pins σ Q) X.xe s := by
  have hq := h (s.heap.objs.size + 1) s.heap.objs.size (I.hok.fresh (Nat.le_succ _)) (I.hok.fresh (Nat.le_refl _)) (Nat.ne_of_lt (Nat.lt_succ_self _))
  have I2 := Inv.made (C := C) I
  have r2 : Vals (V.ref (s.heap.objs.size + 1) :: (vs ++ dvs)) (Value.ref (s.heap.objs.size + 1) :: (us ++ ds)) := .cons rfl (r.append hd)
  have hl : (Value.ref (s.heap.objs.size + 1) :: us ++ ds).length = ps.length := by
    have e := r2.length
    rw [F.len _ _ _ _ hq] at e
    exact e.symm
  refine wpAny_call (make_map (f := f) I.kIn M.makes M.init (beq_iff_eq.mp M.fn) (codeAny_mono (F.run _ X.stack _ _ ⟨Value.ref (s.heap.objs.size + 1) :: us, []⟩ (Value.ref (s.heap.objs.size + 1) :: (us ++ ds)) _ _ E (hr.make C us [])
    (I2.env0.make C us []) (hb _ (Value.ref (s.heap.objs.size + 1) :: us) I2.kIn hl) r2 hq) fun r s' hq' => ?_))
  cases r with
  | error e => exact hx pins σ _ _ e s' I2 hq'
  | ok fl =>
    cases fl with
    | ret u =>
      obtain ⟨v, H', I3, rv, ev, q3⟩ := I2.after hq'
      subst ev
      exact ⟨rv, ⟨V.ref (s.heap.objs.size + 1), H', I3, rfl, q3⟩⟩
    | next => exact False.elim hq'
    | brk => exact False.elim hq'
    | cont => exact False.elim hq'
theorem pe_make (M : Mk X.K C f) (F : FnOk X.prog X.w X.K X.mg X.base CX k f fd ps sp) (hr : Room (k + 1) X.A) (hg : Gl X x) (hm : X.mg x = some (.ref C)) (hb : Binds X.K fd ps ds) (hd : Vals dvs ds) (hx : Passes CX X E)
    (ha : PA X (e :: es) t) (hdb : (x == ("__debug__" : Str)) = false := by decide) (he : starEach (e :: es) X.env = (false, eval e X.env) :: starEach es X.env := by rfl) (hpl : (backTo pos (starEach es X.env)).any (·.1) = false := by rfl) :
    PE X (.Call (.Name x p) (e :: es) [] pos) (tMake C sp dvs E t) := by
  intro pins s σ H Q I h
  refine wpAny_Call_Name_kw (ld_glob I hg hm ?_ hdb)
  refine PySem.W.callWith_K (h₀ := X.base) I.ok.mod.kin M.kp (thn (ha pos pins s σ H _ I h) fun us s1 ⟨vs, H1, I1, r, q⟩ => ⟨I1.kIn, ?_⟩) he hpl
  exact run_make M F hr hb hd hx I1 r q
theorem pe_make0 (M : Mk X.K C f) (F : FnOk X.prog X.w X.K X.mg X.base CX k f fd ps sp) (hr : Room (k + 1) X.A) (hg : Gl X x) (hm : X.mg x = some (.ref C)) (hb : Binds X.K fd ps ds) (hd : Vals dvs ds) (hx : Passes CX X E)
    (hdb : (x == ("__debug__" : Str)) = false := by decide) : PE X (.Call (.Name x p) [] [] pos) (tMake C sp dvs E tNil) := by
  intro pins s σ H Q I h
  refine wpAny_Call_Name_kw (ld_glob I hg hm ?_ hdb)
  exact PySem.W.callWith_K0 I.kIn M.kp (run_make (us := []) M F hr hb hd hx I .nil h)
end

/-! ### keywords -/
/-- the values of the keywords, from the left -/
def PK (X : Cx) (kws : List Keyword) (t : TA) : Prop :=
  ∀ (pos : Pos) (pins : List (Addr × Obj)) (s : Shared) (σ : St) (H : Hp) (Q : List V → Hp → Prop), Inv X pins σ H s → t σ H Q → wpAny (model X.prog X.w) X.A (evalAll ((backToKw pos (keywordEach kws X.env)).map (·.2))) (AP X pins σ Q) X.xe s
section
variable {X : Cx} {CX : CXT} {k : Nat} {f C : Addr} {fd : FuncData} {ps ks : List Str} {sp : Sp} {E : XK} {x m : Str} {p pos apos kpos : Pos} {e o : Expr} {es : List Expr} {kws : List Keyword} {te ta : TE} {t tk : TA} {nm : Option Str}
theorem pk_nil : PK X [] tNil := fun _ _ _ _ H Q I h => wpAny_evalAll_nil ⟨[], H, I, .nil, h⟩
theorem pk_cons (ha : PE X e te) (hr : PK X kws t) : PK X (⟨nm, e, kpos⟩ :: kws) (tCons te t) := by
  intro pos pins s σ H Q I h
  show wpAny _ _ (evalAll ((do let v ← eval e X.env; standAt pos; pure v) :: (backToKw pos (keywordEach kws X.env)).map (·.2))) _ _ s
  refine wpAny_evalAll_cons (wpAny_bind (thn (ha pins s σ H _ I h) fun u s1 ⟨x, H1, I1, r1, q1⟩ => wpAny_bind (wpAny_standAt (wpAny_pure ?_))))
  exact thn (hr pos pins s1 σ H1 _ I1 q1) fun us s2 ⟨xs, H2, I2, r2, q2⟩ => ⟨x :: xs, H2, I2, .cons r1 r2, q2⟩

/-- how a call with keywords binds: g puts the positional values us and the keywords' values ws (names ks) in the parameters' order, defaults among them -/
structure KBinds (K : PySem.W.Frag) (fd : FuncData) (ps ks : List Str) (g : List Value → List Value → List Value) (gV : List V → List V → List V) : Prop where
  to : ∀ (s : Shared) (us ws : List Value), K.In s.heap → (g us ws).length = ps.length → BindsTo s fd ⟨us, ks.zip ws⟩ (ps.zip (g us ws))
  rel : ∀ {vs : List V} {us : List Value} {zs : List V} {ws : List Value}, Vals vs us → Vals zs ws → Vals (gV vs zs) (g us ws)
def tCallK (sp : Sp) (gV : List V → List V → List V) (E : XK) (t tk : TA) : TE := fun σ H Q => t σ H fun vs H1 => tk σ H1 fun zs H2 => sp (gV vs zs) H2 Q E
variable {g : List Value → List Value → List Value} {gV : List V → List V → List V}
theorem run_fnk {pins : List (Addr × Obj)} {σ : St} {H : Hp} {s : Shared} {Q : VK} {us ws : List Value} {vs zs : List V} (F : FnOk X.prog X.w X.K X.mg X.base CX k f fd ps sp) (hr : Room k X.A) (hb : KBinds X.K fd ps ks g gV) (hx : Passes CX X E)
    (I : Inv X pins σ H s) (r : Vals vs us) (rz : Vals zs ws) (h : sp (gV vs zs) H Q E) : wpAny (model X.prog X.w) X.A (call (.ref f) us (ks.zip ws)) (EP X pins σ Q) X.xe s := by
  have r2 := hb.rel r rz
  have hl : (g us ws).length = ps.length := by rw [← r2.length]; exact F.len _ _ _ _ h
  refine wpAny_call (codeAny_mono (F.run X.A X.stack s H ⟨us, ks.zip ws⟩ (g us ws) (gV vs zs) Q E hr I.env0 (hb.to s us ws I.kIn hl) r2 h) fun r s' hq => ?_)
  cases r with
  | error e => exact hx pins σ H s e s' I hq
  | ok fl =>
    cases fl with
    | ret u => exact I.after hq
    | next => exact False.elim hq
    | brk => exact False.elim hq
    | cont => exact False.elim hq
/-- f(e, .., k = v, ..) -/
theorem pe_callK (F : FnOk X.prog X.w X.K X.mg X.base CX k f fd ps sp) (hr : Room k X.A) (hg : Gl X x) (hm : X.mg x = some (.ref f)) (hk : PySem.W.keepIn X.K (.ref f) = true) (hb : KBinds X.K fd ps ks g gV) (hx : Passes CX X E)
    (ha : PA X (e :: es) t) (hkw : PK X kws tk) (hall : (backToKw pos (keywordEach kws X.env)).all (·.1.isSome) = true := by rfl) (hks : (backToKw pos (keywordEach kws X.env)).filterMap (·.1) = ks := by rfl)
    (hdb : (x == ("__debug__" : Str)) = false := by decide) (he : starEach (e :: es) X.env = (false, eval e X.env) :: starEach es X.env := by rfl)
    (hpl : ((backTo pos (starEach (e :: es) X.env)).any (·.1) || (backToKw pos (keywordEach kws X.env)).any (·.1.isNone)) = false := by rfl) :
    PE X (.Call (.Name x p) (e :: es) kws pos) (tCallK sp gV E t tk) := by
  intro pins s σ H Q I h
  refine wpAny_Call_Name_kw (ld_glob I hg hm ?_ hdb)
  refine PySem.W.callWith_KW (h₀ := X.base) I.ok.mod.kin hk hall (thn (ha pos pins s σ H _ I h) fun us s1 ⟨vs, H1, I1, r, q⟩ => ?_) hpl he
  refine thn (hkw pos pins s1 σ H1 _ I1 q) fun ws s2 ⟨zs, H2, I2, rz, q2⟩ => ⟨I2.kIn, ?_⟩
  rw [hks]
  exact run_fnk F hr hb hx I2 r rz q2
end

/-! ### a def's body keeps its promise -/
/-- names: the parameters first -/
structure FnScope (N P : List Str) (sc : Scope) : Prop where
  kind : sc.kind = .function
  co : sc.isCoroutine = false
  gen : sc.isGenerator = false
  nd : N.Nodup
  pre : N.take P.length = P
  par : ∀ x ∈ P, sc.names.lookup x = some .local ∨ sc.names.lookup x = some .cell
  nofree : ∀ y ∈ sc.names, y.2 ≠ .free

theorem bindL_out {kindOf : Str → Option NameKind} {x : Str} : ∀ {binds : List (Str × Value)} {m : Str → Option Value}, (∀ v, (x, v) ∉ binds) → bindL kindOf binds m x = m x
  | [], _, _ => rfl
  | (n, v) :: r, m, h => by
    unfold bindL
    rw [bindL_out fun w hw => h w (List.mem_cons_of_mem _ hw)]
    split
    · have : x ≠ n := by rintro rfl; exact h v List.mem_cons_self
      simp [this]
    · rfl
theorem bindC_out {kindOf : Str → Option NameKind} {x : Str} : ∀ {binds : List (Str × Value)} {m : Str → Option Value}, (∀ v, (x, v) ∉ binds) → bindC kindOf binds m x = m x
  | [], _, _ => rfl
  | (n, v) :: r, m, h => by
    unfold bindC
    rw [bindC_out fun w hw => h w (List.mem_cons_of_mem _ hw)]
    split
    · rfl
    · have : x ≠ n := by rintro rfl; exact h v List.mem_cons_self
      simp [this]
theorem bindL_get {kindOf : Str → Option NameKind} {x : Str} {v : Value} : ∀ {P : List Str} {vs : List Value} {i : Nat} {m : Str → Option Value}, P.Nodup → P[i]? = some x → vs[i]? = some v → kindOf x = some .local →
    bindL kindOf (P.zip vs) m x = some v
  | [], _, _, _, _, h, _, _ => by simp at h
  | _ :: _, [], _, _, _, _, h, _ => by simp at h
  | p :: P, w :: vs, 0, m, nd, h1, h2, hk => by
    simp at h1 h2; subst h1; subst h2
    show bindL kindOf ((p, w) :: P.zip vs) m p = _
    unfold bindL
    rw [bindL_out fun v hv => (List.nodup_cons.mp nd).1 (List.of_mem_zip hv).1, if_pos hk]
    simp
  | p :: P, w :: vs, i + 1, m, nd, h1, h2, hk => by
    show bindL kindOf ((p, w) :: P.zip vs) m x = _
    unfold bindL
    exact bindL_get (i := i) (List.nodup_cons.mp nd).2 (by simpa using h1) (by simpa using h2) hk
theorem bindC_get {kindOf : Str → Option NameKind} {x : Str} {v : Value} : ∀ {P : List Str} {vs : List Value} {i : Nat} {m : Str → Option Value}, P.Nodup → P[i]? = some x → vs[i]? = some v → kindOf x ≠ some .local →
    bindC kindOf (P.zip vs) m x = some v
  | [], _, _, _, _, h, _, _ => by simp at h
  | _ :: _, [], _, _, _, _, h, _ => by simp at h
  | p :: P, w :: vs, 0, m, nd, h1, h2, hk => by
    simp at h1 h2; subst h1; subst h2
    show bindC kindOf ((p, w) :: P.zip vs) m p = _
    unfold bindC
    rw [bindC_out fun v hv => (List.nodup_cons.mp nd).1 (List.of_mem_zip hv).1, if_neg hk]
    simp
  | p :: P, w :: vs, i + 1, m, nd, h1, h2, hk => by
    show bindC kindOf ((p, w) :: P.zip vs) m x = _
    unfold bindC
    exact bindC_get (i := i) (List.nodup_cons.mp nd).2 (by simpa using h1) (by simpa using h2) hk

/-- the names' values at the entry -/
def start (N : List Str) (vs : List V) : St := vs.map some ++ List.replicate (N.length - vs.length) none

/-- the context of a def's body, at its entry; an exception leaves the frame, then lies as CX says -/
def cxOf (CX : CXT) (P : Program) (w : World) (K : PySem.W.Frag) (mg : Str → Option Value) (base : Heap) (N : List Str) (qual : Str) (scope : Scope) (f : Addr) (cd : Value) (A : Around) (outer : List Env) (s : Shared) (H : Hp) (E : XK) : Cx where
  prog := P
  w := w
  K := K
  mg := mg
  base := base
  A := A.deeper (envOfC qual scope s.heap.objs.size f cd)
  N := N
  s_0 := s
  H_0 := H
  env := envOfC qual scope s.heap.objs.size f cd
  outer := outer
  stack := envOfC qual scope s.heap.objs.size f cd :: outer
  ex := []
  calm := true
  fn := fun _ => true
  pn := []
  xe := fun e s' => wpAny (model P w) (A.deeper (envOfC qual scope s.heap.objs.size f cd)) (leaving (envOfC qual scope s.heap.objs.size f cd) e) (fun _ s'' => CX outer H s E e s'') (fun e' s'' => CX outer H s E e' s'') s'

theorem cell_has {sc : Scope} {n : Nat} {x : Str} (h : sc.names.lookup x = some .cell) : ∃ c, (cellsFrom n sc.names []).lookup x = some c := by
  have q := PySem.W.cellsFrom_some sc.names n [] (.inl h)
  exact Option.isSome_iff_exists.mp q

theorem inv_start {CX : CXT} {P : Program} {w : World} {K : PySem.W.Frag} {mg : Str → Option Value} {base : Heap} {N ps : List Str} {qual : Str} {scope : Scope} {f : Addr} {cd : Value} {A : Around} {outer : List Env} {s s1 : Shared} {H : Hp} {E : XK} {us : List Value} {vs : List V}
    (S : FnScope N ps scope) (hd : A.handled = none) (e0 : Env0 P w K mg base A outer s H) (hl : vs.length = ps.length) (r : Vals vs us)
    (x : InCallC s s.heap.objs.size (bindL (envOfC qual scope s.heap.objs.size f cd).kindOf (ps.zip us) fun _ => none) (cellsFrom (s.heap.objs.size + 1) scope.names []) (bindC (envOfC qual scope s.heap.objs.size f cd).kindOf (ps.zip us) fun _ => none) s1) :
    Inv (cxOf CX P w K mg base N qual scope f cd A outer s H E) [] (start N vs) H s1 := by
  have hpl : ps.length ≤ N.length := by have := congrArg List.length S.pre; rw [List.length_take] at this; omega
  obtain ⟨h1, tk, rfl, hk⟩ := x.done
  have noA : ∀ b : Addr, b ∉ (cxOf CX P w K mg base N qual scope f cd A outer s H E).ex := fun b z => absurd (show b ∈ ([] : List Addr) from z) (by simp)
  refine ⟨⟨e0.mod, S.kind, rfl, rfl, Nat.le_refl _, fun y z c h1 h2 => ?_, fun y hy => ?_, fun y c _ h => ?_, fun _ => hd, Around.frames_deeper e0.frames, .inr ⟨rfl, rfl⟩, fun b z => absurd z (noA b), e0.bs, e0.bsz, fun b _ _ => noA b, fun b z => absurd z (noA b), e0.funs, e0.frf⟩,
    rfl, e0.bare, Un.kept hk, ⟨_, x.toInCall.ns, fun i y v h1 h2 h3 => ?_⟩, fun y c h => ⟨_, x.cell y c h⟩, e0.hok.fresh (Nat.le_refl _), fun y c h => ?_, fun p hp => absurd (show p ∈ ([] : List (Addr × Obj)) from hp) (by simp), e0.hok.kept hk, ?_⟩
  · exact name_of_addr x.apart (PySem.mem_of_lookup h1) (PySem.mem_of_lookup h2)
  · have hy : scope.names.lookup y = some .cell ∨ scope.names.lookup y = some .free := hy
    rcases hy with hy | hy
    · exact cell_has hy
    · exact absurd rfl (S.nofree _ (PySem.mem_of_lookup hy))
  · exact Nat.le_of_lt (x.above y c (PySem.mem_of_lookup h))
  · have hi : i < vs.length := by
      unfold start at h2
      by_cases hi : i < vs.length
      · exact hi
      · rw [List.getElem?_append_right (by simpa using hi)] at h2
        rw [List.getElem?_replicate] at h2
        split at h2 <;> cases h2
    have ha : vs[i]? = some v := by
      unfold start at h2
      rw [List.getElem?_append_left (by simpa using hi), List.getElem?_map] at h2
      cases e : vs[i]? with
      | none => rw [e] at h2; cases h2
      | some a => rw [e] at h2; cases h2; rfl
    obtain ⟨u, hu, rv⟩ := r.get ha
    have hp : ps[i]? = some y := by
      rw [← S.pre, List.getElem?_take_of_lt (by omega)]; exact h1
    have ndP : ps.Nodup := by rw [← S.pre]; exact S.nd.sublist (List.take_sublist _ _)
    refine ⟨u, rv, ?_⟩
    rcases S.par y (List.mem_of_getElem? hp) with k | k
    · exact .inl ⟨k, bindL_get ndP hp hu k⟩
    · obtain ⟨c, e⟩ := cell_has (n := s.heap.objs.size + 1) k
      refine .inr ⟨.inl k, c, e, ?_⟩
      have q := x.cell y c e
      rw [bindC_get ndP hp hu (by show scope.names.lookup y ≠ _; rw [k]; decide)] at q
      exact q
  · exact e0.hok.fresh (Nat.le_of_lt (x.above y c (PySem.mem_of_lookup h)))
  · unfold start
    show _ = N.length
    rw [List.length_append, List.length_map, List.length_replicate]
    omega

/-- THE RULE: a def (or a method) of the text, by its body. The body's reading t is chosen for each entry; it is run at the parameters' values -/
theorem fn_of {CX : CXT} {P : Program} {w : World} {K : PySem.W.Frag} {mg : Str → Option Value} {base : Heap} {k : Nat} {f : Addr} {name qual : Str} {params : Arguments} {body : List Stmt} {scope : Scope} {dV kV doc pm cdv ct oc : Value} {an od : Option Addr}
    {osl : Array (Option Value)} {N ps : List Str} {sp : Sp} (lk : K.lookup f = some ⟨oc, od, .func (PySem.W.fnOf name qual params body scope dV kV doc pm an cdv ct), osl⟩) (hcd : PySem.W.codeIn K cdv qual = true) (S : FnScope N ps scope)
    (len : ∀ vs H Q E, sp vs H Q E → vs.length = ps.length)
    (hbody : ∀ (A : Around) (outer : List Env) (s : Shared) (H : Hp) (vs : List V) (Q : VK) (E : XK), Room k (A.deeper (envOfC qual scope s.heap.objs.size f cdv)) → sp vs H Q E →
      ∃ t, PSs (cxOf CX P w K mg base N qual scope f cdv A outer s H E) body t ∧ t { nx := fun _ H' => Q .non H', rt := Q } (start N vs) H) :
    FnOk P w K mg base CX (k + 1) f (PySem.W.fnOf name qual params body scope dV kV doc pm an cdv ct) ps sp := by
  refine ⟨len, fun A outer s H args us vs Q E hr e0 hb r hsp => ?_⟩
  have hl := len _ _ _ _ hsp
  have KX : K.In s.heap := e0.mod.kin.keeps fun b o e => (e0.bs b o e).1
  have lim : s.heap.NoLimit := e0.mod.nolimit.keeps fun b o e => (e0.bs b o e).1
  have hkind : ∀ y ∈ ps.zip us, scope.names.lookup y.1 = some .local ∨ (scope.names.lookup y.1 = some .cell ∧ ((cellsFrom (s.heap.objs.size + 1) scope.names []).lookup y.1).isSome = true) := fun ⟨n, v⟩ hy => by
    rcases S.par n (List.of_mem_zip hy).1 with q | q
    · exact .inl q
    · exact .inr ⟨q, PySem.W.cellsFrom_some _ _ _ (.inl q)⟩
  refine codeAny_call_function hr.depth (KX _ _ lk) rfl S.co S.gen rfl (PySem.W.codeRec_of KX hcd) (hb _ _ _ _ ?_)
  refine wpAny_newFunctionEnv_cells S.kind hkind fun env he s1 x => ?_
  subst he
  refine ⟨lim.keeps x.toInCall.keep, codeAny_func ?_⟩
  obtain ⟨t, ht, hq⟩ := hbody A outer s H vs Q E (hr.deeper _) hsp
  have I : Inv (cxOf CX P w K mg base N qual scope f cdv A outer s H E) [] (start N vs) H s1 := inv_start S hr.hd e0 hl r x
  refine wpAny_mono (ht [] s1 (start N vs) H _ I hq) (fun fl s' hs => ?_) fun e s' hs => hs
  have fin : ∀ {σ' : St} {H' : Hp} {v : V} {u : Value}, Inv (cxOf CX P w K mg base N qual scope f cdv A outer s H E) [] σ' H' s' → RelV v u → Q v H' → CE outer P w H s Q u s' :=
    fun {σ' H' v u} J rv q => ⟨v, H', J.os, J.bare, J.base, J.hok, rv, q⟩
  cases fl with
  | ret u =>
    obtain ⟨v, σ', H', J, rv, q⟩ := hs
    exact fin J rv q
  | next =>
    obtain ⟨σ', H', J, q⟩ := hs
    exact fin (v := V.non) (u := Value.none) J rfl q
  | brk =>
    obtain ⟨_, _, _, q⟩ := hs
    exact False.elim q
  | cont =>
    obtain ⟨_, _, _, q⟩ := hs
    exact False.elim q
end L2

namespace L2
open PySem PySem.Spec PyProof.Rows
section
variable {X : Cx} {x : Str} {p pos : Pos} {e : Expr} {es : List Expr} {t : TA} {id T : String} {r : List V → Hp → VK → Prop}

def tCB (r : List V → Hp → VK → Prop) (t : TA) : TE := fun σ H Q => t σ H fun vs H1 => r vs H1 Q
/-- f(e, ..), f a built-in function -/
theorem pe_callB (hc : CallR X (.builtin id) r) (hg : Gl X x) (hm : X.mg x = none) (hv : bootBuiltins x = some (.builtin id)) (ha : PA X (e :: es) t) (hn : x ≠ "__name__" := by decide) (hdb : (x == ("__debug__" : Str)) = false := by decide)
    (he : starEach (e :: es) X.env = (false, eval e X.env) :: starEach es X.env := by rfl) (hpl : (backTo pos (starEach es X.env)).any (·.1) = false := by rfl) : PE X (.Call (.Name x p) (e :: es) [] pos) (tCB r t) := by
  intro pins s σ H Q I h
  refine wpAny_Call_Name_kw (ld_blt I hg hm hv ?_ hn hdb)
  exact PyProof.Rows.callWith_builtin1 (thn (ha pos pins s σ H _ I h) fun us s1 ⟨vs, H1, I1, r1, q1⟩ => hc pins s1 σ H1 vs us Q I1 r1 q1) he hpl
/-- T(e, ..), T a built-in type -/
theorem pe_callTy (hc : CallR X (.type T) r) (hg : Gl X x) (hm : X.mg x = none) (hv : bootBuiltins x = some (.type T)) (ha : PA X (e :: es) t) (hn : x ≠ "__name__" := by decide) (hdb : (x == ("__debug__" : Str)) = false := by decide)
    (he : starEach (e :: es) X.env = (false, eval e X.env) :: starEach es X.env := by rfl) (hpl : (backTo pos (starEach es X.env)).any (·.1) = false := by rfl) : PE X (.Call (.Name x p) (e :: es) [] pos) (tCB r t) := by
  intro pins s σ H Q I h
  refine wpAny_Call_Name_kw (ld_blt I hg hm hv ?_ hn hdb)
  exact PyProof.Rows.callWith_type1 (thn (ha pos pins s σ H _ I h) fun us s1 ⟨vs, H1, I1, r1, q1⟩ => hc pins s1 σ H1 vs us Q I1 r1 q1) he hpl
/-- T() -/
theorem pe_callTy0 (hc : CallR X (.type T) r) (hg : Gl X x) (hm : X.mg x = none) (hv : bootBuiltins x = some (.type T)) (hn : x ≠ "__name__" := by decide) (hdb : (x == ("__debug__" : Str)) = false := by decide) :
    PE X (.Call (.Name x p) [] [] pos) (tCB r tNil) := by
  intro pins s σ H Q I h
  refine wpAny_Call_Name_kw (ld_blt I hg hm hv ?_ hn hdb)
  exact PyProof.Rows.callWith_type0 (hc pins s σ H [] [] Q I .nil h)
end
end L2

namespace HT
open PySem PyProof.Rows

/-- t < u of tuples of ints -/
def lexLt : List Int → List Int → Bool
  | [], [] => false
  | [], _ :: _ => true
  | _ :: _, [] => false
  | x :: xs, y :: ys => if x = y then lexLt xs ys else decide (x < y)
theorem lexLt_cons (x y : Int) (xs ys : List Int) : lexLt (x :: xs) (y :: ys) = if x = y then lexLt xs ys else decide (x < y) := rfl
theorem lexLt_nil_nil : lexLt [] [] = false := rfl
theorem lexLt_nil_cons (y : Int) (ys : List Int) : lexLt [] (y :: ys) = true := rfl
theorem lexLt_cons_nil (x : Int) (xs : List Int) : lexLt (x :: xs) [] = false := rfl

theorem eqAt_int (A : Around) (s : Shared) (a : Int) (t : Tok) (c : Int) (u : Tok) : ∃ e, SeqAt.EqAt A s (.int a t) (.int c u) e ∧ (e = true ↔ a = c) :=
  ⟨(a == c), SeqAt.EqAt.int_int a t c u, by simp⟩
theorem rcLt_int (A : Around) (s : Shared) (a : Int) (t : Tok) (c : Int) (u : Tok) (prog : Program) (w : World) (E : Value → Shared → Prop) (Q : Value → Shared → Prop) (h : Q (.bool (decide (a < c))) s) :
    wpAny (model prog w) A (richCompare .Lt (.int a t) (.int c u)) Q E s :=
  (PyProof.Rows.lt_int h : wpAny (model prog w) A (compareOp .Lt (.int a t) (.int c u)) Q E s)

section
open PySem.SeqAt
open PySem.AutoSeq1 (wpAny_loadPart')
open PySem.MeetsSeq PySem.MeetsSeq2 PySem.MeetsSeq3

theorem tuple_lt_ints (l b : Addr) (items items2 : Array Value) (n n2 : Nat) (dd dd2 : Option Addr) (sl sl2 : Array (Option Value)) (ns ms : List Int) (hi : IntsAre items.toList ns) (hj : IntsAre items2.toList ms) :
    Meets (Builtin.«tuple.__lt__» ⟨[.ref l, .ref b], []⟩)
      (fun _ R s => s.heap.get? l = some { cls := .type "tuple", dict := dd, data := .seq items n, slots := sl } ∧ s.heap.get? b = some { cls := .type "tuple", dict := dd2, data := .seq items2 n2, slots := sl2 } ∧
        R (.ok (.ret (.bool (lexLt ns ms)))) s) :=
  .of_wp fun prog w A R s h => by
    obtain ⟨hp, g, d, tk, os⟩ := s; obtain ⟨hl, hb, h⟩ := h
    have f2 := AutoSeq1.sub_tuple_tuple
    have z1 : items.size = ns.length := by rw [← hi.length]; simp
    have z2 : items2.size = ms.length := by rw [← hj.length]; simp
    wp_walk using wpAny_loadPart' hl, wpAny_loadPart' hb, wpAny_forIn_list _ (fun rest b s' => b.1 = none ∧ s' = ⟨hp, g, d, tk, os⟩ ∧ ∃ (vs ws : List Value) (ns' ms' : List Int), rest = vs.zip ws ∧
      IntsAre vs ns' ∧ IntsAre ws ms' ∧ ns'.length + items2.size = ms'.length + items.size ∧ R (.ok (.ret (.bool (lexLt ns' ms')))) ⟨hp, g, d, tk, os⟩) _
    case turn =>
      rintro ⟨y, x⟩ rest b s' ⟨hb', rfl, vs, ws, ns', ms', hz, hvi, hwi, hlen, hR⟩
      cases hvi with
      | nil => rw [List.zip_nil_left] at hz; cases hz
      | cons a t hvi' =>
        cases hwi with
        | nil => rw [List.zip_nil_right] at hz; cases hz
        | cons c u hwi' =>
          rw [List.zip_cons_cons] at hz
          injection hz with hyx hrest
          injection hyx with hy hx
          subst hy hx
          rw [lexLt_cons] at hR
          simp only [List.length_cons] at hlen
          obtain ⟨e, he, hiff⟩ := eqAt_int A.in1 ⟨hp, g, d, tk, os⟩ a t c u
          refine wpAny_bind (he prog w _ _ ?_)
          cases e with
          | true =>
            rw [if_pos (hiff.mp rfl)] at hR
            wp_walk
            exact ⟨rfl, rfl, _, _, _, _, hrest, hvi', hwi', by omega, hR⟩
          | false =>
            rw [if_neg (fun q => absurd (hiff.mpr q) Bool.false_ne_true)] at hR
            have hri := rcLt_int A.in1 ⟨hp, g, d, tk, os⟩ a t c u prog w
            wp_walk using hri
            exact ⟨_, rfl, by simpa using hR⟩
    case fin =>
      rintro ⟨b1, b2⟩ s' ⟨hb', rfl, vs, ws, ns', ms', hz, hvi, hwi, hlen, hR⟩
      simp only at hb'
      subst hb'
      have hv : lexLt ns' ms' = decide (items.size < items2.size) := by
        cases hvi with
        | nil =>
          cases hwi with
          | nil =>
            simp only [List.length_nil] at hlen
            rw [lexLt_nil_nil]
            exact (decide_eq_false (by omega)).symm
          | cons c u hw =>
            simp only [List.length_nil, List.length_cons] at hlen
            rw [lexLt_nil_cons]
            exact (decide_eq_true (by omega)).symm
        | cons a t hv =>
          cases hwi with
          | nil =>
            simp only [List.length_nil, List.length_cons] at hlen
            rw [lexLt_cons_nil]
            exact (decide_eq_false (by omega)).symm
          | cons c u hw =>
            rw [List.zip_cons_cons] at hz
            cases hz
      rw [hv] at hR
      wp_walk
      exact ⟨_, rfl, by simpa [Builtin.Tuple.tupleCompareSizes] using hR⟩
    case h =>
      exact ⟨rfl, rfl, items.toList, items2.toList, ns, ms, rfl, hi, hj, by omega, h⟩
end

section
variable {prog : Program} {w : World} {A : Around} {E : Value → Shared → Prop} {s : Shared}

theorem lt_tupInts {l b : Addr} {items items2 : Array Value} {ns ms : List Int} {Q : Value → Shared → Prop} (hl : IsTup s.heap l items) (hb : IsTup s.heap b items2) (hi : IntsAre items.toList ns) (hj : IntsAre items2.toList ms)
    (hu : A.units < cLine) (h : Q (.bool (lexLt ns ms)) s) : wpAny (model prog w) A (compareOp .Lt (.ref l) (.ref b)) Q E s := by
  obtain ⟨⟨cls, dd, data, sl⟩, ho, hc, n, hd⟩ := id hl
  obtain ⟨⟨cls2, dd2, data2, sl2⟩, ho2, hc2, n2, hd2⟩ := id hb
  simp only at hc hd hc2 hd2
  subst hc hd hc2 hd2
  exact richCompare_meets_room (op := .Lt) ⟨_, ho, rfl⟩ ⟨_, ho2, rfl⟩ PySem.F.slot_tuple_lt PySem.F.entry_tuple_lt (PySem.F.args_tuple_lt_2 _ _) (tuple_lt_ints l b items items2 n n2 dd dd2 sl sl2 ns ms hi hj)
    ⟨ho, ho2, show Value.bool (lexLt ns ms) ≠ Value.notImplemented ∧ Q (.bool (lexLt ns ms)) s from ⟨(fun x => nomatch x), h⟩⟩ hu

/-- t + u, t not empty -/
theorem cat_tup {t b : Addr} {vs ws : List Value} {Q : Value → Shared → Prop} (ht : IsTup s.heap t vs.toArray) (hb : IsTup s.heap b ws.toArray) (hv : vs ≠ [])
    (h1 : ws = [] → Q (.ref t) s) (h2 : ws ≠ [] → Q (.ref s.heap.objs.size) { s with heap := s.heap.push { cls := .type "tuple", data := .seq (vs ++ ws).toArray } })
    (hsz : vs.length + ws.length ≤ sizeLine) : wpAny (model prog w) A (binaryOp .Add (.ref t) (.ref b)) Q E s := by
  obtain ⟨⟨cls, dd, data, sl⟩, ho, hc, n, hd⟩ := id ht
  obtain ⟨⟨cls2, dd2, data2, sl2⟩, ho2, hc2, n2, hd2⟩ := id hb
  simp only at hc hd hc2 hd2
  subst hc hd hc2 hd2
  have e : vs.toArray ++ ws.toArray = (vs ++ ws).toArray := by simp
  by_cases hw : ws = []
  · exact concat_meets ⟨_, ho, rfl⟩ ⟨_, ho2, rfl⟩ noFill_tuple_add seq_tuple_add PySem.F.slot_tuple_add PySem.F.entry_tuple_add (PySem.F.args_tuple_add_2 _ _)
      (tuple_addW1 t b vs.toArray ws.toArray n n2 dd dd2 sl sl2 (by simpa using hv) (by simp [hw])) ⟨ho, ho2, h1 hw⟩
  · refine concat_meets ⟨_, ho, rfl⟩ ⟨_, ho2, rfl⟩ noFill_tuple_add seq_tuple_add PySem.F.slot_tuple_add PySem.F.entry_tuple_add (PySem.F.args_tuple_add_2 _ _)
      (tuple_addW2 t b vs.toArray ws.toArray n n2 dd dd2 sl sl2 (by simpa using hv) (by simpa using hw) (by rw [List.size_toArray, List.size_toArray]; exact hsz)) ⟨ho, ho2, ?_⟩
    rw [e]
    exact h2 hw

/-! ### t[a:b], not the whole -/
/-- a slice's bound as a place among n (d where it is left out) -/
def sIx (n d : Nat) : Option Int → Nat
  | none => d
  | some v => if v < 0 then (v + (n : Int)).toNat else min v.toNat n
theorem sIx_none (n d : Nat) : sIx n d none = d := rfl
theorem sIx_nat (n d k : Nat) : sIx n d (some (k : Int)) = min k n := by
  show (if (k : Int) < 0 then ((k : Int) + (n : Int)).toNat else min (k : Int).toNat n) = min k n
  rw [if_neg (by omega), Int.toNat_natCast]
theorem sIx_le (n d : Nat) (hd : d ≤ n) (o : Option Int) : sIx n d o ≤ n := by
  cases o with
  | none => exact hd
  | some v =>
    show (if v < 0 then (v + (n : Int)).toNat else min v.toNat n) ≤ n
    by_cases hv : v < 0
    · rw [if_pos hv]; omega
    · rw [if_neg hv]; exact Nat.min_le_right _ _
theorem clip_eq (v : Int) (n d : Nat) : (if v < 0 then max (v + (n : Int)) 0 else min v (n : Int)) = ((sIx n d (some v) : Nat) : Int) := by
  show (if v < 0 then max (v + (n : Int)) 0 else min v (n : Int)) = (((if v < 0 then (v + (n : Int)).toNat else min v.toNat n) : Nat) : Int)
  by_cases hv : v < 0
  · simp only [if_pos hv]; omega
  · simp only [if_neg hv]; omega
theorem adjust_gen (lo hi : Option Int) (n : Nat) : Builtin.Slice.sliceAdjust lo hi 1 (n : Int) = (((sIx n 0 lo : Nat) : Int), ((sIx n n hi : Nat) : Int)) := by
  have h1 : ¬ ((1 : Int) < 0) := by omega
  unfold Builtin.Slice.sliceAdjust
  simp only [h1, if_false]
  refine Prod.ext ?_ ?_
  · cases lo with
    | none => rfl
    | some v => exact clip_eq v n 0
  · cases hi with
    | none => rfl
    | some v => exact clip_eq v n n
theorem places_gen (i j : Nat) : Builtin.Slice.slicePlaces (i : Int) (j : Int) 1 = j - i := by
  unfold Builtin.Slice.slicePlaces
  have h1 : (1 : Int) > 0 := by omega
  simp only [h1, if_true, Int.ediv_one]
  split <;> omega
theorem slicePart_ {v : Value} {o : Option Int} {Q : Option Int → Shared → Prop} (p : IsPart v o) (h : Q o s) : wpAny (model prog w) A (Builtin.Slice.slicePartIndex v) Q E s := by
  cases p with
  | none => exact slicePart_none h
  | int i t => exact slicePart_int h
theorem sliceApplied_gen {sl : Addr} {vl vu : Value} {lo hi : Option Int} {n : Nat} {Q : Int × Int × Nat → Shared → Prop} (hs : s.heap.IsSliceOf sl vl vu .none) (pl : IsPart vl lo) (pu : IsPart vu hi)
    (h : Q (((sIx n 0 lo : Nat) : Int), 1, sIx n n hi - sIx n 0 lo) s) : wpAny (model prog w) A (Builtin.Slice.sliceApplied (.ref sl) (pure (n : Int))) Q E s := by
  obtain ⟨os, hos, hcs, hds⟩ := id hs
  unfold Builtin.Slice.sliceApplied Builtin.Slice.sliceFields
  refine wpAny_bind (wpAny_bind (wpAny_field hos hds (x := vl) rfl (wpAny_bind (wpAny_field hos hds (x := vu) rfl (wpAny_bind (wpAny_field hos hds (x := .none) rfl (wpAny_pure ?_)))))))
  refine wpAny_bind (slicePart_none ?_)
  show wpAny _ _ (if ((1 : Int) == 0) = true then _ else _) _ _ s
  rw [if_neg (by decide)]
  refine wpAny_bind (slicePart_ pl (wpAny_bind (slicePart_ pu (wpAny_bind (wpAny_pure ?_)))))
  show wpAny _ _ (match Builtin.Slice.sliceAdjust lo hi 1 (n : Int) with | (lo, hi) => pure (lo, (1 : Int), Builtin.Slice.slicePlaces lo hi 1)) _ _ s
  rw [adjust_gen lo hi n]
  show wpAny _ _ (pure (((sIx n 0 lo : Nat) : Int), (1 : Int), Builtin.Slice.slicePlaces ((sIx n 0 lo : Nat) : Int) ((sIx n n hi : Nat) : Int) 1)) _ _ s
  rw [places_gen]
  exact wpAny_pure h
theorem pick_gen (xs : Array Value) (i k : Nat) : ((List.range k).filterMap fun (m : Nat) => xs[((i : Int) + (m : Int) * 1).toNat]?).toArray = ((xs.toList.drop i).take k).toArray := by
  have e : (fun (m : Nat) => xs[((i : Int) + (m : Int) * 1).toNat]?) = fun m => xs[i + m]? := by
    funext m
    have : ((i : Int) + (m : Int) * 1).toNat = i + m := by omega
    rw [this]
  rw [e]
  have := pick_run xs i k
  rw [List.filterMap_map] at this
  have e2 : ((fun x => xs[x]?) ∘ fun x => i + x) = fun m => xs[i + m]? := rfl
  rw [e2] at this
  rw [this]

theorem getItem_tuple_cut {t sl : Addr} {items : Array Value} {vl vu : Value} {lo hi : Option Int} {Q : Value → Shared → Prop} (ht : IsTup s.heap t items) (hs : s.heap.IsSliceOf sl vl vu .none) (pl : IsPart vl lo) (pu : IsPart vu hi)
    (hw : ¬ (sIx items.size 0 lo = 0 ∧ sIx items.size items.size hi = items.size))
    (h : Q (.ref s.heap.objs.size) { s with heap := s.heap.push { cls := .type "tuple", data := .seq ((items.toList.drop (sIx items.size 0 lo)).take (sIx items.size items.size hi - sIx items.size 0 lo)).toArray } })
    (hsz : items.size ≤ sizeLine) : wpAny (model prog w) A (getItem (.ref t) (.ref sl)) Q E s := by
  have htake : sizeOk (.seq ((items.toList.drop (sIx items.size 0 lo)).take (sIx items.size items.size hi - sIx items.size 0 lo)).toArray) := by
    show ((items.toList.drop (sIx items.size 0 lo)).take (sIx items.size items.size hi - sIx items.size 0 lo)).toArray.size ≤ sizeLine
    rw [List.size_toArray, List.length_take, List.length_drop, Array.length_toList]
    omega
  have hj : sIx items.size items.size hi ≤ items.size := sIx_le _ _ (Nat.le_refl _) hi
  obtain ⟨os, hos, hcs, hds⟩ := id hs
  have hTs : s.TypeIs (.ref sl) "slice" := ⟨os, hos, hcs⟩
  unfold getItem
  try with_reducible refine wpAny_holding ?_
  first | refine wpAny_bind (wpAny_pure ?_) | skip
  refine wpAny_bind (wpAny_sequenceKey ht.typeIs (by decide) ?_)
  refine wpAny_bind (wpAny_callSpecial?_slot (name := Str.ofString "__getitem__") ht.typeIs PyProof.Rows.slot_tuple_getitem
    (wpAny_call_entry PyProof.Rows.slot_tuple_getitem ht.typeIs entry_tuple_getitem ?_ (args_tuple_getitem _ _)))
  show wpAny _ _ (Builtin.Tuple.tupleItemsOf (.ref t) >>= _) _ _ s
  refine wpAny_bind (tupleItemsOf_ ht ?_)
  refine wpAny_bind (wpAny_typeOf hTs ?_)
  rw [if_pos (by decide)]
  refine wpAny_bind (sliceApplied_gen hs pl pu ?_)
  have hno : ¬ ((((sIx items.size 0 lo : Nat) : Int) == 0 && (1 : Int) == 1 && (sIx items.size items.size hi - sIx items.size 0 lo) == items.size) = true) := by
    intro q
    rw [Bool.and_eq_true, Bool.and_eq_true] at q
    have q1 : ((sIx items.size 0 lo : Nat) : Int) = 0 := eq_of_beq q.1.1
    have q2 : sIx items.size items.size hi - sIx items.size 0 lo = items.size := eq_of_beq q.2
    exact hw ⟨by omega, by omega⟩
  show wpAny _ _ (if (((sIx items.size 0 lo : Nat) : Int) == 0 && (1 : Int) == 1 && (sIx items.size items.size hi - sIx items.size 0 lo) == items.size) = true then _ else _) _ _ s
  rw [if_neg hno, pick_gen]
  first
    | exact wpAny_bind (m := Builtin.Tuple.tupleExact _) (wpAny_newObj_type (wpAny_pure ⟨_, rfl, wpAny_pure h⟩) htake)
    | exact wpAny_bind (m := Builtin.Tuple.tupleExact _) (wpAny_newObj_type (wpAny_bind (wpAny_pure (wpAny_pure ⟨_, rfl, wpAny_pure h⟩))) htake)
    | exact wpAny_bind (wpAny_bind (m := Builtin.Tuple.tupleExact _) (wpAny_newObj_type (wpAny_pure (wpAny_pure ⟨_, rfl, wpAny_pure h⟩)) htake))
    | exact wpAny_bind (wpAny_bind (m := Builtin.Tuple.tupleExact _) (wpAny_newObj_type (wpAny_pure ⟨_, rfl, wpAny_pure h⟩) htake))
end
end HT

namespace L2
open PySem PySem.Spec PyProof.Rows

/-! ### the parts of a slice -/
abbrev TO := St → Hp → (Option Int → Hp → Prop) → Prop
/-- a slice's part (left out, or an int) -/
def PO (X : Cx) (e : Option Expr) (t : TO) : Prop :=
  ∀ (pins : List (Addr × Obj)) (s : Shared) (σ : St) (H : Hp) (Q : Option Int → Hp → Prop), Inv X pins σ H s → t σ H Q →
    wpAny (model X.prog X.w) X.A (evalPart e X.env) (fun u s' => ∃ o H', Inv X pins σ H' s' ∧ IsPart u o ∧ Q o H') X.xe s
def tNoPart : TO := fun _ H Q => Q none H
def tPart (t : TE) : TO := fun σ H Q => t σ H fun x H1 => ∃ i, x = .int i ∧ Q (some i) H1

theorem intsAre_of {ns : List Int} : ∀ {us : List Value}, Vals (ns.map V.int) us → IntsAre us ns := by
  induction ns with
  | nil => intro us r; rw [List.map_nil] at r; cases r; exact .nil
  | cons n ns ih =>
    intro us r
    rw [List.map_cons] at r
    cases r with
    | cons r1 r2 =>
      obtain ⟨t, e⟩ := r1
      subst e
      exact .cons n t (ih r2)

section
variable {X : Cx} {e : Expr} {te : TE} {lo hi : Option Expr} {tl th : TO} {pos p2 : Pos}

theorem po_none : PO X none tNoPart := by
  intro pins s σ H Q I h
  rw [evalPart_none]
  exact wpAny_pure ⟨none, H, I, .none, h⟩
theorem po_some (h : PE X e te) : PO X (some e) (tPart te) := by
  intro pins s σ H Q I hw
  rw [evalPart_some]
  refine thn (h pins s σ H _ I hw) fun u s1 ⟨x, H1, I1, r1, q1⟩ => ?_
  obtain ⟨i, rfl, q⟩ := q1
  obtain ⟨t, rfl⟩ := r1
  exact ⟨some i, H1, I1, .int i t, q⟩

/-- what a slice of a value is, by values: the slice object stands at sl -/
def SlR (X : Cx) (r : V → Option Int → Option Int → Hp → VK → Prop) : Prop :=
  ∀ (pins : List (Addr × Obj)) (s : Shared) (σ : St) (H : Hp) (x : V) (v vl vu : Value) (lo hi : Option Int) (sl : Addr) (Q : VK), Inv X pins σ H s → RelV x v → s.heap.IsSliceOf sl vl vu .none → IsPart vl lo → IsPart vu hi → r x lo hi H Q →
    ∃ T id, typeLookup (.type T) "__getitem__" = pure (some (.builtin id)) ∧ s.TypeIs v T ∧ wpAny (model X.prog X.w) X.A (getItem v (.ref sl)) (EP X pins σ Q) X.xe s
theorem SlR.or {r r' : V → Option Int → Option Int → Hp → VK → Prop} (h : SlR X r) (h' : SlR X r') : SlR X (fun x lo hi H Q => r x lo hi H Q ∨ r' x lo hi H Q) := by
  intro pins s σ H x v vl vu lo hi sl Q I rx hs pl pu q
  rcases q with q | q
  · exact h pins s σ H x v vl vu lo hi sl Q I rx hs pl pu q
  · exact h' pins s σ H x v vl vu lo hi sl Q I rx hs pl pu q
def tSl (r : V → Option Int → Option Int → Hp → VK → Prop) (te : TE) (tl th : TO) : TE := fun σ H Q => te σ H fun x H1 => tl σ H1 fun l H2 => th σ H2 fun u H3 => r x l u H3 Q
/-- a[lo:hi], any a -/
theorem pe_slice {r : V → Option Int → Option Int → Hp → VK → Prop} (hr : SlR X r) (he : PE X e te) (hl : PO X lo tl) (hu : PO X hi th) : PE X (.Subscript e (.Slice lo hi none p2) pos) (tSl r te tl th) := by
  intro pins s σ H Q I h
  refine Subscript_ (thn (he pins s σ H _ I h) fun v s1 ⟨x, H1, I1, r1, q1⟩ => ?_)
  refine wpAny_Slice (thn (hl pins s1 σ H1 _ I1 q1) fun vl s2 ⟨l, H2, I2, pl, q2⟩ => thn (hu pins s2 σ H2 _ I2 q2) fun vu s3 ⟨u, H3, I3, pu, q3⟩ => ?_)
  rw [evalPart_none]
  refine wpAny_pure ?_
  have I4 : Inv X pins σ H3 { s3 with heap := s3.heap.push { cls := .type "slice", data := .fields #[vl, vu, .none] } } := I3.kept (t' := s3.toks) fun b ob q => Heap.get?_push_of_some _ q
  obtain ⟨T, id, hT, ht, hg⟩ := hr pins { s3 with heap := s3.heap.push { cls := .type "slice", data := .fields #[vl, vu, .none] } } σ H3 x v vl vu l u s3.heap.objs.size Q I4 r1 (Heap.IsSliceOf.new ..) pl pu q3
  show wpAny (model X.prog X.w) X.A (subscriptTail e (.Slice lo hi none p2) v (.ref s3.heap.objs.size)) (EP X pins σ Q) X.xe { s3 with heap := s3.heap.push { cls := .type "slice", data := .fields #[vl, vu, .none] } }
  exact tail_any (ops := [.ref s3.heap.objs.size, v]) ht hT hg (by with_unfolding_all rfl)

/-- the items of xs[lo:hi] -/
def cutV (xs : List V) (lo hi : Option Int) : List V := (xs.drop (HT.sIx xs.length 0 lo)).take (HT.sIx xs.length xs.length hi - HT.sIx xs.length 0 lo)
theorem cutV_length (xs : List V) (lo hi : Option Int) : (cutV xs lo hi).length ≤ xs.length := by
  unfold cutV
  rw [List.length_take, List.length_drop]
  omega
/-- t[lo:hi], not the whole of it (the whole would be t itself) -/
def rSlT (K : PySem.W.Frag) : V → Option Int → Option Int → Hp → VK → Prop := fun x lo hi H Q => ∃ a xs, x = .ref a ∧ SqT K H a xs ∧
  ¬ (HT.sIx xs.length 0 lo = 0 ∧ HT.sIx xs.length xs.length hi = xs.length) ∧ ∀ p, H p = none → Q (.ref p) (upd H p (.tup (cutV xs lo hi)))
theorem sl_tup : SlR X (rSlT X.K) := by
  intro pins s σ H x v vl vu lo hi sl Q I rx hs pl pu h
  obtain ⟨a, xs, rfl, hx, hw, q⟩ := h
  cases rx
  obtain ⟨its, r, ht, hz⟩ := I.tuple hx
  have hlen : its.toArray.size = xs.length := by rw [List.size_toArray]; exact r.length.symm
  refine ⟨"tuple", _, PyProof.Rows.slot_tuple_getitem.lookup, ht.typeIs, ?_⟩
  refine HT.getItem_tuple_cut ht hs pl pu (by rw [hlen]; exact hw) ?_ (by rw [hlen]; exact hz)
  rw [hlen]
  refine ⟨.ref s.heap.objs.size, _, I.laid (t' := s.toks) (o := .tup (cutV xs lo hi)) (fun b ob q => Heap.get?_push_of_some _ q) (Nat.le_refl _) ?_, rfl, q _ (I.hok.fresh (Nat.le_refl _))⟩
  exact ⟨Nat.le_trans (cutV_length xs lo hi) hz, _, (r.drop (HT.sIx xs.length 0 lo)).take (HT.sIx xs.length xs.length hi - HT.sIx xs.length 0 lo), IsTup.new _ _⟩

/-! ### t < u, t + u -/
def rLtT (K : PySem.W.Frag) : R2 := fun x y H Q => ∃ a b ns ms, x = .ref a ∧ y = .ref b ∧ SqT K H a (ns.map V.int) ∧ SqT K H b (ms.map V.int) ∧ Q (.bl (HT.lexLt ns ms)) H
theorem op_ltT (hu : X.A.units < cLine) : OpR X (compareOp .Lt) (rLtT X.K) := by
  intro pins s σ H x y v u Q I rx ry h
  obtain ⟨a, b, ns, ms, rfl, rfl, ha, hb, q⟩ := h
  cases rx
  cases ry
  obtain ⟨its, r1, p1, _⟩ := I.tuple ha
  obtain ⟨its2, r2, p2, _⟩ := I.tuple hb
  have i1 : IntsAre its.toArray.toList ns := intsAre_of r1
  have i2 : IntsAre its2.toArray.toList ms := intsAre_of r2
  exact HT.lt_tupInts p1 p2 i1 i2 hu ⟨.bl (HT.lexLt ns ms), H, I, rfl, q⟩
/-- t + u, t not empty: u empty gives t itself -/
def rCatT (K : PySem.W.Frag) : R2 := fun x y H Q => ∃ a b xs ys, x = .ref a ∧ y = .ref b ∧ SqT K H a xs ∧ SqT K H b ys ∧ xs ≠ [] ∧ xs.length + ys.length ≤ sizeLine ∧
  (ys = [] → Q (.ref a) H) ∧ (ys ≠ [] → ∀ p, H p = none → Q (.ref p) (upd H p (.tup (xs ++ ys))))
theorem Vals.nil_iff {xs : List V} {us : List Value} (r : Vals xs us) : us = [] ↔ xs = [] := by
  cases r with
  | nil => simp
  | cons _ _ => simp
theorem op_catT : OpR X (binaryOp .Add) (rCatT X.K) := by
  intro pins s σ H x y v u Q I rx ry h
  obtain ⟨a, b, xs, ys, rfl, rfl, ha, hb, hx, hz, q1, q2⟩ := h
  cases rx
  cases ry
  obtain ⟨its, r1, p1, _⟩ := I.tuple ha
  obtain ⟨its2, r2, p2, _⟩ := I.tuple hb
  refine HT.cat_tup p1 p2 (fun z => hx (r1.nil_iff.mp z)) (fun z => ⟨.ref a, H, I, rfl, q1 (r2.nil_iff.mp z)⟩) (fun z => ?_) (by rw [← r1.length, ← r2.length]; exact hz)
  refine ⟨.ref s.heap.objs.size, _, I.laid (t' := s.toks) (o := .tup (xs ++ ys)) (fun b ob q => Heap.get?_push_of_some _ q) (Nat.le_refl _) ?_, rfl, q2 (fun w => z (r2.nil_iff.mpr w)) _ (I.hok.fresh (Nat.le_refl _))⟩
  exact ⟨by rw [List.length_append]; exact hz, _, r1.append r2, IsTup.new _ _⟩
/-- tuple(t) -/
theorem call_tupleT : CallR X (.type "tuple") (fun xs H Q => ∃ a ys, xs = [.ref a] ∧ SqT X.K H a ys ∧ Q (.ref a) H) := by
  intro pins s σ H xs us Q I r h
  obtain ⟨a, ys, rfl, ha, q⟩ := h
  obtain ⟨u, rfl, ru⟩ := vals1 r
  cases ru
  obtain ⟨its, _, p1, _⟩ := I.tuple ha
  exact call_tuple_same (items := its.toArray) p1 ⟨.ref a, H, I, rfl, q⟩
end
end L2

namespace L2
open PySem PySem.Spec PyProof.Rows

/-! ### places -/
/-- the place that an index of any sign means -/
def ixN (n : Nat) (i : Int) : Option Nat := if 0 ≤ i then (if i < n then some i.toNat else none) else if -(n : Int) ≤ i then some (i + n).toNat else none
def atI {α : Type} (xs : List α) (i : Int) : Option α := (ixN xs.length i).bind fun j => xs[j]?
theorem ixN_seq {n : Nat} {i : Int} {j : Nat} (h : ixN n i = some j) : seqIndex? i n = some j ∧ j < n ∧ -(n : Int) ≤ i ∧ i < n := by
  unfold ixN at h
  by_cases h0 : 0 ≤ i
  · rw [if_pos h0] at h
    by_cases h1 : i < n
    · rw [if_pos h1] at h
      have e : i.toNat = j := Option.some.inj h
      exact ⟨by rw [seqIndex_of h0 h1, e], by omega, by omega, h1⟩
    · rw [if_neg h1] at h; cases h
  · rw [if_neg h0] at h
    by_cases h1 : -(n : Int) ≤ i
    · rw [if_pos h1] at h
      have e : (i + n).toNat = j := Option.some.inj h
      exact ⟨by rw [seqIndex_neg (by omega) h1, e], by omega, h1, by omega⟩
    · rw [if_neg h1] at h; cases h
theorem atI_get {α : Type} {xs : List α} {i : Int} {v : α} (h : atI xs i = some v) : ∃ j, seqIndex? i xs.length = some j ∧ xs[j]? = some v ∧ j < xs.length ∧ -(xs.length : Int) ≤ i ∧ i < xs.length := by
  unfold atI at h
  cases e : ixN xs.length i with
  | none => rw [e] at h; cases h
  | some j =>
    rw [e] at h
    obtain ⟨h1, h2, h3, h4⟩ := ixN_seq e
    exact ⟨j, h1, h, h2, h3, h4⟩
theorem atI_nat {α : Type} {xs : List α} {j : Nat} {v : α} (h : xs[j]? = some v) : atI xs (j : Int) = some v := by
  have hj : j < xs.length := (List.getElem?_eq_some_iff.mp h).1
  have e : ixN xs.length (j : Int) = some j := by
    unfold ixN
    rw [if_pos (by omega), if_pos (by omega)]; simp
  unfold atI; rw [e]; exact h
theorem atI_last {α : Type} (xs : List α) (v : α) : atI (xs ++ [v]) (-1) = some v := by
  have hl : (xs ++ [v]).length = xs.length + 1 := by simp
  have e : ixN (xs ++ [v]).length (-1) = some xs.length := by
    unfold ixN
    rw [hl, if_neg (by decide), if_pos (by omega)]
    congr 1
    omega
  unfold atI
  rw [e]
  show (xs ++ [v])[xs.length]? = some v
  simp

/-! ### what may be subscripted -/
/-- what stands as an index of a plain subscript -/
def PlainIx (b : Expr) : Prop := ∀ o i, subscripted b false o i = operate [o, i] (getItem o i)
/-- a subscript by values -/
def IxR (X : Cx) (r : R2) : Prop :=
  ∀ (value slice : Expr) (pins : List (Addr × Obj)) (s : Shared) (σ : St) (H : Hp) (x y : V) (v u : Value) (Q : VK), Inv X pins σ H s → RelV x v → RelV y u → r x y H Q →
    subscripted slice false v u = operate [v, u] (getItem v u) → wpAny (model X.prog X.w) X.A (subscriptTail value slice v u) (EP X pins σ Q) X.xe s
/-- a call of a builtin's method by values: the receiver, the arguments -/
def MtR (X : Cx) (id : String) (r : V → List V → Hp → VK → Prop) : Prop :=
  ∀ (pins : List (Addr × Obj)) (s : Shared) (σ : St) (H : Hp) (x : V) (xs : List V) (v : Value) (us : List Value) (Q : VK), Inv X pins σ H s → RelV x v → Vals xs us → r x xs H Q →
    wpAny (model X.prog X.w) X.A (call (.builtin id) (v :: us)) (EP X pins σ Q) X.xe s
section
variable {X : Cx} {a b : Expr} {ta tb : TE} {pos : Pos}
theorem IxR.or {r r' : R2} (h : IxR X r) (h' : IxR X r') : IxR X (fun x y H Q => r x y H Q ∨ r' x y H Q) := by
  intro value slice pins s σ H x y v u Q I rx ry q hs
  rcases q with q | q
  · exact h value slice pins s σ H x y v u Q I rx ry q hs
  · exact h' value slice pins s σ H x y v u Q I rx ry q hs
theorem MtR.or {id : String} {r r' : V → List V → Hp → VK → Prop} (h : MtR X id r) (h' : MtR X id r') : MtR X id (fun x xs H Q => r x xs H Q ∨ r' x xs H Q) := by
  intro pins s σ H x xs v us Q I rx rs q
  rcases q with q | q
  · exact h pins s σ H x xs v us Q I rx rs q
  · exact h' pins s σ H x xs v us Q I rx rs q
/-- a[b] -/
theorem pe_ix {r : R2} (hr : IxR X r) (ha : PE X a ta) (hb : PE X b tb) (hs : PlainIx b) : PE X (.Subscript a b pos) (tOp r ta tb) := by
  intro pins s σ H Q I h
  exact Subscript_ (binT ha hb I h fun v u s2 x y H2 I2 rx ry q => hr a b pins s2 σ H2 x y v u Q I2 rx ry q (hs _ _))

def rIxL (K : PySem.W.Frag) : R2 := fun x y H Q => ∃ p xs i v, x = .ref p ∧ y = .int i ∧ SqL K H p xs ∧ atI xs i = some v ∧ Q v H
def rIxT (K : PySem.W.Frag) : R2 := fun x y H Q => ∃ p xs i v, x = .ref p ∧ y = .int i ∧ SqT K H p xs ∧ atI xs i = some v ∧ Q v H
def rIxS : R2 := fun x y H Q => ∃ z i c, x = .str z ∧ y = .int i ∧ z.length ≤ sizeLine ∧ atI z.cps.toList i = some c ∧ Q (.str ⟨#[c]⟩) H
theorem ix_list : IxR X (rIxL X.K) := by
  intro value slice pins s σ H x y v u Q I rx ry h hs
  obtain ⟨p, xs, i, z, rfl, rfl, hq, he, q⟩ := h
  cases rx
  obtain ⟨t, rfl⟩ := ry
  obtain ⟨its, r, pl, hz⟩ := I.list hq
  obtain ⟨j, h1, h2, h3, h4, h5⟩ := atI_get he
  obtain ⟨w, ew, rw'⟩ := r.get h2
  have hl := r.length
  have hn := line63
  have fin : EP X pins σ Q w s := ⟨z, H, I, rw', q⟩
  by_cases h0 : 0 ≤ i
  · have hj : i.toNat = j := by
      rw [seqIndex_of h0 h5] at h1
      exact Option.some.inj h1
    exact item_listR pl.isList h0 (by omega) (by rw [hj]; simpa using ew) fin hs
  · have hj : (i + (its.toArray.size : Int)).toNat = j := by
      rw [seqIndex_neg (by omega) h4] at h1
      rw [List.size_toArray, ← hl]
      exact Option.some.inj h1
    exact subscriptTail_builtinR (x := w) pl.isList.typeIs slot_list_getitem.lookup
      (wpAny_getItem_list_neg (Q := fun r s' => r = w ∧ EP X pins σ Q r s') pl.isList (by omega) (by rw [List.size_toArray] <;> omega) (by omega) (by rw [hj]; simpa using ew) ⟨rfl, fin⟩) hs
theorem ix_tup : IxR X (rIxT X.K) := by
  intro value slice pins s σ H x y v u Q I rx ry h hs
  obtain ⟨p, xs, i, z, rfl, rfl, hq, he, q⟩ := h
  cases rx
  obtain ⟨t, rfl⟩ := ry
  obtain ⟨its, r, pl, hz⟩ := I.tuple hq
  obtain ⟨j, h1, h2, h3, h4, h5⟩ := atI_get he
  obtain ⟨w, ew, rw'⟩ := r.get h2
  have hl := r.length
  have hn := line63
  have fin : EP X pins σ Q w s := ⟨z, H, I, rw', q⟩
  exact subscriptTail_builtinR (x := w) pl.typeIs slot_tuple_getitem.lookup
    (getItem_tuple (j := j) (Q := fun r s' => r = w ∧ EP X pins σ Q r s') pl (by omega) (by omega) (by rw [List.size_toArray, ← hl]; exact h1) (by simpa using ew) ⟨rfl, fin⟩) hs
theorem ix_str : IxR X rIxS := by
  intro value slice pins s σ H x y v u Q I rx ry h hs
  obtain ⟨z, i, c, rfl, rfl, hz, he, q⟩ := h
  obtain ⟨t, rfl⟩ := rx
  obtain ⟨t', rfl⟩ := ry
  obtain ⟨j, h1, h2, h3, h4, h5⟩ := atI_get he
  have hl : z.cps.toList.length = z.length := by simp [Str.length]
  rw [hl] at h1 h4 h5
  have hn := line63
  exact tail_any (typeIs_str s z t) slot_str_getitem.lookup (getItem_str (c := c) (by
    have e1 : decide (i < -(2 ^ 63 : Int)) = false := decide_eq_false (by omega)
    have e2 : decide (i ≥ 2 ^ 63) = false := decide_eq_false (by omega)
    rw [e1, e2, Bool.or_false]) (by rw [h1]; simpa using h2) ⟨.str ⟨#[c]⟩, H, I.tok _, ⟨_, rfl⟩, q⟩) hs
/-- list, tuple or str -/
def rIx (K : PySem.W.Frag) : R2 := fun x y H Q => rIxL K x y H Q ∨ rIxT K x y H Q ∨ rIxS x y H Q
theorem ix_seq : IxR X (rIx X.K) := ix_list.or (ix_tup.or ix_str)

/-! ### xs[i] = v, any sign -/
/-- the list's object behind a store -/
theorem mapSeq_set (its : List Value) (n j : Nat) (u : Value) : Obj.mapSeq (·.setIfInBounds j u) { cls := .type "list", data := .seq its.toArray n } = { cls := .type "list", data := .seq (its.set j u).toArray n } := by
  simp [Obj.mapSeq]
theorem Inv.lst {pins : List (Addr × Obj)} {σ : St} {H : Hp} {s : Shared} {p : Addr} {xs : List V} (I : Inv X pins σ H s) (h : H p = some (.lst xs)) :
    ∃ (its : List Value) (n : Nat), Vals xs its ∧ s.heap.get? p = some { cls := .type "list", data := .seq its.toArray n } ∧ xs.length ≤ sizeLine := by
  obtain ⟨z, its, n, r, e⟩ := I.hok p _ h
  exact ⟨its, n, r, e, z⟩
/-- the list at p is written by an update of its object -/
theorem Inv.lstUpd {pins : List (Addr × Obj)} {σ : St} {H : Hp} {s : Shared} {p : Addr} {xs ys : List V} {its its' : List Value} {n n' : Nat} {f : Obj → Obj} (I : Inv X pins σ H s) (h : H p = some (.lst xs))
    (ho : s.heap.get? p = some { cls := .type "list", data := .seq its.toArray n }) (hf : f { cls := .type "list", data := .seq its.toArray n } = { cls := .type "list", data := .seq its'.toArray n' }) (r : Vals ys its') (hz : ys.length ≤ sizeLine) (t : Nat) :
    Inv X pins σ (upd H p (.lst ys)) { s with heap := s.heap.update p f, toks := t } := by
  have e : (s.heap.update p f).get? p = some { cls := .type "list", data := .seq its'.toArray n' } := by
    rw [Heap.get?_update_self f ho (by rw [hf] <;> rfl), hf]
  refine I.write (x := p) (e := p) (by rw [h]; trivial) (.inl rfl) (fun b u hb q => (Heap.get?_update_other _ _ (Ne.symm hb)).trans q) ⟨_, e⟩ ?_
  exact ⟨hz, its', n', r, e⟩
def rSetL : V → V → V → Hp → (Hp → Prop) → Prop := fun o i v H Q => ∃ p xs k j, o = .ref p ∧ i = .int k ∧ H p = some (.lst xs) ∧ ixN xs.length k = some j ∧ Q (upd H p (.lst (xs.set j v)))
theorem set_list : PSet X rSetL := by
  intro pins s σ H o i v ov iv u Q I ro ri rv h
  obtain ⟨p, xs, k, j, rfl, rfl, hp, hj, q⟩ := h
  cases ro
  obtain ⟨t, rfl⟩ := ri
  obtain ⟨its, n, r, ho, hz⟩ := I.lst hp
  obtain ⟨h1, h2, h3, h4⟩ := ixN_seq hj
  have hl := r.length
  have hn := line63
  have I' : Inv X pins σ (upd H p (.lst (xs.set j v))) { s with heap := s.heap.update p (Obj.mapSeq (·.setIfInBounds j u)) } :=
    I.lstUpd hp ho (mapSeq_set its n j u) (r.set rv j) (by rw [List.length_set]; exact hz) s.toks
  by_cases h0 : 0 ≤ k
  · have hk : k.toNat = j := by
      rw [seqIndex_of h0 h4] at h1
      exact Option.some.inj h1
    exact PySem.W.ki_setAt ho h0 (by omega) (by rw [List.size_toArray, ← hl]; exact h4) (by rw [hk]; exact ⟨_, I', q⟩)
  · have hk : (k + (its.toArray.size : Int)).toNat = j := by
      rw [seqIndex_neg (by omega) h3] at h1
      rw [List.size_toArray, ← hl]
      exact Option.some.inj h1
    exact PySem.W.ki_setBack ho (by omega) (by rw [List.size_toArray, ← hl]; exact h3) (by omega) (by rw [hk]; exact ⟨_, I', q⟩)

/-! ### slices -/
theorem slice_bounds (lo hi : Option Int) (n : Nat) : (sliceBounds lo hi none n).1 = ((HT.sIx n 0 lo : Nat) : Int) ∧ (sliceBounds lo hi none n).2.1 = ((HT.sIx n n hi : Nat) : Int) ∧ (sliceBounds lo hi none n).2.2 = 1 := by
  refine ⟨?_, ?_, rfl⟩
  · cases lo with
    | none => simp [sliceBounds, HT.sIx]
    | some i =>
      simp only [sliceBounds, HT.sIx, Option.getD_none, show (1 : Int) > 0 by decide, if_true]
      by_cases h : i < 0
      · simp only [h, if_true] <;> omega
      · simp only [h, if_false] <;> omega
  · cases hi with
    | none => simp [sliceBounds, HT.sIx]
    | some i =>
      simp only [sliceBounds, HT.sIx, Option.getD_none, show (1 : Int) > 0 by decide, if_true]
      by_cases h : i < 0
      · simp only [h, if_true] <;> omega
      · simp only [h, if_false] <;> omega
theorem slicePick_cut (its : List Value) (lo hi : Option Int) : slicePick its.toArray lo hi none = ((its.drop (HT.sIx its.length 0 lo)).take (HT.sIx its.length its.length hi - HT.sIx its.length 0 lo)).toArray := by
  obtain ⟨h1, h2, h3⟩ := slice_bounds lo hi its.toArray.size
  unfold slicePick
  rw [h1, h2, h3]
  simp only [sliceRange_one, pick_run, List.size_toArray] <;> rfl
/-- xs[lo:hi] of a list: a new list -/
def rSlL (K : PySem.W.Frag) : V → Option Int → Option Int → Hp → VK → Prop := fun x lo hi H Q => ∃ a xs, x = .ref a ∧ SqL K H a xs ∧ ∀ p, H p = none → Q (.ref p) (upd H p (.lst (cutV xs lo hi)))
theorem sl_list : SlR X (rSlL X.K) := by
  intro pins s σ H x v vl vu lo hi sl Q I rx hs pl pu h
  obtain ⟨a, xs, rfl, hx, q⟩ := h
  cases rx
  obtain ⟨its, r, ht, hz⟩ := I.list hx
  have hlen := r.length
  refine ⟨"list", _, slot_list_getitem.lookup, ht.isList.typeIs, ?_⟩
  refine wpAny_getItem_list_slice ht.isList hs pl pu .none (by simp) ?_ (by rw [List.size_toArray] <;> omega)
  rw [slicePick_cut, ← hlen]
  refine ⟨.ref s.heap.objs.size, _, I.laid (t' := s.toks) (o := .lst (cutV xs lo hi)) (fun b ob q => Heap.get?_push_of_some _ q) (Nat.le_refl _) ?_, rfl, q _ (I.hok.fresh (Nat.le_refl _))⟩
  exact ⟨Nat.le_trans (cutV_length xs lo hi) hz, _, 0, (r.drop (HT.sIx xs.length 0 lo)).take (HT.sIx xs.length xs.length hi - HT.sIx xs.length 0 lo), Heap.get?_push_size _ rfl⟩

/-! ### in, not in: flat items -/
def flatV : V → Bool
  | .non => true
  | .bl _ => true
  | .int _ => true
  | .str _ => true
  | _ => false
/-- == of flat values -/
def eqV : V → V → Bool
  | .non, .non => true
  | .bl a, .bl b => a == b
  | .bl a, .int b => (if a then 1 else 0) == b
  | .int a, .bl b => a == (if b then 1 else 0)
  | .int a, .int b => a == b
  | .str a, .str b => a == b
  | _, _ => false
theorem eqAt_V {A : Around} {s : Shared} {y x : V} {u v : Value} (ry : RelV y u) (rx : RelV x v) (fy : flatV y = true) (fx : flatV x = true) : SeqAt.EqAt A s u v (eqV y x) := by
  cases y with
  | non =>
    cases ry
    cases x with
    | non => cases rx; exact SeqAt.EqAt.same _
    | bl b => cases rx; exact SeqAt.EqAt.none_bool b
    | int b => obtain ⟨t, rfl⟩ := rx; exact SeqAt.EqAt.none_int b t
    | str b => obtain ⟨t, rfl⟩ := rx; exact SeqAt.EqAt.none_str b t
    | _ => exact absurd (show false = true from fx) Bool.false_ne_true
  | bl a =>
    cases ry
    cases x with
    | non => cases rx; exact SeqAt.EqAt.bool_none a
    | bl b => cases rx; exact SeqAt.EqAt.bool_bool a b
    | int b => obtain ⟨t, rfl⟩ := rx; exact SeqAt.EqAt.bool_int a b t
    | str b => obtain ⟨t, rfl⟩ := rx; exact SeqAt.EqAt.bool_str a b t
    | _ => exact absurd (show false = true from fx) Bool.false_ne_true
  | int a =>
    obtain ⟨t', rfl⟩ := ry
    cases x with
    | non => cases rx; exact SeqAt.EqAt.int_none a t'
    | bl b => cases rx; exact SeqAt.EqAt.int_bool a t' b
    | int b => obtain ⟨t, rfl⟩ := rx; exact SeqAt.EqAt.int_int a t' b t
    | str b => obtain ⟨t, rfl⟩ := rx; exact SeqAt.EqAt.int_str a t' b t
    | _ => exact absurd (show false = true from fx) Bool.false_ne_true
  | str a =>
    obtain ⟨t', rfl⟩ := ry
    cases x with
    | non => cases rx; exact SeqAt.EqAt.str_none a t'
    | bl b => cases rx; exact SeqAt.EqAt.str_bool a t' b
    | int b => obtain ⟨t, rfl⟩ := rx; exact SeqAt.EqAt.str_int a t' b t
    | str b => obtain ⟨t, rfl⟩ := rx; exact SeqAt.EqAt.str_str a t' b t
    | _ => exact absurd (show false = true from fx) Bool.false_ne_true
  | _ => exact absurd (show false = true from fy) Bool.false_ne_true
/-- the items' answers, read off the values (a value's own answer does not lean on its token) -/
def eqU (x : V) (u : Value) : Bool := match u with
  | .none => eqV .non x
  | .bool b => eqV (.bl b) x
  | .int i _ => eqV (.int i) x
  | .str z _ => eqV (.str z) x
  | _ => false
theorem eqU_of {x y : V} {u : Value} (r : RelV y u) (f : flatV y = true) : eqU x u = eqV y x := by
  cases y with
  | non => cases r; rfl
  | bl b => cases r; rfl
  | int i => obtain ⟨t, rfl⟩ := r; rfl
  | str z => obtain ⟨t, rfl⟩ := r; rfl
  | _ => exact absurd (show false = true from f) Bool.false_ne_true
theorem any_eqU {x : V} : ∀ {xs : List V} {us : List Value}, Vals xs us → xs.all flatV = true → us.any (eqU x) = xs.any fun y => eqV y x
  | _, _, .nil, _ => rfl
  | y :: xs, u :: us, .cons r t, f => by
    rw [List.all_cons, Bool.and_eq_true] at f
    rw [List.any_cons, List.any_cons, eqU_of r f.1, any_eqU t f.2]
theorem mem_eqAt {A : Around} {s : Shared} {x : V} {v : Value} (rx : RelV x v) (fx : flatV x = true) : ∀ {xs : List V} {us : List Value}, Vals xs us → xs.all flatV = true → ∀ u ∈ us, SeqAt.EqAt A s u v (eqU x u)
  | _, _, .nil, _ => fun u hu => by cases hu
  | y :: xs, u :: us, .cons r t, f => fun u' hu => by
    rw [List.all_cons, Bool.and_eq_true] at f
    rcases List.mem_cons.mp hu with rfl | hu
    · rw [eqU_of r f.1]; exact eqAt_V r rx f.1 fx
    · exact mem_eqAt rx fx t f.2 u' hu
def inV (x : V) (xs : List V) : Bool := xs.any fun y => eqV y x
/-- x in a list or tuple of flat items -/
def rIn (K : PySem.W.Frag) (neg : Bool) : R2 := fun x y H Q => ∃ p xs, y = .ref p ∧ (SqL K H p xs ∨ SqT K H p xs) ∧ flatV x = true ∧ xs.all flatV = true ∧ Q (.bl (if neg then !inV x xs else inV x xs)) H
theorem op_in_seq : OpR X (compareOp .In) (rIn X.K false) := by
  intro pins s σ H x y v u Q I rx ry h
  obtain ⟨p, xs, rfl, hq, fx, fs, q⟩ := h
  cases ry
  rcases hq with hq | hq
  · obtain ⟨its, r, pl, hz⟩ := I.list hq
    refine SeqAt.in_listAt (eqU x) pl.isList (fun w hw => mem_eqAt rx fx r fs w (by simpa using hw)) ⟨.bl _, H, I, rfl, ?_⟩
    rw [show its.toArray.any (eqU x) = its.any (eqU x) by simp, any_eqU r fs]
    exact q
  · obtain ⟨its, r, pl, hz⟩ := I.tuple hq
    refine SeqAt.in_tupleAt (eqU x) pl (fun w hw => mem_eqAt rx fx r fs w (by simpa using hw)) ⟨.bl _, H, I, rfl, ?_⟩
    rw [show its.toArray.any (eqU x) = its.any (eqU x) by simp, any_eqU r fs]
    exact q
theorem op_notIn_seq : OpR X (compareOp .NotIn) (rIn X.K true) := by
  intro pins s σ H x y v u Q I rx ry h
  obtain ⟨p, xs, rfl, hq, fx, fs, q⟩ := h
  cases ry
  rcases hq with hq | hq
  · obtain ⟨its, r, pl, hz⟩ := I.list hq
    refine SeqAt.notIn_listAt (eqU x) pl.isList (fun w hw => mem_eqAt rx fx r fs w (by simpa using hw)) ⟨.bl _, H, I, rfl, ?_⟩
    rw [show its.toArray.any (eqU x) = its.any (eqU x) by simp, any_eqU r fs]
    exact q
  · obtain ⟨its, r, pl, hz⟩ := I.tuple hq
    refine SeqAt.notIn_tupleAt (eqU x) pl (fun w hw => mem_eqAt rx fx r fs w (by simpa using hw)) ⟨.bl _, H, I, rfl, ?_⟩
    rw [show its.toArray.any (eqU x) = its.any (eqU x) by simp, any_eqU r fs]
    exact q
theorem op_notIn_str : OpR X (compareOp .NotIn) (fun x y H Q => ∃ i j, x = .str i ∧ y = .str j ∧ Q (.bl (!(!(Builtin.Str.occurrences j i 0 j.length 1).isEmpty))) H) := by
  intro pins s σ H x y v u Q I rx ry h
  obtain ⟨i, j, rfl, rfl, q⟩ := h
  obtain ⟨t, rfl⟩ := rx
  obtain ⟨t', rfl⟩ := ry
  exact notIn_str ⟨.bl _, H, I, rfl, q⟩

/-! ### len, list(x), tuple(x) of any list or tuple that is read -/
theorem call_len_seq : CallR X (.builtin "len") (fun xs H Q => ∃ p ys, xs = [.ref p] ∧ (SqL X.K H p ys ∨ SqT X.K H p ys) ∧ Q (.int ys.length) H) := by
  intro pins s σ H xs us Q I r h
  obtain ⟨p, ys, rfl, hq, q⟩ := h
  obtain ⟨u, rfl, rx⟩ := vals1 r
  cases rx
  have hn := line63
  rcases hq with hq | hq
  · obtain ⟨its, r', pl, hz⟩ := I.list hq
    have hlen := r'.length
    exact Calls.call_len_list pl.isList (by simp only [List.size_toArray] <;> omega) ⟨.int ys.length, H, I.tok _, ⟨s.toks + 1, by rw [List.size_toArray, hlen]⟩, q⟩
  · obtain ⟨its, r', pl, hz⟩ := I.tuple hq
    have hlen := r'.length
    exact len_tuple pl (by simp only [List.size_toArray] <;> omega) ⟨.int ys.length, H, I.tok _, ⟨s.toks + 1, by rw [List.size_toArray, hlen]⟩, q⟩
theorem call_len_str : CallR X (.builtin "len") (fun xs H Q => ∃ z, xs = [.str z] ∧ z.length ≤ sizeLine ∧ Q (.int z.length) H) := by
  intro pins s σ H xs us Q I r h
  obtain ⟨z, rfl, hz, q⟩ := h
  obtain ⟨u, rfl, t, rfl⟩ := vals1 r
  have hn := line63
  exact len_str (by omega) ⟨.int z.length, H, I.tok _, ⟨_, rfl⟩, q⟩
theorem CallR.or {f : Value} {r r' : List V → Hp → VK → Prop} (h : CallR X f r) (h' : CallR X f r') : CallR X f (fun xs H Q => r xs H Q ∨ r' xs H Q) := by
  intro pins s σ H xs us Q I rs q
  rcases q with q | q
  · exact h pins s σ H xs us Q I rs q
  · exact h' pins s σ H xs us Q I rs q
theorem call_list_of : CallR X (.type "list") (fun xs H Q => ∃ p ys, xs = [.ref p] ∧ (SqL X.K H p ys ∨ SqT X.K H p ys) ∧ ∀ l, H l = none → Q (.ref l) (upd H l (.lst ys))) := by
  intro pins s σ H xs us Q I r h
  obtain ⟨p, ys, rfl, hq, q⟩ := h
  obtain ⟨u, rfl, rx⟩ := vals1 r
  cases rx
  have fin : ∀ (its : List Value), Vals ys its → ys.length ≤ sizeLine → ∀ (h' : Heap) (c' : Nat), (∀ b o', s.heap.get? b = some o' → h'.get? b = some o') →
      h'.get? s.heap.objs.size = some { cls := .type "list", dict := none, data := .seq its.toArray c', slots := #[] } → EP X pins σ Q (.ref s.heap.objs.size) { s with heap := h' } := fun its r' hz h' c' kp e =>
    ⟨.ref s.heap.objs.size, _, I.laid (t' := s.toks) kp (Nat.le_refl _) (show ObjOk X.prog X.w _ h' _ (.lst ys) from ⟨hz, its, c', r', e⟩), rfl, q _ (I.hok.fresh (Nat.le_refl _))⟩
  rcases hq with hq | hq
  · obtain ⟨its, r', pl, hz⟩ := I.list hq
    have hlen := r'.length
    obtain ⟨o, ho, hc, n, hd⟩ := pl.isList
    exact call_list_seq p (.inl rfl) ho hc hd (fun h' c' kp e => fin its r' hz h' c' kp e) (by simp only [List.size_toArray] <;> omega)
  · obtain ⟨its, r', pl, hz⟩ := I.tuple hq
    have hlen := r'.length
    obtain ⟨o, ho, hc, n, hd⟩ := pl
    exact call_list_seq p (.inr rfl) ho hc hd (fun h' c' kp e => fin its r' hz h' c' kp e) (by simp only [List.size_toArray] <;> omega)
theorem call_tuple_of : CallR X (.type "tuple") (fun xs H Q => ∃ p ys, xs = [.ref p] ∧ ((SqL X.K H p ys ∧ ∀ l, H l = none → Q (.ref l) (upd H l (.tup ys))) ∨ (SqT X.K H p ys ∧ Q (.ref p) H))) := by
  intro pins s σ H xs us Q I r h
  obtain ⟨p, ys, rfl, h⟩ := h
  obtain ⟨u, rfl, rx⟩ := vals1 r
  cases rx
  rcases h with ⟨hq, q⟩ | ⟨hq, q⟩
  · obtain ⟨its, r', pl, hz⟩ := I.list hq
    have hlen := r'.length
    refine call_tuple_list pl.isList (fun h' kp => ?_) (by simp only [List.size_toArray] <;> omega)
    have I1 : Inv X pins σ H { s with heap := h' } := I.kept (t' := s.toks) kp
    have I2 : Inv X pins σ (upd H h'.objs.size (.tup ys)) { s with heap := h'.push { cls := .type "tuple", data := .seq its.toArray } } :=
      I1.laid (t' := s.toks) (fun b o e => Heap.get?_push_of_some _ e) (Nat.le_refl _) (show ObjOk X.prog X.w _ _ _ (.tup ys) from ⟨hz, its, r', IsTup.new _ _⟩)
    exact ⟨.ref h'.objs.size, _, I2, rfl, q _ (I1.hok.fresh (Nat.le_refl _))⟩
  · obtain ⟨its, r', pl, hz⟩ := I.tuple hq
    exact call_tuple_same pl ⟨.ref p, H, I, rfl, q⟩

/-! ### the call of a builtin's method: o.m(..) -/
/-- the value is of that builtin type -/
def tyV (K : PySem.W.Frag) (T : String) (x : V) (H : Hp) : Prop := match x with
  | .str _ => T = "str"
  | .int _ => T = "int"
  | .ref p => (T = "list" ∧ ∃ xs, SqL K H p xs) ∨ (T = "tuple" ∧ ∃ o, K.lookup p = some o ∧ o.cls = .type "tuple" ∧ o.dict = none) ∨
      (T = "dict" ∧ ((∃ kvs, H p = some (.dK kvs)) ∨ ∃ kvs, H p = some (.dT kvs))) ∨ (T = "set" ∧ ∃ S n, H p = some (.set S n))
  | _ => False
theorem tyV_is {pins : List (Addr × Obj)} {σ : St} {H : Hp} {s : Shared} {T : String} {x : V} {v : Value} (I : Inv X pins σ H s) (r : RelV x v) (ty : tyV X.K T x H) :
    s.TypeIs v T ∧ ∀ a, v = .ref a → ∃ ob, s.heap.get? a = some ob ∧ ob.dict = none := by
  cases x with
  | str z =>
    obtain ⟨t, rfl⟩ := r
    cases (show T = "str" from ty)
    exact ⟨typeIs_str s z t, fun _ e => nomatch e⟩
  | int i =>
    obtain ⟨t, rfl⟩ := r
    cases (show T = "int" from ty)
    exact ⟨typeIs_int s i t, fun _ e => nomatch e⟩
  | ref p =>
    cases r
    rcases ty with ⟨rfl, xs, hq⟩ | ⟨rfl, o, hk, hc, hd⟩ | ⟨rfl, hk⟩ | ⟨rfl, S, n, hk⟩
    · obtain ⟨its, _, pl, _⟩ := I.list hq
      refine ⟨pl.isList.typeIs, fun a e => ?_⟩
      cases e
      obtain ⟨o, n, e, c, hd, _⟩ := pl
      exact ⟨o, e, hd⟩
    · refine ⟨⟨o, I.kIn p o hk, hc⟩, fun a e => ?_⟩
      cases e
      exact ⟨o, I.kIn _ o hk, hd⟩
    · have z : ∃ o, s.heap.get? p = some o ∧ o.ExactDict := by
        rcases hk with ⟨kvs, hk⟩ | ⟨kvs, hk⟩
        · obtain ⟨_, _, _, _, o, _, _, e, ex, _⟩ := I.hok p _ hk
          exact ⟨o, e, ex⟩
        · obtain ⟨_, _, _, _, o, _, _, e, ex, _⟩ := I.hok p _ hk
          exact ⟨o, e, ex⟩
      obtain ⟨o, e, ex⟩ := z
      refine ⟨⟨o, e, ex.1⟩, fun a e2 => ?_⟩
      cases e2
      exact ⟨o, e, ex.2.1⟩
    · obtain ⟨o, _, _, _, e, ex, _⟩ := I.hok p _ hk
      refine ⟨⟨o, e, ex.1⟩, fun a e2 => ?_⟩
      cases e2
      exact ⟨o, e, ex.2.1⟩
  | _ => exact False.elim ty
def tBM0 (K : PySem.W.Frag) (T : String) (r : V → List V → Hp → VK → Prop) (to : TE) : TE := fun σ H Q => to σ H fun x H1 => tyV K T x H1 ∧ r x [] H1 Q
def tBM (K : PySem.W.Frag) (T : String) (r : V → List V → Hp → VK → Prop) (to : TE) (t : TA) : TE := fun σ H Q => to σ H fun x H1 => tyV K T x H1 ∧ t σ H1 fun xs H2 => r x xs H2 Q
variable {o e : Expr} {es : List Expr} {to : TE} {t : TA} {name : Str} {apos cpos : Pos} {T id : String} {r : V → List V → Hp → VK → Prop}
theorem pe_bm0 (pa : PlainAttrs T) (slot : Slot T name id) (hty : typeOf (.builtin id) = pure (.type "method_descriptor")) (hm : MtR X id r) (ho : PE X o to)
    (hbase : attributeBase o name X.env (eval o X.env) = eval o X.env := by rfl) (hline : (apos.endLine == cpos.line) = true := by rfl) : PE X (.Call (.Attribute o name apos) [] [] cpos) (tBM0 X.K T r to) := by
  intro pins s σ H Q I h
  refine wpAny_Call_method0_late hbase hline (thn (ho pins s σ H _ I h) fun v s1 ⟨x, H1, I1, r1, ty, q1⟩ => ?_)
  obtain ⟨h1, h2⟩ := tyV_is I1 r1 ty
  exact ⟨T, id, pa, slot, hty, h1, h2, Calls.callWith_builtin rfl (PySem.evalArgs_none (hm pins s1 σ H1 x [] v [] Q I1 r1 .nil q1))⟩
theorem pe_bm (pa : PlainAttrs T) (slot : Slot T name id) (hty : typeOf (.builtin id) = pure (.type "method_descriptor")) (hm : MtR X id r) (ho : PE X o to) (ha : PA X (e :: es) t)
    (hbase : attributeBase o name X.env (eval o X.env) = eval o X.env := by rfl)
    (hfew : ((backTo cpos (starEach (e :: es) X.env)).all (fun x => !x.1) && (backToKw cpos (keywordEach [] X.env)).all (fun x => x.1.isSome)
      && decide ((e :: es).length + ([] : List Keyword).length + (if ([] : List Keyword).isEmpty then 0 else 1) < 30)) = true := by rfl)
    (hline : (apos.endLine == cpos.line) = true := by rfl) (hs : starEach (e :: es) X.env = (false, eval e X.env) :: starEach es X.env := by rfl) (hplain : (backTo cpos (starEach es X.env)).any (·.1) = false := by rfl) :
    PE X (.Call (.Attribute o name apos) (e :: es) [] cpos) (tBM X.K T r to t) := by
  intro pins s σ H Q I h
  refine wpAny_Call_method_late hbase hfew hline rfl (thn (ho pins s σ H _ I h) fun v s1 ⟨x, H1, I1, r1, ty, q1⟩ => ?_)
  obtain ⟨h1, h2⟩ := tyV_is I1 r1 ty
  refine ⟨T, id, pa, slot, hty, h1, h2, ?_⟩
  have hA := ha cpos pins s1 σ H1 _ I1 q1
  rw [hs] at hA ⊢
  refine Calls.callWith_builtin (by show (false || (backTo cpos (starEach es X.env)).any (·.1)) = false; rw [hplain] <;> rfl) (Calls.evalArgs_plain ?_)
  exact thn hA fun us s2 ⟨vs, H2, I2, r2, q2⟩ => hm pins s2 σ H2 x vs v us Q I2 r1 r2 q2
/- xs.append(e), list.index on a module's tuple .. are MtR facts of 06m -/
end
end L2

namespace L2
open PySem PySem.Spec PyProof.Rows

def MtM (X : Cx) (id : String) (r : V → List V → Hp → VK → Prop) : Prop :=
  ∀ (pins : List (Addr × Obj)) (s : Shared) (σ : St) (H : Hp) (x : V) (xs : List V) (v : Value) (us : List Value) (Q : VK), Inv X pins σ H s → RelV x v → Vals xs us → r x xs H Q →
    wpAny (model X.prog X.w) X.A (call (.builtin id) (v :: us)) (EP X pins σ Q) X.xe s

/-! ### lists of values -/
theorem Vals.one : ∀ {x : V} {us : List Value}, Vals [x] us → ∃ u, us = [u] ∧ RelV x u
  | _, _, .cons r .nil => ⟨_, rfl, r⟩
theorem Vals.two : ∀ {x y : V} {us : List Value}, Vals [x, y] us → ∃ u v, us = [u, v] ∧ RelV x u ∧ RelV y v
  | _, _, _, .cons r (.cons q .nil) => ⟨_, _, rfl, r, q⟩
theorem Vals.zero : ∀ {us : List Value}, Vals [] us → us = []
  | _, .nil => rfl
theorem Vals.dropLast {xs : List V} {us : List Value} (h : Vals xs us) : Vals xs.dropLast us.dropLast := by
  induction h with
  | nil => exact .nil
  | cons r t ih =>
    cases t with
    | nil => exact .nil
    | cons q t' => exact .cons r ih
theorem Vals.eraseIdx : ∀ {xs : List V} {us : List Value} (i : Nat), Vals xs us → Vals (xs.eraseIdx i) (us.eraseIdx i)
  | _, _, _, .nil => .nil
  | _, _, 0, .cons _ t => t
  | _, _, i + 1, .cons r t => .cons r (Vals.eraseIdx i t)
theorem Vals.reverse {xs : List V} {us : List Value} (h : Vals xs us) : Vals xs.reverse us.reverse := by
  induction h with
  | nil => exact .nil
  | cons r t ih => rw [List.reverse_cons, List.reverse_cons]; exact Vals.append ih (.cons r .nil)
theorem Vals.rep {xs : List V} {us : List Value} (h : Vals xs us) : ∀ k : Nat, Vals (List.replicate k xs).flatten (List.replicate k us).flatten
  | 0 => .nil
  | k + 1 => by
    rw [List.replicate_succ, List.replicate_succ, List.flatten_cons, List.flatten_cons]
    exact Vals.append h (Vals.rep h k)
theorem erase_last {α : Type} (l : List α) : l.eraseIdx (l.length - 1) = l.dropLast := by
  induction l with
  | nil => rfl
  | cons a r ih =>
    cases r with
    | nil => rfl
    | cons b r =>
      have e : (a :: b :: r).length - 1 = ((b :: r).length - 1) + 1 := by
        have h1 : (a :: b :: r).length = r.length + 2 := rfl
        have h2 : (b :: r).length = r.length + 1 := rfl
        omega
      rw [e, List.eraseIdx_cons_succ, ih]
      all_goals rfl
theorem len_erase {α : Type} : ∀ (l : List α) (i : Nat), (l.eraseIdx i).length ≤ l.length
  | [], _ => Nat.le_refl _
  | _ :: _, 0 => Nat.le_succ _
  | _ :: r, i + 1 => Nat.succ_le_succ (len_erase r i)
theorem foldl_rep (its : List Value) : ∀ (k : Nat) (acc : List Value),
    List.foldl (fun x1 x2 => x1 ++ x2) acc.toArray (List.replicate k its.toArray) = (acc ++ (List.replicate k its).flatten).toArray
  | 0, acc => by simp
  | k + 1, acc => by
    have e : acc.toArray ++ its.toArray = (acc ++ its).toArray := by simp
    have e2 : (acc ++ its) ++ (List.replicate k its).flatten = acc ++ (List.replicate (k + 1) its).flatten := by
      rw [List.replicate_succ, List.flatten_cons, List.append_assoc]
    rw [← e2, ← foldl_rep its k (acc ++ its), ← e, List.replicate_succ, List.foldl_cons]

section
variable {X : Cx} {pins : List (Addr × Obj)} {σ : St} {H : Hp} {s : Shared} {l b : Addr} {xs ys zs : List V}

/-! ### the two steps: a tracked list is rewritten, a new list is laid -/
theorem Inv.lset {its its' : List Value} {n : Nat} {f : Array Value → Array Value} {t' : Nat} (I : Inv X pins σ H s) (hH : H l = some (.lst xs))
    (e : s.heap.get? l = some { cls := .type "list", data := .seq its.toArray n }) (hf : f its.toArray = its'.toArray) (hv : Vals ys its') (hz : ys.length ≤ sizeLine) :
    Inv X pins σ (upd H l (.lst ys)) { s with heap := s.heap.update l (Obj.mapSeq f), toks := t' } := by
  have q := PySem.IsL.update e f
  rw [hf] at q
  refine I.write (x := l) (e := l) (by rw [hH]; exact trivial) (.inl rfl) (fun b' u hb hu => (Heap.get?_update_other s.heap (Obj.mapSeq f) (Ne.symm hb)).trans hu) ⟨_, q⟩ ?_
  exact ⟨hz, its', _, hv, q⟩
theorem Inv.lnew {its : List Value} {t' : Nat} (I : Inv X pins σ H s) (hv : Vals ys its) (hz : ys.length ≤ sizeLine) :
    Inv X pins σ (upd H s.heap.objs.size (.lst ys)) { s with heap := s.heap.push { cls := .type "list", data := .seq its.toArray }, toks := t' } :=
  I.laid (fun _ _ q => Heap.get?_push_of_some _ q) (Nat.le_refl _) ⟨hz, its, 0, hv, Heap.get?_push_size _ rfl⟩
theorem Inv.fresh (I : Inv X pins σ H s) : H s.heap.objs.size = none := I.hok.fresh (Nat.le_refl _)
theorem Inv.lstM (I : Inv X pins σ H s) (hH : H l = some (.lst xs)) : xs.length ≤ sizeLine ∧ ∃ (its : List Value) (n : Nat), Vals xs its ∧ xs.length = its.length ∧ s.heap.get? l = some { cls := .type "list", data := .seq its.toArray n } := by
  obtain ⟨z, its, n, r, e⟩ := I.hok l _ hH
  exact ⟨z, its, n, r, r.length, e⟩

theorem notLongL {n : Nat} (h : n ≤ sizeLine) : Builtin.List.listTooLong n = false := by
  unfold Builtin.List.listTooLong
  exact decide_eq_false (by omega)
end

section
variable {X : Cx}

/-! ### methods -/
def rAppend : V → List V → Hp → VK → Prop := fun x vs H Q => ∃ l xs y, x = .ref l ∧ vs = [y] ∧ H l = some (.lst xs) ∧ xs.length < sizeLine ∧ Q .non (upd H l (.lst (xs ++ [y])))
theorem mt_append : MtM X "list.append" rAppend := by
  intro pins s σ H x vs v us Q I rx rv h
  obtain ⟨l, xs, y, rfl, rfl, hH, hz, q⟩ := h
  cases rx
  obtain ⟨u, rfl, ru⟩ := rv.one
  obtain ⟨z, its, n, r, hl, e⟩ := I.lstM hH
  refine call_meets F.slot_list_append ⟨_, e, rfl⟩ F.entry_list_append (F.args_list_append_2 _ _) (PySem.list_append l its.toArray n u (by rw [List.size_toArray]; omega)) ⟨e, ?_⟩
  refine ⟨.non, _, I.lset (its' := its ++ [u]) hH e (by simp) (r.append (.cons ru .nil)) ?_, rfl, q⟩
  rw [List.length_append, List.length_singleton]
  omega

def rExtend : V → List V → Hp → VK → Prop := fun x vs H Q => ∃ l b xs zs, x = .ref l ∧ vs = [.ref b] ∧ H l = some (.lst xs) ∧ H b = some (.lst zs) ∧ xs.length + zs.length ≤ sizeLine ∧ Q .non (upd H l (.lst (xs ++ zs)))
theorem mt_extend : MtM X "list.extend" rExtend := by
  intro pins s σ H x vs v us Q I rx rv h
  obtain ⟨l, b, xs, zs, rfl, rfl, hH, hB, hz, q⟩ := h
  cases rx
  obtain ⟨u, rfl, ru⟩ := rv.one
  cases ru
  obtain ⟨z, its, n, r, hl, e⟩ := I.lstM hH
  obtain ⟨z2, its2, n2, r2, hl2, e2⟩ := I.lstM hB
  have hsz : its.toArray.size + its2.toArray.size ≤ sizeLine := by rw [List.size_toArray, List.size_toArray]; omega
  have hlong : ¬ (!its.toArray.isEmpty && Builtin.List.listTooLong (its.toArray.size + its2.toArray.size)) = true := by
    rw [notLongL hsz, Bool.and_false]
    exact Bool.false_ne_true
  refine call_meets F.slot_list_extend ⟨_, e, rfl⟩ F.entry_list_extend (F.args_list_extend_2 _ _)
    (AutoSeq1.list_extend_list_list_0 l its.toArray n b its2.toArray n2 hlong (by rw [List.size_toArray]; omega) (by omega)) ⟨e, e2, ?_⟩
  refine ⟨.non, _, I.lset (its' := its ++ its2) hH e (by simp) (r.append r2) ?_, rfl, q⟩
  rw [List.length_append]
  omega

def rPop : V → List V → Hp → VK → Prop := fun x vs H Q => ∃ l xs y, x = .ref l ∧ vs = [] ∧ H l = some (.lst xs) ∧ xs[xs.length - 1]? = some y ∧ Q y (upd H l (.lst xs.dropLast))
theorem mt_pop : MtM X "list.pop" rPop := by
  intro pins s σ H x vs v us Q I rx rv h
  obtain ⟨l, xs, y, rfl, rfl, hH, hy, q⟩ := h
  cases rx
  have hus := rv.zero
  subst hus
  obtain ⟨z, its, n, r, hl, e⟩ := I.lstM hH
  obtain ⟨u, hu, ru⟩ := r.get hy
  have hy' : its.toArray[its.toArray.size - 1]? = some u := by
    show its.toArray[its.length - 1]? = some u
    rw [← Array.getElem?_toList, ← hl]
    exact hu
  refine call_meets F.slot_list_pop ⟨_, e, rfl⟩ F.entry_list_pop (F.args_list_pop_1 _) (MeetsSeq.list_pop_last l its.toArray n u hy' (by rw [List.size_toArray]; omega)) ⟨e, ?_⟩
  refine ⟨y, _, I.lset (its' := its.dropLast) hH e ?_ r.dropLast ?_, ru, q⟩
  · show its.toArray.eraseIdxIfInBounds (its.toArray.size - 1) = its.dropLast.toArray
    rw [List.size_toArray, List.eraseIdxIfInBounds_toArray, erase_last]
  · rw [List.length_dropLast]
    omega

def rPopAt : V → List V → Hp → VK → Prop := fun x vs H Q => ∃ l xs i k y, x = .ref l ∧ vs = [.int i] ∧ H l = some (.lst xs) ∧ -(2 ^ 63) ≤ i ∧ i < 2 ^ 63 ∧ seqIndex? i xs.length = some k ∧ xs[k]? = some y ∧ Q y (upd H l (.lst (xs.eraseIdx k)))
theorem mt_popAt : MtM X "list.pop" rPopAt := by
  intro pins s σ H x vs v us Q I rx rv h
  obtain ⟨l, xs, i, k, y, rfl, rfl, hH, h1, h2, hk, hy, q⟩ := h
  cases rx
  obtain ⟨u, rfl, ru⟩ := rv.one
  obtain ⟨t, rfl⟩ := ru
  obtain ⟨z, its, n, r, hl, e⟩ := I.lstM hH
  obtain ⟨w, hw, rw'⟩ := r.get hy
  refine call_meets F.slot_list_pop ⟨_, e, rfl⟩ F.entry_list_pop (F.args_list_pop_2 _ _)
    (MeetsSeq.list_pop_at l its.toArray n i t k w (fitsIndex_both h1 h2) (by rw [List.size_toArray, ← hl]; exact hk) (by rw [← Array.getElem?_toList]; exact hw) (by rw [List.size_toArray]; omega)) ⟨e, ?_⟩
  refine ⟨y, _, I.lset (its' := its.eraseIdx k) hH e ?_ (r.eraseIdx k) ?_, rw', q⟩
  · show its.toArray.eraseIdxIfInBounds k = (its.eraseIdx k).toArray
    rw [List.eraseIdxIfInBounds_toArray]
  · have := len_erase xs k
    omega

def rReverse : V → List V → Hp → VK → Prop := fun x vs H Q => ∃ l xs, x = .ref l ∧ vs = [] ∧ H l = some (.lst xs) ∧ Q .non (upd H l (.lst xs.reverse))
theorem mt_reverse : MtM X "list.reverse" rReverse := by
  intro pins s σ H x vs v us Q I rx rv h
  obtain ⟨l, xs, rfl, rfl, hH, q⟩ := h
  cases rx
  have hus := rv.zero
  subst hus
  obtain ⟨z, its, n, r, hl, e⟩ := I.lstM hH
  refine call_meets F.slot_list_reverse ⟨_, e, rfl⟩ F.entry_list_reverse (F.args_list_reverse_1 _) (AutoSeq1.list_reverse_list_0 l its.toArray n (by rw [List.size_toArray]; omega)) ⟨e, ?_⟩
  refine ⟨.non, _, I.lset (its' := its.reverse) hH e (by simp) r.reverse ?_, rfl, q⟩
  rw [List.length_reverse]
  omega

def rClear : V → List V → Hp → VK → Prop := fun x vs H Q => ∃ l xs, x = .ref l ∧ vs = [] ∧ H l = some (.lst xs) ∧ Q .non (upd H l (.lst []))
theorem mt_clear : MtM X "list.clear" rClear := by
  intro pins s σ H x vs v us Q I rx rv h
  obtain ⟨l, xs, rfl, rfl, hH, q⟩ := h
  cases rx
  have hus := rv.zero
  subst hus
  obtain ⟨z, its, n, r, hl, e⟩ := I.lstM hH
  refine call_meets F.slot_list_clear ⟨_, e, rfl⟩ F.entry_list_clear (F.args_list_clear_1 _) (AutoSeq1.list_clear_list_0 l its.toArray n (by rw [List.size_toArray]; omega)) ⟨e, ?_⟩
  exact ⟨.non, _, I.lset (its' := []) (ys := []) hH e rfl .nil (Nat.zero_le _), rfl, q⟩

/-! ### list + list, list += list, list * int -/
def rCat : R2 := fun x y H Q => ∃ l b xs zs, x = .ref l ∧ y = .ref b ∧ H l = some (.lst xs) ∧ H b = some (.lst zs) ∧ xs.length + zs.length ≤ sizeLine ∧ ∀ p, H p = none → Q (.ref p) (upd H p (.lst (xs ++ zs)))
theorem op_cat : OpR X (binaryOp .Add) rCat := by
  intro pins s σ H x y v u Q I rx ry h
  obtain ⟨l, b, xs, zs, rfl, rfl, hH, hB, hz, q⟩ := h
  cases rx
  cases ry
  obtain ⟨z, its, n, r, hl, e⟩ := I.lstM hH
  obtain ⟨z2, its2, n2, r2, hl2, e2⟩ := I.lstM hB
  refine PySem.P.add_list e e2 ?_ (by rw [List.size_toArray, List.size_toArray]; omega)
  have ea : its.toArray ++ its2.toArray = (its ++ its2).toArray := by simp
  rw [ea]
  exact ⟨.ref _, _, I.lnew (t' := s.toks) (r.append r2) (by rw [List.length_append]; omega), rfl, q _ I.fresh⟩
/-- a list times an int (a negative one is nothing) -/
def rRep : R2 := fun x y H Q => ∃ l k xs, x = .ref l ∧ y = .int k ∧ H l = some (.lst xs) ∧ -(2 ^ 63) ≤ k ∧ k < 2 ^ 63 ∧ xs.length * k.toNat ≤ sizeLine ∧
  ∀ p, H p = none → Q (.ref p) (upd H p (.lst (List.replicate k.toNat xs).flatten))
theorem len_rep {α : Type} (xs : List α) (k : Nat) : (List.replicate k xs).flatten.length = k * xs.length := by
  induction k with
  | zero => simp
  | succ k ih => rw [List.replicate_succ, List.flatten_cons, List.length_append, ih, Nat.succ_mul, Nat.add_comm]
theorem op_rep : OpR X (binaryOp .Mult) rRep := by
  intro pins s σ H x y v u Q I rx ry h
  obtain ⟨l, k, xs, rfl, rfl, hH, h1, h2, hz, q⟩ := h
  cases rx
  obtain ⟨t, rfl⟩ := ry
  obtain ⟨z, its, n, r, hl, e⟩ := I.lstM hH
  have hlen : its.toArray.size * k.toNat ≤ sizeLine := by rw [List.size_toArray, ← hl]; exact hz
  have hcap : ¬ its.toArray.size * k.toNat > (2 ^ 63 - 1) / 8 := by
    have : (sizeLine : Nat) ≤ (2 ^ 63 - 1) / 8 := by decide
    omega
  have hfit : ¬ (!Builtin.List.listFitsIndex k) = true := by
    rw [fitsIndex_both h1 h2]
    exact Bool.false_ne_true
  have hlong : ¬ Builtin.List.listTooLong (its.toArray.size * k.toNat) = true := by
    rw [notLongL hlen]
    exact Bool.false_ne_true
  have hnew : List.foldl (fun x1 x2 => x1 ++ x2) #[] (List.replicate (if its.toArray.isEmpty = true then 0 else k.toNat) its.toArray) = (List.replicate k.toNat its).flatten.toArray := by
    have f0 : ∀ m : Nat, List.foldl (fun x1 x2 => x1 ++ x2) #[] (List.replicate m its.toArray) = (List.replicate m its).flatten.toArray := fun m => by
      have := foldl_rep its m []
      rw [List.nil_append] at this
      exact this
    rw [f0]
    cases its with
    | nil => simp
    | cons a r' => rw [if_neg (by simp)]
  refine wpAny_binaryOp_repeat_ref (T := "list") (U := "int") (by decide) ⟨_, e, rfl⟩ (fun s' => typeIs_int s' k t) noFill_list_mul F.fills_int_mul F.slot_int_rmul repeat_list F.slot_int_index.lookup
    (call_meets F.slot_int_rmul (typeIs_int s k t) F.entry_int_rmul (F.args_int_rmul_2 _ _) (int___rmul___int_list k t l its.toArray n)
      ⟨e, rfl, ⟨_, e, rfl⟩, call_meets F.slot_list_mul ⟨_, e, rfl⟩ F.entry_list_mul (F.args_list_mul_2 _ _) (AutoListH.list___mul___list_int_3 l its.toArray n k t hfit hcap hlong) ⟨e, ?_⟩⟩)
  rw [hnew]
  exact ⟨.ref _, _, I.lnew (t' := s.toks) (r.rep k.toNat) (by rw [len_rep, Nat.mul_comm]; exact hz), rfl, q _ I.fresh⟩

/-! ### del xs[i] -/
theorem del_list {pins : List (Addr × Obj)} {s : Shared} {σ : St} {H : Hp} {l : Addr} {xs : List V} {i : Int} {t : Tok} {k : Nat} {Q : Unit → Shared → Prop} (I : Inv X pins σ H s) (hH : H l = some (.lst xs))
    (h1 : -(2 ^ 63) ≤ i) (h2 : i < 2 ^ 63) (hk : seqIndex? i xs.length = some k) (h : ∀ s', Inv X pins σ (upd H l (.lst (xs.eraseIdx k))) s' → Q () s') :
    wpAny (model X.prog X.w) X.A (delItem (.ref l) (.int i t)) Q X.xe s := by
  obtain ⟨z, its, n, r, hl, e⟩ := I.lstM hH
  refine PySem.P.delItem_list (k := k) e (fitsIndex_both h1 h2) (by rw [List.size_toArray, ← hl]; exact hk) (h _ ?_) (by rw [List.size_toArray]; omega)
  refine I.lset (its' := its.eraseIdx k) (t' := s.toks) hH e ?_ (r.eraseIdx k) ?_
  · show its.toArray.eraseIdxIfInBounds k = (its.eraseIdx k).toArray
    rw [List.eraseIdxIfInBounds_toArray]
  · have := len_erase xs k
    omega
end

/-! ### xs[a:b] = ys -/
section
variable {prog : Program} {w : World} {A : Around} {E : Value → Shared → Prop} {s : Shared}
theorem splice_eq (its its2 : List Value) (a c : Nat) : its.toArray.extract 0 a ++ its2.toArray ++ its.toArray.extract c its.toArray.size = (its.take a ++ its2 ++ its.drop c).toArray := by
  apply Array.toList_inj.mp
  first
    | (simp
       exact List.take_of_length_le (by simp))
    | simp [List.take_of_length_le]
    | simp
theorem bounds_run {a c n : Nat} (hac : a ≤ c) (hc : c ≤ n) : sliceBounds (some (a : Int)) (some (c : Int)) none n = ((a : Int), (c : Int), 1) := by
  simp only [sliceBounds, Option.getD_none]
  have h1 : ¬ ((a : Int) < 0) := by omega
  have h2 : ¬ ((c : Int) < 0) := by omega
  simp only [h1, h2, if_false, show (1 : Int) > 0 by decide, if_true]
  congr 1
  · omega
  · congr 1; omega
set_option maxRecDepth 100000 in
/-- list.__setitem__ with a slice of step one and another list -/
theorem setItem_slice {l b sl : Addr} {items new : Array Value} {n n2 : Nat} {vl vu : Value} {a c : Nat} {Q : Unit → Shared → Prop}
    (e : s.heap.get? l = some { cls := .type "list", data := .seq items n }) (e2 : s.heap.get? b = some { cls := .type "list", data := .seq new n2 }) (hne : l ≠ b)
    (hs : s.heap.IsSliceOf sl vl vu .none) (pl : IsPart vl (some (a : Int))) (pu : IsPart vu (some (c : Int))) (hac : a ≤ c) (hc : c ≤ items.size)
    (hsz : items.size + new.size ≤ sizeLine) (h : Q () { s with heap := s.heap.update l (Obj.mapSeq fun xs => xs.extract 0 a ++ new ++ xs.extract c xs.size) }) :
    wpAny (model prog w) A (setItem (.ref l) (.ref sl) (.ref b)) Q E s := by
  have hl : s.heap.IsList l items := PySem.IsL.isList e
  have hb : s.heap.IsList b new := PySem.IsL.isList e2
  obtain ⟨os, hos, hcs, hds⟩ := id hs
  have hTs : s.TypeIs (.ref sl) "slice" := ⟨os, hos, hcs⟩
  have hstep : ¬ ((rawPart none == rawInt 0) = true) := Bool.false_ne_true
  have hsame : Builtin.List.listSameRef (.ref l) (.ref b) = false := by
    unfold Builtin.List.listSameRef
    exact beq_eq_false_iff_ne.mpr hne
  have hmax : (max (a : Int) (c : Int)).toNat = c := by omega
  have hz' : ((fun xs : Array Value => xs.extract 0 a ++ new ++ xs.extract c xs.size) items).size ≤ sizeLine + 1 := by
    simp only [Array.size_append, Array.size_extract]
    omega
  unfold setItem
  try with_reducible refine wpAny_holding ?_
  first | refine wpAny_bind (wpAny_pure ?_) | skip
  refine wpAny_bind (wpAny_sequenceKey hl.typeIs (by decide) ?_)
  refine wpAny_bind (wpAny_callSpecial?_slot (name := Str.ofString "__setitem__") hl.typeIs slot_list_setitem
    (wpAny_call_entry slot_list_setitem hl.typeIs entry_list_setitem ?_ (args_list_setitem _ _ _)))
  show wpAny _ _ (Builtin.List.listSubscript? (.ref sl) >>= _) _ _ s
  refine wpAny_bind ?_
  unfold Builtin.List.listSubscript?
  refine wpAny_bind (wpAny_specialOf hTs slice_no_index ?_)
  simp only [Option.isNone_none, if_true]
  refine wpAny_pure ?_
  show wpAny _ _ (typeOf (.ref sl) >>= _) _ _ s
  refine wpAny_bind (wpAny_typeOf hTs ?_)
  first
    | rw [if_neg (by decide)]
    | refine PySem.W.KFB.if_not (by decide) ?_
  rw [listSliceParts_eq]
  refine wpAny_bind (wpAny_bind (wpAny_field hos hds (x := .none) rfl (wpAny_bind (wpAny_listPart .none ?_))))
  rw [if_neg hstep]
  refine wpAny_bind (wpAny_field hos hds (x := vl) rfl (wpAny_bind (wpAny_listPart pl ?_)))
  refine wpAny_bind (wpAny_field hos hds (x := vu) rfl (wpAny_bind (wpAny_listPart pu (wpAny_pure ?_))))
  first
    | simp only [hsame, Bool.false_eq_true, if_false]
    | refine PySem.W.KFB.if_not hsame ?_
    | (dsimp only
       rw [if_neg (by rw [hsame]; exact Bool.false_ne_true)])
  refine wpAny_bind (m := Builtin.List.listAllItems (.ref b) "must assign iterable to extended slice") ?_
  unfold Builtin.List.listAllItems
  refine wpAny_bind (wpAny_typeOf hb.typeIs ?_)
  first
    | refine PySem.W.KFB.if_so (by decide) ?_
    | rw [if_pos (by decide)]
    | simp only [beq_self_eq_true, Bool.true_or, if_true]
  unfold Builtin.List.listItems
  refine wpAny_bind (wpAny_seqItems e2 rfl (wpAny_pure ?_))
  refine wpAny_bind (wpAny_bind (wpAny_seqItems e rfl (wpAny_pure ?_)))
  refine wpAny_bind (wpAny_of_eq ((sliceIndices_raw (some (a : Int)) (some (c : Int)) none items.size (by simp)).trans (congrArg (pure : Int × Int × Int → Sem (Int × Int × Int)) (bounds_run hac hc))) ?_)
  show wpAny _ _ (if ((1 : Int) == 1) = true then _ else _) _ _ s
  rw [if_pos (by decide)]
  refine wpAny_bind (wpAny_rule ?_)
  first
    | simp only [notLongL hsz, Bool.false_eq_true, if_false]
    | refine PySem.W.KFB.if_not (notLongL hsz) ?_
  first | refine wpAny_bind (wpAny_pure ?_) | skip
  show wpAny _ _ (updateSeq l (fun xs => xs.extract 0 ((a : Int)).toNat ++ new ++ xs.extract (max (a : Int) (c : Int)).toNat xs.size) >>= _) _ _ s
  rw [hmax, Int.toNat_natCast]
  refine wpAny_bind (wpAny_updateSeq (hz := Nat.le_trans (Nat.le_add_right _ _) hsz) (_hz' := hz') e rfl ?_)
  refine wpAny_bind (wpAny_letGo ?_)
  first
    | exact wpAny_bind (wpAny_pure (wpAny_pure ⟨.none, rfl, wpAny_pure h⟩))
    | exact wpAny_pure ⟨.none, rfl, wpAny_pure h⟩
end

section
variable {X : Cx}
/-- xs[a:c] = ys of another list, at the value level: sl is the slice object that was just made -/
theorem set_slice {pins : List (Addr × Obj)} {s : Shared} {σ : St} {H : Hp} {l b sl : Addr} {xs ys : List V} {a c : Int} {vl vu : Value} {Q : Unit → Shared → Prop} (I : Inv X pins σ H s)
    (hH : H l = some (.lst xs)) (hB : H b = some (.lst ys)) (hne : l ≠ b) (hs : s.heap.IsSliceOf sl vl vu .none) (ra : RelV (.int a) vl) (rc : RelV (.int c) vu) (h0 : 0 ≤ a) (hac : a ≤ c) (hc : c ≤ xs.length)
    (hz : xs.length + ys.length ≤ sizeLine) (h : ∀ s', Inv X pins σ (upd H l (.lst (xs.take a.toNat ++ ys ++ xs.drop c.toNat))) s' → Q () s') :
    wpAny (model X.prog X.w) X.A (setItem (.ref l) (.ref sl) (.ref b)) Q X.xe s := by
  obtain ⟨ta, rfl⟩ := ra
  obtain ⟨tc, rfl⟩ := rc
  obtain ⟨z, its, n, r, hl, e⟩ := I.lstM hH
  obtain ⟨z2, its2, n2, r2, hl2, e2⟩ := I.lstM hB
  obtain ⟨a', rfl⟩ := Int.eq_ofNat_of_zero_le h0
  obtain ⟨c', rfl⟩ := Int.eq_ofNat_of_zero_le (Int.le_trans h0 hac)
  simp only [Int.toNat_natCast] at h
  refine setItem_slice (a := a') (c := c') e e2 hne hs (.int _ _) (.int _ _) (by omega) (by rw [List.size_toArray]; omega) (by rw [List.size_toArray, List.size_toArray]; omega) (h _ ?_)
  refine I.lset (its' := its.take a' ++ its2 ++ its.drop c') (t' := s.toks) hH e ?_ (Vals.append (Vals.append (r.take _) r2) (r.drop _)) ?_
  · exact splice_eq its its2 a' c'
  · rw [List.length_append, List.length_append, List.length_take, List.length_drop]
    omega
end
end L2

namespace L2
open PySem PySem.Spec PyProof.Rows

theorem Vals.ints : ∀ {ns : List Int} {us : List Value}, Vals (ns.map V.int) us → IntsAre us ns
  | [], us, h => by
    rw [List.map_nil] at h
    cases h
    exact IntsAre.nil
  | n :: ns, us, h => by
    rw [List.map_cons] at h
    cases h with
    | cons r t =>
      obtain ⟨k, rfl⟩ := r
      exact IntsAre.cons n k (Vals.ints t)
theorem vals_of_ints : ∀ {us : List Value} {ns : List Int}, IntsAre us ns → Vals (ns.map V.int) us
  | _, _, .nil => by rw [List.map_nil]; exact Paired.nil
  | _, _, .cons n t h => by rw [List.map_cons]; exact Paired.cons (show RelV (V.int n) (Value.int n t) from ⟨t, rfl⟩) (vals_of_ints h)
theorem Vals.strs : ∀ {xs : List Str} {us : List Value}, Vals (xs.map V.str) us → StrsAre us xs
  | [], us, h => by
    rw [List.map_nil] at h
    cases h
    exact StrsAre.nil
  | x :: xs, us, h => by
    rw [List.map_cons] at h
    cases h with
    | cons r t =>
      obtain ⟨k, rfl⟩ := r
      exact StrsAre.cons x k (Vals.strs t)
theorem vals_of_strs : ∀ {us : List Value} {xs : List Str}, StrsAre us xs → Vals (xs.map V.str) us
  | _, _, .nil => by rw [List.map_nil]; exact Paired.nil
  | _, _, .cons x t h => by rw [List.map_cons]; exact Paired.cons (show RelV (V.str x) (Value.str x t) from ⟨t, rfl⟩) (vals_of_strs h)
theorem Vals.bls : ∀ {bs : List Bool} {us : List Value}, Vals (bs.map V.bl) us → us = bs.map Value.bool
  | [], us, h => by
    rw [List.map_nil] at h
    cases h
    rfl
  | b :: bs, us, h => by
    rw [List.map_cons] at h
    cases h with
    | cons r t =>
      cases r
      rw [Vals.bls t, List.map_cons]
theorem Vals.ref1 {a : Addr} {us : List Value} (r : Vals [V.ref a] us) : us = [Value.ref a] := by
  cases r with
  | cons r t =>
    cases t
    cases r
    rfl
theorem Vals.int2 {i j : Int} {us : List Value} (r : Vals [V.int i, V.int j] us) : ∃ t u, us = [Value.int i t, Value.int j u] := by
  cases r with
  | cons r t =>
    cases t with
    | cons r2 t2 =>
      cases t2
      obtain ⟨t, rfl⟩ := r
      obtain ⟨u, rfl⟩ := r2
      exact ⟨t, u, rfl⟩

/-! ### the library's walks over a list of ints, kept objects alone -/
section
variable {prog : Program} {w : World} {A : Around} {E : Value → Shared → Prop} {s : Shared} {l : Addr} {its : List Value} {ns : List Int} {Q : Value → Shared → Prop}
theorem sum_raw (hh : A.handled = none) (hl : s.heap.IsList l its.toArray) (hi : IntsAre its ns)
    (h : ∀ h' tk t', (∀ b o, s.heap.get? b = some o → h'.get? b = some o) → Q (.int ns.sum t') { s with heap := h', toks := tk }) : wpAny (model prog w) A (call (.builtin "sum") [.ref l]) Q E s := by
  obtain ⟨xs, e⟩ := hi.allInts.items
  have hn : numsOf (intItems xs).toList = ns := by rw [← e]; exact hi.numsOf
  rw [nums_intItems] at hn
  rw [e] at hl
  refine PySem.sum_intListG hh hl fun h' tk t' hk => ?_
  have := h h' tk t' hk
  rw [preSum_eq, List.take_of_length_le (by simp), hn]; exact this
theorem max_raw (hh : A.handled = none) (hl : s.heap.IsList l its.toArray) (hi : IntsAre its ns) (hne : 0 < ns.length)
    (h : ∀ h' tk M t', (∀ b o, s.heap.get? b = some o → h'.get? b = some o) → M ∈ ns → (∀ a, a ∈ ns → a ≤ M) → Q (.int M t') { s with heap := h', toks := tk }) : wpAny (model prog w) A (call (.builtin "max") [.ref l]) Q E s := by
  obtain ⟨xs, e⟩ := hi.allInts.items
  have hn : numsOf (intItems xs).toList = ns := by rw [← e]; exact hi.numsOf
  rw [nums_intItems] at hn
  subst hn
  rw [e] at hl
  have hsz : 0 < xs.size := by simpa using hne
  refine PySem.max_intList hh hl hsz fun v h' tk hv hk => ?_
  obtain ⟨t, rfl⟩ := intItems_at hv
  obtain ⟨h1, h2⟩ := argBest_gt (numAt xs) (xs.size - 1)
  refine h h' tk _ t hk ?_ fun a ha => ?_
  · rw [numAt_eq]; exact PySem.getD_mem (by rw [List.length_map, Array.length_toList]; omega)
  · obtain ⟨j, hj, rfl⟩ := mem_getD ha
    rw [List.length_map, Array.length_toList] at hj
    rw [← numAt_eq]; exact h2 j (by omega)
theorem min_raw (hh : A.handled = none) (hl : s.heap.IsList l its.toArray) (hi : IntsAre its ns) (hne : 0 < ns.length)
    (h : ∀ h' tk M t', (∀ b o, s.heap.get? b = some o → h'.get? b = some o) → M ∈ ns → (∀ a, a ∈ ns → M ≤ a) → Q (.int M t') { s with heap := h', toks := tk }) : wpAny (model prog w) A (call (.builtin "min") [.ref l]) Q E s := by
  obtain ⟨xs, e⟩ := hi.allInts.items
  have hn : numsOf (intItems xs).toList = ns := by rw [← e]; exact hi.numsOf
  rw [nums_intItems] at hn
  subst hn
  rw [e] at hl
  have hsz : 0 < xs.size := by simpa using hne
  refine PySem.min_intList hh hl hsz fun v h' tk hv hk => ?_
  obtain ⟨t, rfl⟩ := intItems_at hv
  obtain ⟨h1, h2⟩ := argBest_lt (numAt xs) (xs.size - 1)
  refine h h' tk _ t hk ?_ fun a ha => ?_
  · rw [numAt_eq]; exact PySem.getD_mem (by rw [List.length_map, Array.length_toList]; omega)
  · obtain ⟨j, hj, rfl⟩ := mem_getD ha
    rw [List.length_map, Array.length_toList] at hj
    rw [← numAt_eq]; exact h2 j (by omega)
end

/-! ### the calls, by values (CallR of 03t; MtR of 06l) -/
section
variable {X : Cx}
/-- sum(xs) of a list of ints -/
def rSum (K : PySem.W.Frag) : List V → Hp → VK → Prop := fun vs H Q => ∃ (a : Addr) (ns : List Int), vs = [V.ref a] ∧ SqL K H a (ns.map V.int) ∧ Q (.int ns.sum) H
/-- max(xs), min(xs) of a list of ints -/
def rMax (K : PySem.W.Frag) : List V → Hp → VK → Prop := fun vs H Q => ∃ (a : Addr) (ns : List Int), vs = [V.ref a] ∧ SqL K H a (ns.map V.int) ∧ 0 < ns.length ∧ ∀ m, m ∈ ns → (∀ y, y ∈ ns → y ≤ m) → Q (.int m) H
def rMin (K : PySem.W.Frag) : List V → Hp → VK → Prop := fun vs H Q => ∃ (a : Addr) (ns : List Int), vs = [V.ref a] ∧ SqL K H a (ns.map V.int) ∧ 0 < ns.length ∧ ∀ m, m ∈ ns → (∀ y, y ∈ ns → m ≤ y) → Q (.int m) H
theorem cr_sum (hc : X.calm = true) : CallR X (.builtin "sum") (rSum X.K) := by
  intro pins s σ H vs us Q I r h
  obtain ⟨a, ns, rfl, hs, q⟩ := h
  obtain ⟨its, rv, hl, _⟩ := I.list hs
  rw [Vals.ref1 r]
  exact sum_raw (I.ok.hd hc) hl.isList rv.ints fun h' tk t' hk => ⟨.int _, H, I.kept hk, ⟨_, rfl⟩, q⟩
theorem cr_max (hc : X.calm = true) : CallR X (.builtin "max") (rMax X.K) := by
  intro pins s σ H vs us Q I r h
  obtain ⟨a, ns, rfl, hs, hne, q⟩ := h
  obtain ⟨its, rv, hl, _⟩ := I.list hs
  rw [Vals.ref1 r]
  exact max_raw (I.ok.hd hc) hl.isList rv.ints hne fun h' tk m t' hk h1 h2 => ⟨.int _, H, I.kept hk, ⟨_, rfl⟩, q m h1 h2⟩
theorem cr_min (hc : X.calm = true) : CallR X (.builtin "min") (rMin X.K) := by
  intro pins s σ H vs us Q I r h
  obtain ⟨a, ns, rfl, hs, hne, q⟩ := h
  obtain ⟨its, rv, hl, _⟩ := I.list hs
  rw [Vals.ref1 r]
  exact min_raw (I.ok.hd hc) hl.isList rv.ints hne fun h' tk m t' hk h1 h2 => ⟨.int _, H, I.kept hk, ⟨_, rfl⟩, q m h1 h2⟩

/-! sorted, sort (fewer than 64 items: the library's own bound) -/
def rSorted (K : PySem.W.Frag) : List V → Hp → VK → Prop := fun vs H Q => ∃ (a : Addr) (ns : List Int), vs = [V.ref a] ∧ SqL K H a (ns.map V.int) ∧ ns.length < 64 ∧
  ∀ (ns' : List Int) (p : Addr), ns'.Perm ns → ns'.Pairwise (· ≤ ·) → H p = none → Q (.ref p) (upd H p (.lst (ns'.map V.int)))
def rSortedS (K : PySem.W.Frag) : List V → Hp → VK → Prop := fun vs H Q => ∃ (a : Addr) (xs : List Str), vs = [V.ref a] ∧ SqL K H a (xs.map V.str) ∧ xs.length < 64 ∧
  ∀ (ys : List Str) (p : Addr), ys.Perm xs → sortedS ys = true → H p = none → Q (.ref p) (upd H p (.lst (ys.map V.str)))
theorem small64 {n : Nat} (h : n < 64) : n ≤ sizeLine := by rw [sizeLine_eq]; omega
theorem cr_sorted : CallR X (.builtin "sorted") (rSorted X.K) := by
  intro pins s σ H vs us Q I r h
  obtain ⟨a, ns, rfl, hs, h64, q⟩ := h
  obtain ⟨its, rv, hl, _⟩ := I.list hs
  rw [Vals.ref1 r]
  have hi := rv.ints
  refine PyProof.Rows.sorted_ints hl.isList hi (by rw [hi.length]; exact h64) fun out ns' h1 h2 h3 => ?_
  obtain ⟨ep, he'⟩ := PyProof.Rows.sortedAll_at s.heap its out
  have hlen : (ns'.map V.int).length ≤ sizeLine := by rw [List.length_map, h2.length_eq]; exact small64 h64
  exact ⟨.ref _, upd H (s.heap.objs.size + 1) (.lst (ns'.map V.int)), I.laid (t' := s.toks) (fun _ _ => PyProof.Rows.sortedAll_old) (Nat.le_succ _) ⟨hlen, out.toList, ep, vals_of_ints h1, he'⟩, rfl, q ns' _ h2 h3 (I.hok.fresh (Nat.le_succ _))⟩
theorem cr_sortedS : CallR X (.builtin "sorted") (rSortedS X.K) := by
  intro pins s σ H vs us Q I r h
  obtain ⟨a, xs, rfl, hs, h64, q⟩ := h
  obtain ⟨its, rv, hl, _⟩ := I.list hs
  rw [Vals.ref1 r]
  have hlen0 := rv.length
  rw [List.length_map] at hlen0
  refine PyProof.Rows.sorted_strs hl.isList rv.strs (by rw [← hlen0]; exact h64) fun out ys h1 h2 h3 => ?_
  obtain ⟨ep, he'⟩ := PyProof.Rows.sortedAll_at s.heap its out
  have hlen : (ys.map V.str).length ≤ sizeLine := by rw [List.length_map, h2.length_eq]; exact small64 h64
  exact ⟨.ref _, upd H (s.heap.objs.size + 1) (.lst (ys.map V.str)), I.laid (t' := s.toks) (fun _ _ => PyProof.Rows.sortedAll_old) (Nat.le_succ _) ⟨hlen, out.toList, ep, vals_of_strs h1, he'⟩, rfl, q ys _ h2 h3 (I.hok.fresh (Nat.le_succ _))⟩
/-- xs.sort(), ints -/
def rSort : V → List V → Hp → VK → Prop := fun x xs H Q => ∃ (a : Addr) (ns : List Int), x = V.ref a ∧ xs = [] ∧ H a = some (.lst (ns.map V.int)) ∧ ns.length < 64 ∧
  ∀ ns' : List Int, ns'.Perm ns → ns'.Pairwise (· ≤ ·) → Q .non (upd H a (.lst (ns'.map V.int)))
theorem mt_sort : MtR X "list.sort" rSort := by
  intro pins s σ H x xs v us Q I rx rxs h
  obtain ⟨a, ns, rfl, rfl, ha, h64, q⟩ := h
  cases rx
  cases rxs
  obtain ⟨hz, its, n, rv, hob⟩ := I.hok a _ ha
  have hi := rv.ints
  refine wpAny_call_entry PyProof.Rows.slot_list_sort ⟨_, hob, rfl⟩ PyProof.Rows.entry_list_sort
    (PyProof.Rows.list_sort_tree hob hi (by rw [hi.length]; exact h64) fun out ns' h1 h2 h3 => ⟨.none, rfl, ?_⟩) (PyProof.Rows.args_list_sort _)
  obtain ⟨ep, he'⟩ := PyProof.Rows.sortedHeap_at (vs := its) (out := out) hob
  have hlen : (ns'.map V.int).length ≤ sizeLine := by rw [List.length_map, h2.length_eq]; exact small64 h64
  refine ⟨.non, upd H a (.lst (ns'.map V.int)), I.write (e := a) (t' := s.toks) (by rw [ha]; trivial) (.inl rfl) (fun b u hb hu => ?_) ⟨_, he'⟩ ⟨hlen, out.toList, ep, vals_of_ints h1, he'⟩, rfl, q ns' h2 h3⟩
  rw [PyProof.Rows.sortedHeap_old hb (Heap.lt_size hu)]; exact hu
end

/-! ### list.index, flat items -/
section
variable {X : Cx}
def rIndex (K : PySem.W.Frag) : V → List V → Hp → VK → Prop := fun x xs H Q => ∃ (a : Addr) (ys : List V) (y : V) (j : Nat) (z : V), x = V.ref a ∧ xs = [y] ∧ SqL K H a ys ∧ flatV y = true ∧ ys.all flatV = true ∧ ys[j]? = some z ∧ eqV z y = true ∧
  (∀ (m : Nat) (z' : V), m < j → ys[m]? = some z' → eqV z' y = false) ∧ Q (.int (j : Nat)) H
theorem flat_at {ys : List V} (f : ys.all flatV = true) {j : Nat} {z : V} (h : ys[j]? = some z) : flatV z = true := List.all_eq_true.mp f z (List.mem_of_getElem? h)
theorem mt_index : MtR X "list.index" (rIndex X.K) := by
  intro pins s σ H x xs v us Q I rx rxs h
  obtain ⟨a, ys, y, j, z, rfl, rfl, hs, fy, fys, hz, hzj, hno, q⟩ := h
  cases rx
  cases rxs with
  | cons ry rt =>
    rename_i uy ut
    cases rt
    obtain ⟨its, rv, ⟨⟨cls, dd, data, sl⟩, n, ho, hc, hdn, hd⟩, hlen⟩ := I.list hs
    simp only at hc hd
    subst hc hd
    obtain ⟨u, hu, ru⟩ := rv.get hz
    obtain ⟨hjl, hje⟩ := List.getElem?_eq_some_iff.mp hu
    have hvl := rv.length
    have hj : j < its.toArray.size := by simpa using hjl
    have hsl := sizeLine_eq
    refine call_meets PySem.F.slot_list_index ⟨_, ho, rfl⟩ PySem.F.entry_list_index (PySem.F.args_list_index_2 _ _)
      (SeqAt.list_indexAt a its.toArray n dd sl uy (eqU y) j hj (by omega) ?_ ?_) ⟨ho, fun u' hu' => mem_eqAt ry fy rv fys u' (by simpa using hu'), ?_⟩
    · have e1 : its.toArray[j] = u := by simpa using hje
      rw [e1, eqU_of ru (flat_at fys hz)]
      exact hzj
    · intro m hm hmj
      have hml : m < its.length := by simpa using hm
      have hmy : m < ys.length := by omega
      have hy' : ys[m]? = some ys[m] := List.getElem?_eq_getElem hmy
      obtain ⟨u2, hu2, ru2⟩ := rv.get hy'
      obtain ⟨_, hme⟩ := List.getElem?_eq_some_iff.mp hu2
      have e1 : its.toArray[m] = u2 := by simpa using hme
      rw [e1, eqU_of ru2 (flat_at fys hy')]
      exact hno m _ hmj hy'
    · exact ⟨.int (j : Nat), H, I.tok _, ⟨_, rfl⟩, q⟩
end

/-! ### type(x) of an own instance; is, is not of a module's class -/
section
variable {X : Cx}
theorem cr_type : CallR X (.type "type") (fun xs H Q => ∃ a C dx fs, xs = [V.ref a] ∧ H a = some (.ins C dx fs) ∧ Q (.ref C) H) := by
  intro pins s σ H xs us Q I r h
  obtain ⟨a, C, dx, fs, rfl, ha, q⟩ := h
  rw [Vals.ref1 r]
  obtain ⟨mA, O, _⟩ := ins_get I.hok ha
  obtain ⟨od, J, _⟩ := O.look
  exact PySem.W.kto_own J ⟨.ref C, H, I, rfl, q⟩
/-- an object of the module whose class is no tuple: a class of the text (makesIn says that its type is a type's heir) -/
theorem cls_there {K : PySem.W.Frag} {C : Addr} (h : PySem.W.makesIn K C = true) : ∃ o, K.lookup C = some o ∧ o.cls ≠ .type "tuple" := by
  unfold PySem.W.makesIn at h
  split at h
  · rename_i oc od cd sl ho
    refine ⟨_, ho, fun e => ?_⟩
    rw [Bool.and_eq_true] at h
    have h2 : PySem.W.instIn K (.ref C) (.type "type") = some true := beq_iff_eq.mp h.2
    have e2 : oc = .type "tuple" := e
    have h3 : PySem.W.instIn K (.ref C) (.type "type") = PySem.W.subIn K oc (.type "type") := by
      show ((K.lookup C).map (fun o => o.cls)).bind (fun t => PySem.W.subIn K t (.type "type")) = _
      rw [ho]
      all_goals rfl
    rw [h3, e2] at h2
    have h4 : PySem.W.subIn K (.type "tuple") (.type "type") = some false := by
      show (fastBuiltinMro "tuple").map (·.contains (.type "type")) = some false
      decide +kernel
    rw [h4] at h2
    cases h2
  · cases h
theorem op_is_cls : OpR X (compareOp .Is) (fun x y H Q => ∃ a b, x = V.ref a ∧ y = V.ref b ∧ (a = b ∨ (PySem.W.makesIn X.K a = true ∧ PySem.W.makesIn X.K b = true)) ∧ Q (.bl (decide (a = b))) H) := by
  intro pins s σ H x y v u Q I rx ry h
  obtain ⟨a, b, rfl, rfl, hab, q⟩ := h
  cases rx
  cases ry
  by_cases z : a = b
  · subst z
    exact wpAny_is_ref_self ⟨.bl _, H, I, by simp [RelV], q⟩
  · rcases hab with e | ⟨h1, h2⟩
    · exact absurd e z
    · obtain ⟨o1, e1, n1⟩ := cls_there h1
      obtain ⟨o2, e2, _⟩ := cls_there h2
      exact wpAny_is_ref_other z (I.kIn _ _ e1) (I.kIn _ _ e2) n1 ⟨.bl _, H, I, by simp [RelV, z], q⟩
theorem op_isnot_cls : OpR X (compareOp .IsNot) (fun x y H Q => ∃ a b, x = V.ref a ∧ y = V.ref b ∧ (a = b ∨ (PySem.W.makesIn X.K a = true ∧ PySem.W.makesIn X.K b = true)) ∧ Q (.bl (!decide (a = b))) H) := by
  intro pins s σ H x y v u Q I rx ry h
  obtain ⟨a, b, rfl, rfl, hab, q⟩ := h
  cases rx
  cases ry
  by_cases z : a = b
  · subst z
    exact wpAny_isNot_ref_self ⟨.bl _, H, I, by simp [RelV], q⟩
  · rcases hab with e | ⟨h1, h2⟩
    · exact absurd e z
    · obtain ⟨o1, e1, n1⟩ := cls_there h1
      obtain ⟨o2, e2, _⟩ := cls_there h2
      exact wpAny_isNot_ref_other z (I.kIn _ _ e1) (I.kIn _ _ e2) n1 ⟨.bl _, H, I, by simp [RelV, z], q⟩
end

/-! ### any(xs), all(xs) of a list of bools -/
theorem iter_any {prog : Program} {w : World} {A : Around} {E : Value → Shared → Prop} {s : Shared} {l : Addr} {items : Array Value} {Q : Value → Shared → Prop} (hl : s.heap.IsList l items)
    (h : ∀ s₂ : Shared, s₂ = { s with heap := s.heap.push { cls := .type "list_iterator", data := .fields #[.ref l, .int 0 0] } } →
      (s₂.heap.IsListIter s.heap.objs.size l 0 ∧ s₂.heap.IsList l items) → l ≠ s.heap.objs.size → Q (.ref s.heap.objs.size) s₂) : wpAny (model prog w) A (pyIter (.ref l)) Q E s := by
  have hlt : l < s.heap.objs.size := by obtain ⟨_, e, _⟩ := hl; exact Heap.lt_size e
  exact wpAny_pyIter_list hl (h _ rfl ⟨⟨_, Heap.get?_push_size _ rfl, rfl, rfl⟩, hl.push _⟩ (Nat.ne_of_lt hlt))
theorem truth_bools {prog : Program} {w : World} {A : Around} {bs : List Bool} {its : List Value} (e : its = bs.map Value.bool) :
    TruthOf prog w A (fun i v => its.toArray[i]? = some v) (fun i => bs.getD i false) := fun i v s Q E hv hq => by
  have hv' : its[i]? = some v := by simpa using hv
  rw [e, List.getElem?_map] at hv'
  obtain ⟨b, hb, rfl⟩ := Option.map_eq_some_iff.mp hv'
  have hg : bs.getD i false = b := by rw [List.getD_eq_getElem?_getD, hb] <;> rfl
  have hq' : Q (bs.getD i false) s := hq
  rw [hg] at hq'
  exact wpAny_truthy_bool hq'
theorem any_range : ∀ bs : List Bool, (List.range bs.length).any (fun i => bs.getD i false) = bs.any id
  | [] => rfl
  | b :: bs => by
    rw [List.length_cons, List.range_succ_eq_map, List.any_cons, List.any_map, List.any_cons, ← any_range bs]
    all_goals rfl
theorem all_range : ∀ bs : List Bool, (List.range bs.length).all (fun i => bs.getD i false) = bs.all id
  | [] => rfl
  | b :: bs => by
    rw [List.length_cons, List.range_succ_eq_map, List.all_cons, List.all_map, List.all_cons, ← all_range bs]
    all_goals rfl
section
variable {X : Cx}
def rAny (K : PySem.W.Frag) : List V → Hp → VK → Prop := fun vs H Q => ∃ (a : Addr) (bs : List Bool), vs = [V.ref a] ∧ SqL K H a (bs.map V.bl) ∧ Q (.bl (bs.any id)) H
def rAll (K : PySem.W.Frag) : List V → Hp → VK → Prop := fun vs H Q => ∃ (a : Addr) (bs : List Bool), vs = [V.ref a] ∧ SqL K H a (bs.map V.bl) ∧ Q (.bl (bs.all id)) H
theorem cr_any (hc : X.calm = true) : CallR X (.builtin "any") (rAny X.K) := by
  intro pins s σ H vs us Q I r h
  obtain ⟨a, bs, rfl, hs, q⟩ := h
  obtain ⟨its, rv, hl, _⟩ := I.list hs
  rw [Vals.ref1 r]
  have hb := rv.bls
  refine call_any_walk (iter_any hl.isList fun s₂ e2 st hne => ?_)
  subst e2
  refine ⟨_, _, _, _, _, _, _, rfl, Walks.list (A := X.A.in1) (I.ok.hd hc) _ a hne its.toArray, st, truth_bools hb, fun h' tk hk => ?_⟩
  refine ⟨.bl _, H, I.kept fun b o eo => hk b o (fun hmem => ?_) (Heap.get?_push_of_some _ eo), ?_, q⟩
  · rcases List.mem_cons.mp hmem with e1 | hmem
    · exact absurd (e1 ▸ Heap.lt_size eo) (Nat.lt_irrefl _)
    · cases hmem
  · show Value.bool _ = Value.bool _
    rw [← any_range, hb, List.size_toArray, List.length_map]
theorem cr_all (hc : X.calm = true) : CallR X (.builtin "all") (rAll X.K) := by
  intro pins s σ H vs us Q I r h
  obtain ⟨a, bs, rfl, hs, q⟩ := h
  obtain ⟨its, rv, hl, _⟩ := I.list hs
  rw [Vals.ref1 r]
  have hb := rv.bls
  refine call_all_walk (iter_any hl.isList fun s₂ e2 st hne => ?_)
  subst e2
  refine ⟨_, _, _, _, _, _, _, rfl, Walks.list (A := X.A.in1) (I.ok.hd hc) _ a hne its.toArray, st, truth_bools hb, fun h' tk hk => ?_⟩
  refine ⟨.bl _, H, I.kept fun b o eo => hk b o (fun hmem => ?_) (Heap.get?_push_of_some _ eo), ?_, q⟩
  · rcases List.mem_cons.mp hmem with e1 | hmem
    · exact absurd (e1 ▸ Heap.lt_size eo) (Nat.lt_irrefl _)
    · cases hmem
  · show Value.bool _ = Value.bool _
    rw [← all_range, hb, List.size_toArray, List.length_map]
end

/-! ### == and != of data at any depth: none, bools, ints, texts, lists, tuples -/
mutual
inductive Dp (K : PySem.W.Frag) (H : Hp) : V → PyData → Prop
  | non : Dp K H .non .none
  | bl (b : Bool) : Dp K H (.bl b) (.bool b)
  | int (i : Int) : Dp K H (.int i) (.int i)
  | str (x : Str) : Dp K H (.str x) (.str x)
  | lst {a : Addr} {xs : List V} {ds : List PyData} : SqL K H a xs → DpAll K H xs ds → Dp K H (.ref a) (.list ds)
  | tup {a : Addr} {xs : List V} {ds : List PyData} : SqT K H a xs → DpAll K H xs ds → Dp K H (.ref a) (.tuple ds)
inductive DpAll (K : PySem.W.Frag) (H : Hp) : List V → List PyData → Prop
  | nil : DpAll K H [] []
  | cons {v : V} {vs : List V} {d : PyData} {ds : List PyData} : Dp K H v d → DpAll K H vs ds → DpAll K H (v :: vs) (d :: ds)
end
section
variable {X : Cx} {pins : List (Addr × Obj)} {σ : St} {H : Hp} {s : Shared}
mutual
theorem Dp.reads (I : Inv X pins σ H s) : ∀ (d : PyData) (v : V) (u : Value), Dp X.K H v d → RelV v u → ∃ as, Reads s.heap u d as
  | .none, _, _, h, r => by
    cases h
    cases r
    exact ⟨_, Reads.none⟩
  | .bool b, _, _, h, r => by
    cases h
    cases r
    exact ⟨_, Reads.bool b⟩
  | .int i, _, _, h, r => by
    cases h
    obtain ⟨t, rfl⟩ := r
    exact ⟨_, Reads.int i t⟩
  | .str x, _, _, h, r => by
    cases h
    obtain ⟨t, rfl⟩ := r
    exact ⟨_, Reads.str x t⟩
  | .list ds, _, _, h, r => by
    cases h with
    | lst hs ha =>
      cases r
      obtain ⟨its, rv, ⟨o, n, ho, hc, _, hd⟩, _⟩ := I.list hs
      obtain ⟨as, hr⟩ := Dp.readsAll I ds _ its ha rv
      exact ⟨_, Reads.list ho hc hd hr⟩
  | .tuple ds, _, _, h, r => by
    cases h with
    | tup hs ha =>
      cases r
      obtain ⟨its, rv, ⟨o, ho, hc, n, hd⟩, _⟩ := I.tuple hs
      obtain ⟨as, hr⟩ := Dp.readsAll I ds _ its ha rv
      exact ⟨_, Reads.tuple ho hc hd hr⟩
  | .dict _, _, _, h, _ => by cases h
theorem Dp.readsAll (I : Inv X pins σ H s) : ∀ (ds : List PyData) (vs : List V) (us : List Value), DpAll X.K H vs ds → Vals vs us → ∃ as, ReadsAll s.heap us ds as
  | [], _, _, h, r => by
    cases h
    cases r
    exact ⟨_, ReadsAll.nil⟩
  | d :: ds, _, _, h, r => by
    cases h with
    | cons h1 h2 =>
      cases r with
      | cons r1 r2 =>
        obtain ⟨as, q1⟩ := Dp.reads I d _ _ h1 r1
        obtain ⟨bs, q2⟩ := Dp.readsAll I ds _ _ h2 r2
        exact ⟨_, ReadsAll.cons q1 q2⟩
end
end
section
variable {X : Cx}
def rEqD (K : PySem.W.Frag) : R2 := fun x y H Q => ∃ d e, Dp K H x d ∧ Dp K H y e ∧ SeqAt.shaped d = true ∧ SeqAt.shaped e = true ∧ Q (.bl (PyData.eqv d e)) H
def rNeD (K : PySem.W.Frag) : R2 := fun x y H Q => ∃ d e, Dp K H x d ∧ Dp K H y e ∧ SeqAt.shaped d = true ∧ SeqAt.shaped e = true ∧ Q (.bl (!PyData.eqv d e)) H
theorem op_eqD (hu : X.A.units + 64 < cLine) : OpR X (compareOp .Eq) (rEqD X.K) := by
  intro pins s σ H x y v u Q I rx ry h
  obtain ⟨d, e, hd, he, sd, se, q⟩ := h
  obtain ⟨as, r1⟩ := Dp.reads I d x v hd rx
  obtain ⟨bs, r2⟩ := Dp.reads I e y u he ry
  exact SeqAt.compareEq_shaped r1 r2 sd se hu ⟨.bl _, H, I, rfl, q⟩
theorem op_neD (hu : X.A.units + 64 < cLine) : OpR X (compareOp .NotEq) (rNeD X.K) := by
  intro pins s σ H x y v u Q I rx ry h
  obtain ⟨d, e, hd, he, sd, se, q⟩ := h
  obtain ⟨as, r1⟩ := Dp.reads I d x v hd rx
  obtain ⟨bs, r2⟩ := Dp.reads I e y u he ry
  exact SeqAt.compareNe_shaped r1 r2 sd se hu ⟨.bl _, H, I, rfl, q⟩
end
end L2

namespace L2
open PySem PySem.Spec PyProof.Rows
abbrev CellAt (h : Heap) (c : Addr) (v : Option Value) : Prop := h.IsCell c v
def relS (scope sc : Scope) : Scope :=
  { scope with names := scope.names.map fun (n, k) => if (k == .free && sc.kind == .function && sc.names.lookup n == some .cell) then (n, .cell) else (n, k) }

def cloFrom (cells : List (Str × Addr)) : List (Str × NameKind) → List (Str × Addr) → List (Str × Addr)
  | [], acc => acc
  | (n, k) :: r, acc => if k == .free then cloFrom cells r ((n, (cells.lookup n).getD 0) :: acc) else cloFrom cells r acc

theorem closure_loop (env : Env) (f : Str × NameKind → List (Str × Addr) → Sem (ForInStep (List (Str × Addr))))
    (hf : ∀ n k c, f (n, k) c = if k == .free then (do let a ← cellOf env n; pure (.yield ((n, a) :: c))) else pure (.yield c)) :
    ∀ (names : List (Str × NameKind)) (acc : List (Str × Addr)), (∀ y ∈ names, y.2 = .free → ∃ c, env.cells.lookup y.1 = some c) → forIn names acc f = pure (cloFrom env.cells names acc)
  | [], acc, _ => by rw [List.forIn_nil]; rfl
  | (n, k) :: r, acc, h => by
    rw [List.forIn_cons, hf]
    have ih := fun acc => closure_loop env f hf r acc fun y hy => h y (List.mem_cons_of_mem _ hy)
    unfold cloFrom
    by_cases hk : (k == NameKind.free) = true
    · rw [if_pos hk, if_pos hk]
      obtain ⟨c, hc⟩ := h (n, k) List.mem_cons_self (by simpa using hk)
      have e : cellOf env n = pure c := by unfold cellOf; rw [hc]
      rw [e]
      have e2 : (env.cells.lookup n).getD 0 = c := by rw [hc]; rfl
      rw [e2]
      exact ih _
    · rw [if_neg hk, if_neg hk]
      exact ih _
theorem closure_ok {scope : Scope} {env : Env} (h : ∀ y ∈ scope.names, y.2 = .free → ∃ c, env.cells.lookup y.1 = some c) : closureFor scope env = pure (cloFrom env.cells scope.names []) := by
  simp only [closureFor]
  rw [closure_loop env _ (fun n k c => rfl) scope.names [] h]
  rfl

theorem mem_lookup {α : Type} : ∀ {l : List (Str × α)} {n : Str} {c : α}, (n, c) ∈ l → ∃ c', l.lookup n = some c'
  | (k, v) :: r, n, c, h => by
    rw [List.lookup_cons]
    cases hb : n == k with
    | true => exact ⟨_, rfl⟩
    | false =>
      rcases List.mem_cons.mp h with e | h
      · cases e; simp at hb
      · exact mem_lookup h

theorem cloFrom_mem {cells : List (Str × Addr)} : ∀ {names : List (Str × NameKind)} {acc : List (Str × Addr)} {n : Str} {c : Addr}, (n, c) ∈ cloFrom cells names acc → (n, c) ∈ acc ∨ ((n, .free) ∈ names ∧ c = (cells.lookup n).getD 0)
  | [], _, _, _, h => .inl h
  | (m, k) :: r, acc, n, c, h => by
    unfold cloFrom at h
    split at h
    · rename_i hk
      have hk : k = .free := by simpa using hk
      rcases cloFrom_mem h with h | ⟨h1, h2⟩
      · rcases List.mem_cons.mp h with e | h
        · cases e; exact .inr ⟨hk ▸ List.mem_cons_self, rfl⟩
        · exact .inl h
      · exact .inr ⟨List.mem_cons_of_mem _ h1, h2⟩
    · rcases cloFrom_mem h with h | ⟨h1, h2⟩
      · exact .inl h
      · exact .inr ⟨List.mem_cons_of_mem _ h1, h2⟩
theorem cloFrom_acc {cells : List (Str × Addr)} : ∀ {names : List (Str × NameKind)} {acc : List (Str × Addr)} {p : Str × Addr}, p ∈ acc → p ∈ cloFrom cells names acc
  | [], _, _, h => h
  | (m, k) :: r, acc, p, h => by
    unfold cloFrom
    split
    · exact cloFrom_acc (List.mem_cons_of_mem _ h)
    · exact cloFrom_acc h
theorem cloFrom_has {cells : List (Str × Addr)} : ∀ {names : List (Str × NameKind)} {acc : List (Str × Addr)} {n : Str}, (n, .free) ∈ names → (n, (cells.lookup n).getD 0) ∈ cloFrom cells names acc
  | (m, k) :: r, acc, n, h => by
    unfold cloFrom
    rcases List.mem_cons.mp h with e | h
    · cases e
      exact cloFrom_acc List.mem_cons_self
    · split
      · exact cloFrom_has h
      · exact cloFrom_has h

theorem cells_mem : ∀ {names : List (Str × NameKind)} {h : Heap} {acc : List (Str × Addr)} {x : Str} {c : Addr}, (x, c) ∈ cellsFrom h.objs.size names acc →
    (x, c) ∈ acc ∨ ((x, .cell) ∈ names ∧ h.objs.size ≤ c ∧ CellAt (pushCells h names) c none)
  | [], _, _, _, _, h => .inl h
  | (n, k) :: r, h, acc, x, c, hm => by
    unfold cellsFrom at hm
    unfold pushCells
    split at hm
    · rename_i hk
      rw [if_pos hk]
      have hk : k = .cell := by simpa using hk
      rw [← Heap.size_push h { cls := .type "cell", data := .cell none }] at hm
      rcases cells_mem hm with hm | ⟨h1, h2, h3⟩
      · rcases List.mem_cons.mp hm with e | hm
        · cases e
          exact .inr ⟨hk ▸ List.mem_cons_self, Nat.le_refl _, _, pushCells_keeps r _ _ _ (Heap.get?_push_size _ rfl), rfl⟩
        · exact .inl hm
      · rw [Heap.size_push] at h2
        exact .inr ⟨List.mem_cons_of_mem _ h1, Nat.le_of_succ_le h2, h3⟩
    · rename_i hk
      rw [if_neg hk]
      rcases cells_mem hm with hm | ⟨h1, h2, h3⟩
      · exact .inl hm
      · exact .inr ⟨List.mem_cons_of_mem _ h1, h2, h3⟩
theorem cells_acc : ∀ {names : List (Str × NameKind)} {n : Nat} {acc : List (Str × Addr)} {p : Str × Addr}, p ∈ acc → p ∈ cellsFrom n names acc
  | [], _, _, _, h => h
  | (m, k) :: r, n, acc, p, h => by
    unfold cellsFrom
    split
    · exact cells_acc (List.mem_cons_of_mem _ h)
    · exact cells_acc h
theorem cells_has : ∀ {names : List (Str × NameKind)} {n : Nat} {acc : List (Str × Addr)} {x : Str}, (x, .cell) ∈ names → ∃ c, (x, c) ∈ cellsFrom n names acc
  | (m, k) :: r, n, acc, x, h => by
    unfold cellsFrom
    rcases List.mem_cons.mp h with e | h
    · cases e
      exact ⟨n, cells_acc List.mem_cons_self⟩
    · split
      · exact cells_has h
      · exact cells_has h
theorem cells_inj : ∀ {names : List (Str × NameKind)} {h : Heap} {acc : List (Str × Addr)} {x y : Str} {c : Addr}, (∀ p ∈ acc, p.2 < h.objs.size) → (∀ x y c, (x, c) ∈ acc → (y, c) ∈ acc → x = y) →
    (x, c) ∈ cellsFrom h.objs.size names acc → (y, c) ∈ cellsFrom h.objs.size names acc → x = y
  | [], _, _, _, _, _, _, hi, h1, h2 => hi _ _ _ h1 h2
  | (n, k) :: r, h, acc, x, y, c, hl, hi, h1, h2 => by
    unfold cellsFrom at h1 h2
    split at h1
    · rename_i hk
      rw [if_pos hk] at h2
      rw [← Heap.size_push h { cls := .type "cell", data := .cell none }] at h1 h2
      refine cells_inj (h := h.push _) (fun p hp => ?_) (fun x y c a b => ?_) h1 h2
      · rw [Heap.size_push]
        rcases List.mem_cons.mp hp with rfl | hp
        · exact Nat.lt_succ_self _
        · exact Nat.lt_succ_of_lt (hl p hp)
      · rcases List.mem_cons.mp a with e | a <;> rcases List.mem_cons.mp b with e' | b
        · cases e; cases e'; rfl
        · cases e; exact absurd (hl _ b) (Nat.lt_irrefl _)
        · cases e'; exact absurd (hl _ a) (Nat.lt_irrefl _)
        · exact hi _ _ _ a b
    · rename_i hk
      rw [if_neg hk] at h2
      exact cells_inj hl hi h1 h2

theorem newEnv_comp {M : Model} {A : Around} {E : Value → Shared → Prop} {s : Shared} {scope : Scope} {globals : Addr} {closure : List (Str × Addr)} {qual : Str} {func : Option Addr} {code : Value} {around : Env} {builtins : Addr} {Q : Env → Shared → Prop}
    (h : Q (newEnv scope s.heap.objs.size globals (cellsFrom (s.heap.objs.size + 1) scope.names closure) qual func code (some around) builtins)
      { s with heap := pushCells (s.heap.push { cls := .type "dict", data := .dict #[] }) scope.names }) :
    wpAny M A (newFunctionEnv scope globals closure [] qual func code (some around) builtins) Q E s := by
  simp only [newFunctionEnv, Option.isSome_some, if_true]
  refine wpAny_bind (wpAny_alloc ?_)
  refine wpAny_bind (wpAny_layCells _ (fun n k c => rfl) scope.names closure _ _ ?_)
  rw [show ({ s with heap := s.heap.push { cls := .type "dict", data := .dict #[] } } : Shared).heap.objs.size = s.heap.objs.size + 1 from Heap.size_push ..]
  rw [List.forIn_nil]
  exact wpAny_bind (wpAny_pure (wpAny_pure h))

/-- every name of the written scope, in the scope that runs -/
theorem lookup_relS {sc : Scope} : ∀ {names : List (Str × NameKind)} {x : Str} {k : NameKind},
    (names.map fun (n, k) => if (k == NameKind.free && sc.kind == .function && sc.names.lookup n == some .cell) then (n, NameKind.cell) else (n, k)).lookup x = some k →
    ∃ k', names.lookup x = some k' ∧ (k = k' ∨ (k' = .free ∧ k = .cell))
  | [], _, _, h => by simp at h
  | (n, k₀) :: r, x, k, h => by
    have ih := @lookup_relS sc r x k
    have h' : List.lookup x ((if (k₀ == NameKind.free && sc.kind == .function && sc.names.lookup n == some .cell) = true then (n, NameKind.cell) else (n, k₀)) :: (r.map _)) = some k := h
    cases hx : x == n with
    | true =>
      simp only [List.lookup_cons, hx]
      by_cases hc : (k₀ == NameKind.free && sc.kind == .function && sc.names.lookup n == some .cell) = true
      · rw [if_pos hc] at h'
        simp only [List.lookup_cons, hx] at h'
        cases h'
        simp only [Bool.and_eq_true, beq_iff_eq] at hc
        exact ⟨k₀, rfl, .inr ⟨hc.1.1, rfl⟩⟩
      · rw [if_neg hc] at h'
        simp only [List.lookup_cons, hx] at h'
        cases h'
        exact ⟨_, rfl, .inl rfl⟩
    | false =>
      simp only [List.lookup_cons, hx]
      by_cases hc : (k₀ == NameKind.free && sc.kind == .function && sc.names.lookup n == some .cell) = true
      · rw [if_pos hc] at h'
        simp only [List.lookup_cons, hx] at h'
        exact ih h'
      · rw [if_neg hc] at h'
        simp only [List.lookup_cons, hx] at h'
        exact ih h'
theorem lookup_relS_keep {sc : Scope} : ∀ {names : List (Str × NameKind)} {x : Str} {k : NameKind}, k ≠ .free → names.lookup x = some k →
    (names.map fun (n, k) => if (k == NameKind.free && sc.kind == .function && sc.names.lookup n == some .cell) then (n, NameKind.cell) else (n, k)).lookup x = some k
  | [], _, _, _, h => by simp at h
  | (n, k₀) :: r, x, k, hk, h => by
    have ih := @lookup_relS_keep sc r x k hk
    show List.lookup x ((if (k₀ == NameKind.free && sc.kind == .function && sc.names.lookup n == some .cell) = true then (n, NameKind.cell) else (n, k₀)) :: (r.map _)) = some k
    cases hx : x == n with
    | true =>
      simp only [List.lookup_cons, hx] at h
      cases h
      have : ¬ (k₀ == NameKind.free && sc.kind == .function && sc.names.lookup n == some .cell) = true := by simp [hk]
      rw [if_neg this]
      simp only [List.lookup_cons, hx]
    | false =>
      simp only [List.lookup_cons, hx] at h
      by_cases hc : (k₀ == NameKind.free && sc.kind == .function && sc.names.lookup n == some .cell) = true
      · rw [if_pos hc]; simp only [List.lookup_cons, hx]; exact ih h
      · rw [if_neg hc]; simp only [List.lookup_cons, hx]; exact ih h

theorem pushCells_size : ∀ (names : List (Str × NameKind)) (h : Heap), h.objs.size ≤ (pushCells h names).objs.size
  | [], _ => Nat.le_refl _
  | (_, k) :: r, h => by
    unfold pushCells
    split
    · refine Nat.le_trans ?_ (pushCells_size r _)
      rw [Heap.size_push]; exact Nat.le_succ _
    · exact pushCells_size r h


/-- the names of a comprehension's block: its own (with their places in N), or captured -/
structure BlkOk (N : List Str) (sc scope : Scope) (own : List (Str × Nat)) : Prop where
  kind : scope.kind = .function
  uniq : ∀ y ∈ scope.names, scope.names.lookup y.1 = some y.2
  ix : ∀ p ∈ own, N[p.2]? = some p.1
  free : ∀ y ∈ scope.names, y.2 = .free → sc.names.lookup y.1 = some .cell ∨ sc.names.lookup y.1 = some .free
  own : ∀ y ∈ scope.names, y.2 = .local ∨ y.2 = .cell → y.1 ∈ own.map (·.1) ∨ y.1 ∉ N
/-- the slots of the block's own names forgotten -/
def wipe (σ : St) : List Nat → St
  | [] => σ
  | v :: vs => (wipe σ vs).set v none
theorem wipe_length (σ : St) : ∀ vs : List Nat, (wipe σ vs).length = σ.length
  | [] => rfl
  | v :: vs => by unfold wipe; rw [List.length_set, wipe_length σ vs]
theorem wipe_some {σ : St} {i : Nat} {x : V} : ∀ {vs : List Nat}, (wipe σ vs)[i]? = some (some x) → σ[i]? = some (some x) ∧ i ∉ vs
  | [], h => ⟨h, by simp⟩
  | v :: vs, h => by
    unfold wipe at h
    by_cases hi : v = i
    · subst hi
      by_cases hv : v < (wipe σ vs).length
      · rw [List.getElem?_set_self hv] at h; cases h
      · rw [List.getElem?_eq_none (by simpa using hv)] at h; cases h
    · rw [List.getElem?_set_ne hi] at h
      obtain ⟨h1, h2⟩ := wipe_some h
      exact ⟨h1, by simp only [List.mem_cons, not_or]; exact ⟨fun e => hi e.symm, h2⟩⟩

/-- the context of a block that starts at s, its iterator's objects at fp -/
abbrev Cx.blk (X : Cx) (s : Shared) (H : Hp) (scope : Scope) (cenv : Env) (fp : List Addr) : Cx := { X with s_0 := s, H_0 := H, env := cenv, outer := X.stack, ex := fp, fn := fun x => scope.names.lookup x == some .cell, pn := [], xe := fun _ _ => False }
section
variable {X : Cx} {pins : List (Addr × Obj)} {σ : St} {H : Hp} {s : Shared}
theorem block_start {scope : Scope} {own : List (Str × Nat)} {fp : List Addr} (I : Inv X pins σ H s) (ok : BlkOk X.N X.env.scope scope own) (hN : X.N.Nodup) (hfp : ∀ b ∈ fp, FpOk X pins H b ∧ b < s.heap.objs.size) :
    Inv (X.blk s H scope (compEnvC scope (cellsFrom (s.heap.objs.size + 1) scope.names (cloFrom X.env.cells scope.names [])) s.heap.objs.size X.env) fp) [] (wipe σ (own.map (·.2))) H { s with heap := pushCells (s.heap.push { cls := .type "dict", data := .dict #[] }) scope.names } := by
  have hfree : ∀ y ∈ scope.names, y.2 = .free → ∃ c, X.env.cells.lookup y.1 = some c := fun y hy e => by
    rcases ok.free y hy e with k | k
    · exact I.ok.has _ (.inl k)
    · exact I.ok.has _ (.inr k)
  generalize hcenv : compEnvC scope (cellsFrom (s.heap.objs.size + 1) scope.names (cloFrom X.env.cells scope.names [])) s.heap.objs.size X.env = cenv
  have kp : ∀ b o, s.heap.get? b = some o → (pushCells (s.heap.push { cls := .type "dict", data := .dict #[] }) scope.names).get? b = some o := fun b o e => pushCells_keeps _ _ _ _ (Heap.get?_push_of_some _ e)
  have hL : cenv.locals = s.heap.objs.size := by rw [← hcenv]; rfl
  have hcl : cenv.cells = cellsFrom (s.heap.objs.size + 1) scope.names (cloFrom X.env.cells scope.names []) := by rw [← hcenv]; rfl
  have hsc : cenv.scope = relS scope X.env.scope := by rw [← hcenv]; rfl
  rw [← Heap.size_push s.heap { cls := .type "dict", data := .dict #[] }] at hcl
  have cm : ∀ {y c}, (y, c) ∈ cloFrom X.env.cells scope.names [] → X.env.cells.lookup y = some c ∧ c < s.heap.objs.size := fun {y c} hm => by
    rcases cloFrom_mem hm with hm | ⟨h1, rfl⟩
    · cases hm
    · obtain ⟨c, hc⟩ := hfree _ h1 rfl
      rw [hc]
      obtain ⟨w, z⟩ := I.cell _ _ hc
      exact ⟨rfl, z.lt⟩
  have mem : ∀ {y c}, cenv.cells.lookup y = some c → (X.env.cells.lookup y = some c ∧ c < s.heap.objs.size) ∨ (s.heap.objs.size + 1 ≤ c ∧ CellAt (pushCells (s.heap.push { cls := .type "dict", data := .dict #[] }) scope.names) c none) := fun {y c} e => by
    rw [hcl] at e
    rcases cells_mem (PySem.mem_of_lookup e) with hm | ⟨_, h2, h3⟩
    · exact .inl (cm hm)
    · rw [Heap.size_push] at h2; exact .inr ⟨h2, h3⟩
  have look : ∀ {y}, scope.names.lookup y = some .free → ∃ c, cenv.cells.lookup y = some c ∧ X.env.cells.lookup y = some c := fun {y} hl => by
    have hy : (y, NameKind.free) ∈ scope.names := PySem.mem_of_lookup hl
    obtain ⟨c', e'⟩ := mem_lookup (cells_acc (names := scope.names) (n := (s.heap.push { cls := .type "dict", data := .dict #[] }).objs.size) (cloFrom_has (cells := X.env.cells) (acc := []) hy))
    rw [← hcl] at e'
    refine ⟨c', e', ?_⟩
    rw [hcl] at e'
    rcases cells_mem (PySem.mem_of_lookup e') with hm | ⟨h1, _, _⟩
    · exact (cm hm).1
    · have := ok.uniq _ h1
      rw [hl] at this; cases this
  have okB : (X.blk s H scope cenv fp).Ok := by
    refine ⟨I.ok.mod, by show cenv.scope.kind = _; rw [hsc]; exact ok.kind, by show cenv.globals = _; rw [← hcenv]; exact I.ok.glob, by show cenv.builtins = _; rw [← hcenv]; exact I.ok.blt, by show s.heap.objs.size ≤ cenv.locals; rw [hL]; exact Nat.le_refl _,
      fun y z c e1 e2 => ?_, fun y hy => ?_, fun y c z e => ?_, I.ok.hd, I.ok.frames, .inl rfl, fun b hb => ⟨?_, fun y c e z => ?_⟩, I.bs, Nat.le_trans I.ok.bsz I.sz, fun b o e hb => ?_, fun b hb z => ?_, I.stack, I.stkFree⟩
    · have e1 : cenv.cells.lookup y = some c := e1
      have e2 : cenv.cells.lookup z = some c := e2
      rw [hcl] at e1 e2
      refine cells_inj (fun p hp => ?_) (fun y z c a b => I.ok.inj y z c (cm a).1 (cm b).1) (PySem.mem_of_lookup e1) (PySem.mem_of_lookup e2)
      rw [Heap.size_push]
      exact Nat.lt_succ_of_lt (cm (y := p.1) (c := p.2) hp).2
    · show ∃ c, cenv.cells.lookup y = some c
      have key : ∀ k, cenv.kindOf y = some k → (k = .cell ∨ k = .free) → ∃ c, cenv.cells.lookup y = some c := fun k hk hk' => by
        unfold Env.kindOf at hk
        rw [hsc] at hk
        obtain ⟨k', e, r⟩ := lookup_relS hk
        have : k' = .cell ∨ k' = .free := by
          rcases r with rfl | ⟨rfl, _⟩
          · exact hk'
          · exact .inr rfl
        rcases this with rfl | rfl
        · obtain ⟨c, hm⟩ := cells_has (n := (s.heap.push { cls := .type "dict", data := .dict #[] }).objs.size) (acc := cloFrom X.env.cells scope.names []) (PySem.mem_of_lookup e)
          obtain ⟨c', e'⟩ := mem_lookup hm
          exact ⟨c', by rw [hcl]; exact e'⟩
        · obtain ⟨c, h1, _⟩ := look e
          exact ⟨c, h1⟩
      rcases hy with hy | hy
      · exact key _ hy (.inl rfl)
      · exact key _ hy (.inr rfl)
    · have z : (scope.names.lookup y == some NameKind.cell) = true := z
      have z : scope.names.lookup y = some .cell := by simpa using z
      have e : cenv.cells.lookup y = some c := e
      rw [hcl] at e
      rcases cells_mem (PySem.mem_of_lookup e) with hm | ⟨_, h2, _⟩
      · rcases cloFrom_mem hm with hm | ⟨h1, _⟩
        · cases hm
        · have q := ok.uniq _ h1
          rw [z] at q; cases q
      · rw [Heap.size_push] at h2
        exact Nat.le_of_succ_le h2
    · show b ≠ cenv.locals
      rw [hL]; exact Nat.ne_of_lt (hfp b hb).2
    · have e : cenv.cells.lookup y = some c := e
      rcases mem e with ⟨h1, _⟩ | ⟨h1, _⟩
      · exact (hfp b hb).1.2.2.2.2.1 y c h1 z
      · have h2 : s.heap.objs.size + 1 ≤ b := by rw [← z]; exact h1
        exact absurd (Nat.lt_of_lt_of_le (hfp b hb).2 (Nat.le_of_succ_le h2)) (Nat.lt_irrefl _)
    · rcases (hfp b hb).1.2.2.2.1 with z | z
      · exact I.ok.noex b o e z
      · exact absurd (Nat.lt_of_lt_of_le (Heap.lt_size e) (Nat.le_trans I.ok.bsz z)) (Nat.lt_irrefl _)
    · rcases List.mem_cons.mp (I.stkSub b z) with z | z
      · exact (hfp b hb).1.2.1 z
      · exact (hfp b hb).1.2.2.1 z
  refine ⟨okB, rfl, I.bare, Un.kept kp, ⟨fun _ => none, ?_, fun i y av e1 e2 e3 => ?_⟩, fun y c e => ?_, ?_, fun y c e => ?_, fun p hp => ?_, I.hok.kept kp, by rw [wipe_length]; exact I.len⟩
  · show Heap.Ns _ cenv.locals _
    rw [hL]
    exact Heap.Ns.keeps (Heap.Ns.new ..) fun b o e => pushCells_keeps _ _ _ _ e
  · obtain ⟨e2, hne⟩ := wipe_some e2
    have hfr : scope.names.lookup y = some .free ∧ (cenv.kindOf y = some .cell ∨ cenv.kindOf y = some .free) := by
      have key : ∀ k, cenv.scope.names.lookup y = some k → k = .local ∨ k = .cell ∨ k = .free → scope.names.lookup y = some .free ∧ (cenv.kindOf y = some .cell ∨ cenv.kindOf y = some .free) := fun k hk hk' => by
        have hk0 := hk
        rw [hsc] at hk
        obtain ⟨k', e, r⟩ := lookup_relS hk
        have no : ¬ (k' = .local ∨ k' = .cell) := fun hh => by
          rcases ok.own _ (PySem.mem_of_lookup e) hh with e' | e'
          · obtain ⟨p, hp, hpy⟩ := List.mem_map.mp e'
            have e3 := ok.ix p hp
            have : p.1 = y := hpy
            rw [this] at e3
            exact hne (List.mem_map.mpr ⟨p, hp, nodup_ix hN e3 e1⟩)
          · exact e' (List.mem_of_getElem? e1)
        rcases r with rfl | ⟨rfl, rfl⟩
        · rcases hk' with rfl | rfl | rfl
          · exact absurd (.inl rfl) no
          · exact absurd (.inr rfl) no
          · exact ⟨e, .inr hk0⟩
        · exact ⟨e, .inl hk0⟩
      have e3 : Vis cenv.scope y := e3
      rcases e3 with e3 | e3 | e3
      · exact key _ e3 (.inl rfl)
      · exact key _ e3 (.inr (.inl rfl))
      · exact key _ e3 (.inr (.inr rfl))
    obtain ⟨m, hn, hl⟩ := I.loc
    have hvis : Vis X.env.scope y := (ok.free _ (PySem.mem_of_lookup hfr.1) rfl).elim (fun k => .inr (.inl k)) (fun k => .inr (.inr k))
    obtain ⟨w, r, q⟩ := hl i y av e1 e2 hvis
    refine ⟨w, r, .inr ⟨hfr.2, ?_⟩⟩
    obtain ⟨c, h1, h2⟩ := look hfr.1
    rcases q with ⟨k, _⟩ | ⟨_, c', e', z⟩
    · have k : X.env.scope.names.lookup y = some .local := k
      rcases ok.free _ (PySem.mem_of_lookup hfr.1) rfl with k' | k' <;> rw [show X.env.scope.names.lookup y = _ from k'] at k <;> cases k
    · rw [h2] at e'; cases e'
      exact ⟨c, h1, z.keeps kp⟩
  · have e : cenv.cells.lookup y = some c := e
    rcases mem e with ⟨h1, _⟩ | ⟨_, z⟩
    · obtain ⟨w, z⟩ := I.cell y c h1
      exact ⟨w, z.keeps kp⟩
    · exact ⟨_, z⟩
  · show H cenv.locals = none
    rw [hL]; exact I.hok.fresh (Nat.le_refl _)
  · have e : cenv.cells.lookup y = some c := e
    rcases mem e with ⟨h1, _⟩ | ⟨h1, _⟩
    · exact I.freeC y c h1
    · exact I.hok.fresh (Nat.le_of_succ_le h1)
  · exact absurd (show p ∈ ([] : List (Addr × Obj)) ++ [] from hp) (by simp)

/-- an item appended to a tracked list -/
theorem app_ok {E : Value → Shared → Prop} {D : Addr} {xs : List V} {y : V} {v : Value} {Q : Value → Shared → Prop} (I : Inv X pins σ H s) (hD : H D = some (.lst xs)) (hz : xs.length < sizeLine) (r : RelV y v)
    (h : ∀ s', Inv X pins σ (upd H D (.lst (xs ++ [y]))) s' → Q .none s') : wpAny (model X.prog X.w) X.A (call (.builtin "list.append") [.ref D, v]) Q E s := by
  obtain ⟨hz', its, n, ri, e⟩ := I.hok D _ hD
  have hl := ri.length
  refine append_at (hsz := by rw [List.size_toArray]; omega) e fun h' sb ho' => ?_
  refine h { s with heap := h' } (I.write (t' := s.toks) (by rw [hD]; trivial) (.inl rfl) (fun b u hb q => (sb.2 b hb).trans q) ⟨_, ho'⟩ ⟨by rw [List.length_append]; exact hz, its ++ [v], n + 1, ri.append (.cons r .nil), ?_⟩)
  rw [ho']
  simp

/-- a clause's tests -/
def PTs (X : Cx) (ifs : List Expr) (t : TT) : Prop :=
  ∀ (pins : List (Addr × Obj)) (s : Shared) (σ : St) (H : Hp) (Q : Bool → Hp → Prop), Inv X pins σ H s → t σ H Q →
    wpAny (model X.prog X.w) X.A (forIn ifs true fun c r => if r = true then do let ok ← isTrue c X.env (eval c X.env); pure (ForInStep.yield ok) else pure (ForInStep.yield r)) (TP X pins σ Q) X.xe s
def tYes : TT := fun _ H Q => Q true H
theorem pts_nil : PTs X [] tYes := fun _ _ _ H _ I h => wpAny_tests_nil ⟨H, I, h⟩
theorem pts_one {c : Expr} {t : TT} (h : PT X c t) : PTs X [c] t := fun pins s σ H Q I hw => wpAny_tests_one (h pins s σ H Q I hw)
end

theorem thnF {α : Type} {t : Sem α} {Q Q' : α → Shared → Prop} {M : Model} {A : Around} {E : Value → Shared → Prop} {s : Shared} (h : wpAny M A t Q (fun _ _ => False) s) (hQ : ∀ a s, Q a s → Q' a s) : wpAny M A t Q' E s := wpAny_mono h hQ fun _ _ z => False.elim z

/-- the loop of a list comprehension's block, the target of any form (codeAny_compLoop_tests asks a target that no tuple goes to; statement and proof follow it, PyProof/CompMap.lean:41-61, with the step letOwnedTupleGo kept) -/
theorem compLoop_any {prog : Program} {w : World} {A : Around} {R : Result → Shared → Prop} {s : Shared} {elt target iter : Expr} {ifs : List Expr} {scope : Scope} {pos : Pos} {it acc : Value} {env : Env} (I : Nat → Shared → Prop)
    (turn : ∀ n s, I n s → wpAny (model prog w) A (pyNext it) (fun r s₁ => match r with
      | none => R (.ok .next) s₁
      | some v => wpAny (model prog w) A (letOwnedTupleGo target it v) (fun _ s₁' => wpAny (model prog w) A (assign target env v) (fun _ s₂ =>
          wpAny (model prog w) A (forIn ifs true fun c r => if r = true then do let ok ← isTrue c env (eval c env); pure (ForInStep.yield ok) else pure (ForInStep.yield r)) (fun ok s₃ =>
            if ok = true then wpAny (model prog w) A (eval elt env) (fun x s₄ =>
              wpAny (model prog w) A (call (.builtin "list.append") [acc, x]) (fun _ s₅ => ∃ m, m < n ∧ I m s₅) (notedBy (model prog w) A env fun e s' => R (.error e) s') s₄) (notedBy (model prog w) A env fun e s' => R (.error e) s') s₃
            else ∃ m, m < n ∧ I m s₃) (notedBy (model prog w) A env fun e s' => R (.error e) s') s₂) (notedBy (model prog w) A env fun e s' => R (.error e) s') s₁') (notedBy (model prog w) A env fun e s' => R (.error e) s') s₁) (notedBy (model prog w) A env fun e s' => R (.error e) s') s)
    (n : Nat) (h : I n s) :
    codeAny (model prog w) A (.compLoop (.ListComp elt [⟨target, iter, ifs, 0⟩] scope pos) 0 it acc env) R s := by
  refine codeAny_loop rfl I (fun n s hI => ?_) n h
  show wpAny _ A ((compTurn (.ListComp elt [⟨target, iter, ifs, 0⟩] scope pos) 0 it acc env).onRaise (fun x => do noteFrame x env; theTreesLotGoes x)) _ _ s
  refine wpAny_noted ?_
  rw [compTurn_list]
  refine wpAny_bind (wpAny_standAt (wpAny_bind (wpAny_mono (turn n s hI) (fun r s₁ h₁ => ?_) fun _ _ h' => h')))
  cases r with
  | none => exact wpAny_pure h₁
  | some v =>
    refine wpAny_bind (wpAny_mono h₁ (fun _ s₁' h₁' => ?_) fun _ _ h' => h')
    refine wpAny_bind (wpAny_mono h₁' (fun _ s₂ h₂ => wpAny_bind (wpAny_mono h₂ (fun ok s₃ h₃ => ?_) fun _ _ h' => h')) fun _ _ h' => h')
    cases ok with
    | false => exact wpAny_pure ⟨rfl, h₃⟩
    | true =>
      exact wpAny_bind (wpAny_bind (wpAny_mono h₃ (fun x s₄ h₄ => wpAny_bind (wpAny_mono h₄ (fun _ s₅ h₅ => wpAny_pure (wpAny_pure ⟨rfl, h₅⟩)) fun _ _ h' => h')) fun _ _ h' => h'))

section
variable {X : Cx}
/-- [elt for target in iter if ..]: D the new list; W by the turn and a measure, Nx what a turn is to reach -/
def tLc (wi : TI) (g : TG) (tt : TT) (te : TE) (vs : List Nat) : TE := fun σ H Q => wi σ H fun J H1 => ∀ D, H1 D = none → ∃ W : Nat → Nat → Hp → Prop, (∃ m, W 0 m (upd H1 D (.lst []))) ∧ ∀ i m H, W i m H →
  (J.stop i H ∧ Q (.ref D) H) ∨ (J.go i H ∧ ∃ Nx : Hp → Prop, (∀ H', Nx H' → ∃ m', m' < m ∧ W (i + 1) m' H') ∧ ∀ x H', J.yld i H x H' → g x (wipe σ vs) H' fun σ2 H2 => wipe σ2 vs = wipe σ vs ∧ tt σ2 H2 fun b H3 =>
    if b = true then te σ2 H3 fun y H4 => ∃ acc, H4 D = some (.lst acc) ∧ acc.length < sizeLine ∧ Nx (upd H4 D (.lst (acc ++ [y]))) else Nx H3)
theorem lc_core {pins : List (Addr × Obj)} {s : Shared} {σ : St} {H : Hp} {Q : VK} {elt tg iter : Expr} {ifs : List Expr} {scope : Scope} {own : List (Str × Nat)} {pos pos' : Pos} {wi : TI} {g : TG} {tt : TT} {te : TE} {use : Option (Value → Sem Unit)} {Qf : Value → Shared → Prop}
    (hc : X.calm = true) (hN : X.N.Nodup) (I : Inv X pins σ H s) (hi : PI X tg iter wi) (ok : BlkOk X.N X.env.scope scope own)
    (hg : ∀ (s : Shared) (H : Hp) (C : Addr) (cl : List (Str × Addr)) (fp : List Addr), PG (X.blk s H scope (compEnvC scope cl C X.env) fp) tg g) (ht : ∀ (s : Shared) (H : Hp) (C : Addr) (cl : List (Str × Addr)) (fp : List Addr), PTs (X.blk s H scope (compEnvC scope cl C X.env) fp) ifs tt)
    (he : ∀ (s : Shared) (H : Hp) (C : Addr) (cl : List (Str × Addr)) (fp : List Addr), PE (X.blk s H scope (compEnvC scope cl C X.env) fp) elt te) (hs : ∀ x, foldedSetIterable iter X.env x = pure x)
    (h : tLc wi g tt te (own.map (·.2)) σ H Q)
    (hRR : ∀ D C s' m H', Inv X pins σ H' s' → Q (.ref D) H' → s'.heap.Ns C m → FpOk X pins H' C → compPost (model X.prog X.w) X.A X.xe use Qf (.ref D) C (.ok .next) s') :
    wpAny (model X.prog X.w) X.A (comprehension (.ListComp elt [⟨tg, iter, ifs, 0⟩] scope pos) scope X.env pos' (newList []) false (eval iter X.env) use) Qf X.xe s := by
  have hfree : ∀ y ∈ scope.names, y.2 = .free → ∃ c, X.env.cells.lookup y.1 = some c := fun y hy e => by
    rcases ok.free y hy e with k | k
    · exact I.ok.has _ (.inl k)
    · exact I.ok.has _ (.inr k)
  refine wpAny_comprehension_free (use := use) rfl hs (closure_ok hfree) ok.kind (fun y hy e => by rw [ok.uniq y hy, e])
    (thn (hi pins s σ H _ I h) fun xv s1 hx => thn hx fun itv s2 h2 => ?_)
  obtain ⟨it, fp, tn, J, H2, e, I2, T, st2, f2, q⟩ := h2
  subst e
  refine wpAny_newObj_type (newEnv_comp ?_) (by show 0 ≤ sizeLine; decide)
  generalize hD : s2.heap.objs.size = D
  have hDn : H2 D = none := I2.hok.fresh (Nat.le_of_eq hD)
  obtain ⟨W, ⟨m0, w0⟩, turn⟩ := q D hDn
  -- the new list
  generalize hs3 : ({ s2 with heap := s2.heap.push { cls := .type "list", data := .seq ([] : List Value).toArray } } : Shared) = s3
  have I3 : Inv X pins σ (upd H2 D (.lst [])) s3 := by
    rw [← hs3]
    refine I2.laid (t' := s2.toks) (fun b o e => Heap.get?_push_of_some _ e) (Nat.le_of_eq hD) ⟨Nat.zero_le _, [], 0, .nil, ?_⟩
    rw [← hD]
    exact Heap.get?_push_size _ rfl
  have h3 : s3.heap = s2.heap.push { cls := .type "list", data := .seq ([] : List Value).toArray } := by rw [← hs3]
  have sz : ∀ b ∈ fp, b < s2.heap.objs.size := fun b hb => by
    obtain ⟨o, e, _⟩ := T.obj _ _ st2 b hb
    exact Heap.lt_size e
  have f3 : ∀ b ∈ fp, FpOk X pins (upd H2 D (.lst [])) b ∧ b < s3.heap.objs.size := fun b hb => by
    have hlt := sz b hb
    refine ⟨⟨?_, (f2 b hb).2⟩, by rw [h3, Heap.size_push]; exact Nat.lt_succ_of_lt hlt⟩
    rw [upd_ne (by rw [← hD]; exact Nat.ne_of_lt hlt)]
    exact (f2 b hb).1
  have st3 : tn 0 s3.heap := T.keep _ _ _ st2 fun b _ o e => by rw [h3]; exact Heap.get?_push_of_some _ e
  have I4 := block_start I3 ok hN f3
  have pg := hg s3 (upd H2 D (.lst [])) s3.heap.objs.size (cellsFrom (s3.heap.objs.size + 1) scope.names (cloFrom X.env.cells scope.names [])) fp
  have pt := ht s3 (upd H2 D (.lst [])) s3.heap.objs.size (cellsFrom (s3.heap.objs.size + 1) scope.names (cloFrom X.env.cells scope.names [])) fp
  have pe := he s3 (upd H2 D (.lst [])) s3.heap.objs.size (cellsFrom (s3.heap.objs.size + 1) scope.names (cloFrom X.env.cells scope.names [])) fp
  show codeAny _ _ (.compStart (.ListComp elt [⟨tg, iter, ifs, 0⟩] scope pos) 0 (.ref it) (.ref D) (compEnvC scope (cellsFrom (s3.heap.objs.size + 1) scope.names (cloFrom X.env.cells scope.names [])) s3.heap.objs.size X.env)) (compPost (model X.prog X.w) X.A X.xe use Qf (.ref D) s3.heap.objs.size) { s3 with heap := pushCells (s3.heap.push { cls := .type "dict", data := .dict #[] }) scope.names }
  have nfp : ∀ b ∈ fp, (upd H2 D (.lst [])) b = none := fun b hb => (f3 b hb).1.1
  generalize hce : compEnvC scope (cellsFrom (s3.heap.objs.size + 1) scope.names (cloFrom X.env.cells scope.names [])) s3.heap.objs.size X.env = ce at I4 pg pt pe ⊢
  have cL : ce.locals = s3.heap.objs.size := by subst hce; rfl
  generalize hH3 : upd H2 D (.lst []) = H3 at I3 I4 pg pt pe w0 nfp f3
  generalize hs4 : ({ s3 with heap := pushCells (s3.heap.push { cls := .type "dict", data := .dict #[] }) scope.names } : Shared) = s4 at I4 ⊢
  have st4 : tn 0 s4.heap := T.keep _ _ _ st3 fun b _ o e => by rw [← hs4]; exact pushCells_keeps _ _ _ _ (Heap.get?_push_of_some _ e)
  have stat : ∀ {σ' : St} {H' : Hp} {s' : Shared}, Inv (X.blk s3 H3 scope ce fp) [] σ' H' s' → (∀ b ∈ fp, H' b = none) → ∀ b ∈ fp, FpOk (X.blk s3 H3 scope ce fp) [] H' b := fun {σ' H' s'} I' hn b hb =>
    ⟨hn b hb, (I'.ok.exf b hb).1, I'.ok.exfs b hb, .inl hb, fun x c e => (I'.ok.exf b hb).2 x c e, fun p hp => absurd (show p ∈ ([] : List (Addr × Obj)) ++ [] from hp) (by simp)⟩
  have loop : codeAny (model X.prog X.w) X.A (.compLoop (.ListComp elt [⟨tg, iter, ifs, 0⟩] scope pos) 0 (.ref it) (.ref D) ce) (compPost (model X.prog X.w) X.A X.xe use Qf (.ref D) s3.heap.objs.size) s4 := by
    refine compLoop_any (fun n s' => ∃ i H', Inv (X.blk s3 H3 scope ce fp) [] (wipe σ (own.map (·.2))) H' s' ∧ tn i s'.heap ∧ (∀ b ∈ fp, H' b = none) ∧ W i n H') ?_ m0 ⟨0, H3, I4, st4, nfp, w0⟩
    rintro n s5 ⟨i, H5, I5, st5, n5, w5⟩
    rcases turn i n H5 w5 with ⟨stop, qq⟩ | ⟨go, Nx, hNx, step⟩
    · have td := T.done (X.blk s3 H3 scope ce fp) rfl rfl rfl hc i [] s5 _ H5 (fun _ _ => False) I5 (stat I5 n5) st5 stop
      refine thnF td fun r s6 ⟨hr, I6⟩ => ?_
      subst hr
      -- back in the def's context
      have I7 : Inv X pins σ H5 s6 := I3.call' (ch := fp) I6.os I6.base I6.hok I6.bare fun b hb => ⟨(f3 b hb).1.2.2.2.1, (f3 b hb).1.2.1, (f3 b hb).1.2.2.2.2.1, (f3 b hb).1.2.2.2.2.2⟩
      have nC : H5 s3.heap.objs.size = none := by
        have z : H5 ce.locals = none := I6.free
        rw [cL] at z
        exact z
      obtain ⟨m, hn, _⟩ := I6.loc
      have hn : s6.heap.Ns ce.locals m := hn
      rw [cL] at hn
      exact hRR D s3.heap.objs.size s6 m H5 I7 qq hn (I3.fpOk (Nat.le_refl _) nC)
    · have ti := T.item (X.blk s3 H3 scope ce fp) rfl rfl rfl hc i [] s5 _ H5 (fun _ _ => False) I5 (stat I5 n5) st5 go
      refine thnF ti fun r s6 ⟨u, hr, h6⟩ => ?_
      subst hr
      refine thnF h6 fun _ s7 ⟨x, H7, I7, r7, y7, st7, n7⟩ => ?_
      have I7' := I7.pinned (stat I7 n7) (T.obj _ _ st7)
      refine thnF (pg _ s7 _ H7 x u _ I7' r7 (step x H7 y7)) fun _ s8 ⟨σ8, H8, I8, hw8, q8⟩ => ?_
      refine thnF (pt _ s8 σ8 H8 _ I8 q8) fun b s9 ⟨H9, I9, q9⟩ => ?_
      -- the turn's end
      have fin : ∀ {s' : Shared} {H' : Hp}, Inv (X.blk s3 H3 scope ce fp) ([] ++ pinsAt fp s7.heap) σ8 H' s' → Nx H' → ∃ m, m < n ∧ ∃ i H', Inv (X.blk s3 H3 scope ce fp) [] (wipe σ (own.map (·.2))) H' s' ∧ tn i s'.heap ∧ (∀ b ∈ fp, H' b = none) ∧ W i m H' := fun {s' H'} I' nx => by
        obtain ⟨m', hm, w'⟩ := hNx H' nx
        have pin' : ∀ b ∈ fp, ∀ o, s7.heap.get? b = some o → s'.heap.get? b = some o ∧ H' b = none := fun b hb o e =>
          let z := I'.pin (b, o) (List.mem_append_right _ (List.mem_append_right _ (mem_pinsAt hb e)))
          ⟨z.1, z.2.1⟩
        have hl : (wipe σ (own.map (·.2))).length = σ8.length := by rw [← hw8, wipe_length]
        refine ⟨m', hm, i + 1, H', (I'.unpinned (pins := [])).weak hl (fun j v e => ?_), T.keep _ _ _ st7 fun b hb o e => (pin' b hb o e).1, fun b hb => ?_, w'⟩
        · rw [← hw8] at e
          exact (wipe_some e).1
        · obtain ⟨o, e, _⟩ := T.obj _ _ st7 b hb
          exact (pin' b hb o e).2
      cases b with
      | false =>
        simp only [Bool.false_eq_true, if_false] at q9 ⊢
        exact fin I9 q9
      | true =>
        simp only [if_true] at q9 ⊢
        refine thnF (pe _ s9 σ8 H9 _ I9 q9) fun z s10 ⟨yv, H10, I10, r10, acc, hD10, hz10, nx⟩ => ?_
        exact app_ok (X := X.blk s3 H3 scope ce fp) I10 hD10 hz10 r10 fun s11 I11 => fin I11 nx
  exact codeAny_compStart_list loop (T.self X.A 0 _ _ _ st4 loop)
/-- as a value -/
theorem pe_lc {elt tg iter : Expr} {ifs : List Expr} {scope : Scope} {own : List (Str × Nat)} {pos : Pos} {wi : TI} {g : TG} {tt : TT} {te : TE} (hc : X.calm = true) (hN : X.N.Nodup) (hi : PI X tg iter wi) (ok : BlkOk X.N X.env.scope scope own)
    (hg : ∀ (s : Shared) (H : Hp) (C : Addr) (cl : List (Str × Addr)) (fp : List Addr), PG (X.blk s H scope (compEnvC scope cl C X.env) fp) tg g) (ht : ∀ (s : Shared) (H : Hp) (C : Addr) (cl : List (Str × Addr)) (fp : List Addr), PTs (X.blk s H scope (compEnvC scope cl C X.env) fp) ifs tt)
    (he : ∀ (s : Shared) (H : Hp) (C : Addr) (cl : List (Str × Addr)) (fp : List Addr), PE (X.blk s H scope (compEnvC scope cl C X.env) fp) elt te) (hs : ∀ x, foldedSetIterable iter X.env x = pure x := by intro _; rfl) :
    PE X (.ListComp elt [⟨tg, iter, ifs, 0⟩] scope pos) (tLc wi g tt te (own.map (·.2))) := by
  intro pins s σ H Q I h
  rw [eval_ListComp]
  refine lc_core hc hN I hi ok hg ht he hs h fun D C s' m H' I' q hn f => ⟨m, hn, fun h'' sb => ?_⟩
  obtain ⟨f0, f1, f2, f3, f4, f5⟩ := f
  exact ⟨.ref D, H', I'.turned (t' := s'.toks) (fun b o hb e => (sb.2 b hb).trans e) f0 f1 f3 f4 f5, rfl, q⟩
/-- name = [..] on one line, the name a local -/
theorem ps_setLc {i : Nat} {y : Str} {py : Pos} {elt tg iter : Expr} {ifs : List Expr} {scope : Scope} {own : List (Str × Nat)} {pos spos : Pos} {wi : TI} {g : TG} {tt : TT} {te : TE} (hc : X.calm = true) (hN : X.N.Nodup) (hy : X.N[i]? = some y) (hyl : X.env.scope.names.lookup y = some .local)
    (hsw : swapsWith (.ListComp elt [⟨tg, iter, ifs, 0⟩] scope pos) (some (.Name y py)) spos.line X.env = pure true) (hi : PI X tg iter wi) (ok : BlkOk X.N X.env.scope scope own)
    (hg : ∀ (s : Shared) (H : Hp) (C : Addr) (cl : List (Str × Addr)) (fp : List Addr), PG (X.blk s H scope (compEnvC scope cl C X.env) fp) tg g) (ht : ∀ (s : Shared) (H : Hp) (C : Addr) (cl : List (Str × Addr)) (fp : List Addr), PTs (X.blk s H scope (compEnvC scope cl C X.env) fp) ifs tt)
    (he : ∀ (s : Shared) (H : Hp) (C : Addr) (cl : List (Str × Addr)) (fp : List Addr), PE (X.blk s H scope (compEnvC scope cl C X.env) fp) elt te) (hs : ∀ x, foldedSetIterable iter X.env x = pure x := by intro _; rfl) :
    PS X (.Assign [.Name y py] (.ListComp elt [⟨tg, iter, ifs, 0⟩] scope pos) spos) (tAsg (tLc wi g tt te (own.map (·.2))) (gName i)) := by
  intro pins s σ H D I h
  rw [exec_Assign_Name_used _ _ _ _ hsw]
  refine wpAny_bind (wpAny_standAt (wpAny_bind ?_))
  show wpAny _ X.A (do let _ ← comprehension (.ListComp elt [⟨tg, iter, ifs, 0⟩] scope pos) scope X.env (firstIterPos [⟨tg, iter, ifs, 0⟩] pos) (newList []) false (eval iter X.env) (some (assign (.Name y py) X.env))) _ _ s
  have h : tLc wi g tt te (own.map (·.2)) σ H (fun x H1 => gName i x σ H1 D.nx) := h
  refine wpAny_bind (thn (lc_core (Qf := fun _ s' => SP X pins D .next s') hc hN I hi ok hg ht he hs h fun L C s' m H' I' q hn f => ?_) fun _ s' hq => wpAny_pure (wpAny_pure hq))
  show wpAny _ _ (assign (.Name y py) X.env (.ref L)) _ _ _
  refine wpAny_assign_Name (store_ok2 (v := V.ref L) I' hN hy (.inl hyl) rfl (fun s2 I2 ⟨a, sb, ha⟩ => ?_) (.inr hyl))
  obtain ⟨f0, f1, f2, f3, f4, f5⟩ := f
  have haC : C ≠ a := by
    rcases ha with z | z
    · rw [z]; exact f1
    · exact fun e => f4 y a z e.symm
  refine ⟨m, hn.sameBut sb haC, fun h3 sb3 => ?_⟩
  exact ⟨_, H', I2.turned (t' := s2.toks) (fun b o hb e => (sb3.2 b hb).trans e) f0 f1 f3 f4 f5, q⟩
theorem sw_true {elt : Expr} {gs : List Comprehension} {scope : Scope} {pos py : Pos} {y : Str} {l : Nat} {env : Env} (hk : env.scope.kind = .function) (hy : env.scope.names.lookup y = some .local) (hl : (py.line == pos.line) = true)
    (ha : (scope.names.any fun (n, k) => n == y && (k == .local || k == .cell)) = false) : swapsWith (.ListComp elt gs scope pos) (some (.Name y py)) l env = pure true := by
  have ky : env.kindOf y = some .local := hy
  have hb : env.blockKind = .function := by unfold Env.blockKind; rw [hk]; rfl
  unfold swapsWith
  simp only [hb, ky, ha, Expr.pos, hl]
  rfl
end

/-! ### the forms one uses -/
/-- over a range: Pv by the turn and the heap (the new list at D within) -/
theorem lc_range {lo : Int} {n : Nat} {g : TG} {tt : TT} {te : TE} {vs : List Nat} {σ : St} {H1 : Hp} {D : Addr} {Qd : Hp → Prop} (Pv : Nat → Hp → Prop) (h0 : Pv 0 (upd H1 D (.lst [])))
    (hs : ∀ i H, i < n → Pv i H → g (.int (lo + i)) (wipe σ vs) H fun σ2 H2 => wipe σ2 vs = wipe σ vs ∧ tt σ2 H2 fun b H3 =>
      if b = true then te σ2 H3 fun y H4 => ∃ acc, H4 D = some (.lst acc) ∧ acc.length < sizeLine ∧ Pv (i + 1) (upd H4 D (.lst (acc ++ [y]))) else Pv (i + 1) H3) (hd : ∀ H, Pv n H → Qd H) :
    ∃ W : Nat → Nat → Hp → Prop, (∃ m, W 0 m (upd H1 D (.lst []))) ∧ ∀ i m H, W i m H →
      ((Itr lo n).stop i H ∧ Qd H) ∨ ((Itr lo n).go i H ∧ ∃ Nx : Hp → Prop, (∀ H', Nx H' → ∃ m', m' < m ∧ W (i + 1) m' H') ∧ ∀ x H', (Itr lo n).yld i H x H' → g x (wipe σ vs) H' fun σ2 H2 => wipe σ2 vs = wipe σ vs ∧ tt σ2 H2 fun b H3 =>
        if b = true then te σ2 H3 fun y H4 => ∃ acc, H4 D = some (.lst acc) ∧ acc.length < sizeLine ∧ Nx (upd H4 D (.lst (acc ++ [y]))) else Nx H3) := by
  refine ⟨fun i m H => m = n - i ∧ i ≤ n ∧ Pv i H, ⟨n, by simp, Nat.zero_le _, h0⟩, ?_⟩
  rintro i m H ⟨rfl, hi, p⟩
  by_cases hlt : i < n
  · refine .inr ⟨hlt, Pv (i + 1), fun H' p' => ⟨n - (i + 1), by omega, rfl, hlt, p'⟩, fun x H' y => ?_⟩
    obtain ⟨e, y⟩ := y
    subst e y
    exact hs i _ hlt p
  · have e : i = n := by omega
    subst e
    exact .inl ⟨Nat.le_refl _, hd H p⟩
/-- over a list that the block leaves as it is -/
theorem lc_list {K : PySem.W.Frag} {a : Addr} {xs : List V} {g : TG} {tt : TT} {te : TE} {vs : List Nat} {σ : St} {H1 : Hp} {D : Addr} {Qd : Hp → Prop} (Pv : Nat → Hp → Prop) (h0 : Pv 0 (upd H1 D (.lst []))) (hl : ∀ i H, i ≤ xs.length → Pv i H → SqL K H a xs)
    (hs : ∀ i x H, xs[i]? = some x → Pv i H → g x (wipe σ vs) H fun σ2 H2 => wipe σ2 vs = wipe σ vs ∧ tt σ2 H2 fun b H3 =>
      if b = true then te σ2 H3 fun y H4 => ∃ acc, H4 D = some (.lst acc) ∧ acc.length < sizeLine ∧ Pv (i + 1) (upd H4 D (.lst (acc ++ [y]))) else Pv (i + 1) H3) (hd : ∀ H, Pv xs.length H → Qd H) :
    ∃ W : Nat → Nat → Hp → Prop, (∃ m, W 0 m (upd H1 D (.lst []))) ∧ ∀ i m H, W i m H →
      ((Itl K a).stop i H ∧ Qd H) ∨ ((Itl K a).go i H ∧ ∃ Nx : Hp → Prop, (∀ H', Nx H' → ∃ m', m' < m ∧ W (i + 1) m' H') ∧ ∀ x H', (Itl K a).yld i H x H' → g x (wipe σ vs) H' fun σ2 H2 => wipe σ2 vs = wipe σ vs ∧ tt σ2 H2 fun b H3 =>
        if b = true then te σ2 H3 fun y H4 => ∃ acc, H4 D = some (.lst acc) ∧ acc.length < sizeLine ∧ Nx (upd H4 D (.lst (acc ++ [y]))) else Nx H3) := by
  refine ⟨fun i m H => m = xs.length - i ∧ i ≤ xs.length ∧ Pv i H, ⟨xs.length, by simp, Nat.zero_le _, h0⟩, ?_⟩
  rintro i m H ⟨rfl, hi, p⟩
  have q := hl i H hi p
  by_cases hlt : i < xs.length
  · refine .inr ⟨⟨xs, xs[i], q, by simp [hlt]⟩, Pv (i + 1), fun H' p' => ⟨xs.length - (i + 1), by omega, rfl, hlt, p'⟩, fun x H' y => ?_⟩
    obtain ⟨e, y⟩ := y
    subst e
    exact hs i x _ (y xs q) p
  · have e : i = xs.length := by omega
    subst e
    exact .inl ⟨⟨xs, q, Nat.le_refl _⟩, hd H p⟩
/-- over a tuple -/
theorem lc_tup {K : PySem.W.Frag} {a : Addr} {xs : List V} {g : TG} {tt : TT} {te : TE} {vs : List Nat} {σ : St} {H1 : Hp} {D : Addr} {Qd : Hp → Prop} (Pv : Nat → Hp → Prop) (h0 : Pv 0 (upd H1 D (.lst []))) (hl : ∀ i H, i ≤ xs.length → Pv i H → SqT K H a xs)
    (hs : ∀ i x H, xs[i]? = some x → Pv i H → g x (wipe σ vs) H fun σ2 H2 => wipe σ2 vs = wipe σ vs ∧ tt σ2 H2 fun b H3 =>
      if b = true then te σ2 H3 fun y H4 => ∃ acc, H4 D = some (.lst acc) ∧ acc.length < sizeLine ∧ Pv (i + 1) (upd H4 D (.lst (acc ++ [y]))) else Pv (i + 1) H3) (hd : ∀ H, Pv xs.length H → Qd H) :
    ∃ W : Nat → Nat → Hp → Prop, (∃ m, W 0 m (upd H1 D (.lst []))) ∧ ∀ i m H, W i m H →
      ((Itt K a).stop i H ∧ Qd H) ∨ ((Itt K a).go i H ∧ ∃ Nx : Hp → Prop, (∀ H', Nx H' → ∃ m', m' < m ∧ W (i + 1) m' H') ∧ ∀ x H', (Itt K a).yld i H x H' → g x (wipe σ vs) H' fun σ2 H2 => wipe σ2 vs = wipe σ vs ∧ tt σ2 H2 fun b H3 =>
        if b = true then te σ2 H3 fun y H4 => ∃ acc, H4 D = some (.lst acc) ∧ acc.length < sizeLine ∧ Nx (upd H4 D (.lst (acc ++ [y]))) else Nx H3) := by
  refine ⟨fun i m H => m = xs.length - i ∧ i ≤ xs.length ∧ Pv i H, ⟨xs.length, by simp, Nat.zero_le _, h0⟩, ?_⟩
  rintro i m H ⟨rfl, hi, p⟩
  have q := hl i H hi p
  by_cases hlt : i < xs.length
  · refine .inr ⟨⟨xs, xs[i], q, by simp [hlt]⟩, Pv (i + 1), fun H' p' => ⟨xs.length - (i + 1), by omega, rfl, hlt, p'⟩, fun x H' y => ?_⟩
    obtain ⟨e, y⟩ := y
    subst e
    exact hs i x _ (y xs q) p
  · have e : i = xs.length := by omega
    subst e
    exact .inl ⟨⟨xs, q, Nat.le_refl _⟩, hd H p⟩
def blkC (N : List Str) (sc scope : Scope) (own : List (Str × Nat)) : Bool :=
  (match scope.kind with | .function => true | _ => false) && (scope.names.all fun y => decide (scope.names.lookup y.1 = some y.2)) && (own.all fun p => decide (N[p.2]? = some p.1)) &&
    (scope.names.all fun y => match y.2 with
      | .free => (match sc.names.lookup y.1 with | some .cell => true | some .free => true | _ => false)
      | .local => decide (y.1 ∈ own.map (·.1)) || decide (y.1 ∉ N)
      | .cell => decide (y.1 ∈ own.map (·.1)) || decide (y.1 ∉ N)
      | _ => true)
theorem blkOk_by {N : List Str} {sc scope : Scope} {own : List (Str × Nat)} (h : blkC N sc scope own = true) : BlkOk N sc scope own := by
  unfold blkC at h
  simp only [Bool.and_eq_true, List.all_eq_true, decide_eq_true_eq] at h
  obtain ⟨⟨⟨h1, h2⟩, h3⟩, h4⟩ := h
  refine ⟨?_, h2, h3, fun y hy e => ?_, fun y hy e => ?_⟩
  · split at h1
    · assumption
    · cases h1
  · have q := h4 y hy
    simp only [e] at q
    split at q <;> first | exact .inl (by assumption) | exact .inr (by assumption) | cases q
  · have q := h4 y hy
    rcases e with e | e <;> (simp only [e, Bool.or_eq_true, decide_eq_true_eq] at q; exact q)
end L2


namespace L2
open PySem PySem.Spec PyProof.Rows

/-! ### lists of pairs as tables -/
section
variable {κ : Type} [DecidableEq κ]
def valV (kvs : List (κ × V)) (k : κ) : Option V := (kvs.find? fun kv => decide (kv.1 = k)).map (·.2)
/-- in its place, or at the end -/
def putK (kvs : List (κ × V)) (k : κ) (v : V) : List (κ × V) :=
  if (kvs.any fun kv => decide (kv.1 = k)) = true then kvs.map (fun kv => if kv.1 = k then (kv.1, v) else kv) else kvs ++ [(k, v)]
def dropK (kvs : List (κ × V)) (k : κ) : List (κ × V) := kvs.filter fun kv => decide (kv.1 ≠ k)

theorem valV_nil {k : κ} : valV ([] : List (κ × V)) k = none := rfl
theorem valV_pos {p : κ × V} {r : List (κ × V)} {k : κ} (e : p.1 = k) : valV (p :: r) k = some p.2 := by simp [valV, List.find?_cons, e]
theorem valV_neg {p : κ × V} {r : List (κ × V)} {k : κ} (e : ¬ p.1 = k) : valV (p :: r) k = valV r k := by simp [valV, List.find?_cons, e]
theorem valV_any (k : κ) : ∀ kvs : List (κ × V), (kvs.any fun kv => decide (kv.1 = k)) = (valV kvs k).isSome
  | [] => rfl
  | p :: r => by
    rw [List.any_cons]
    by_cases e : p.1 = k
    · simp only [valV_pos e, decide_eq_true e, Bool.true_or, Option.isSome_some]
    · rw [valV_neg e, decide_eq_false e, Bool.false_or]; exact valV_any k r
theorem valV_map (k j : κ) (y : V) : ∀ kvs : List (κ × V), valV (kvs.map fun kv => if kv.1 = k then (kv.1, y) else kv) j = (valV kvs j).map fun x => if j = k then y else x
  | [] => rfl
  | p :: r => by
    have ih := valV_map k j y r
    rw [List.map_cons]
    by_cases h : p.1 = k
    · rw [if_pos h]
      by_cases e : p.1 = j
      · rw [valV_pos (p := (p.1, y)) e, valV_pos e, Option.map_some, if_pos (e.symm.trans h)]
      · rw [valV_neg (p := (p.1, y)) e, valV_neg e, ih]
    · rw [if_neg h]
      by_cases e : p.1 = j
      · rw [valV_pos (p := p) e, valV_pos e, Option.map_some, if_neg (fun z => h (e.trans z))]
      · rw [valV_neg (p := p) e, valV_neg e, ih]
theorem valV_snoc (k j : κ) (y : V) : ∀ kvs : List (κ × V), valV kvs k = none → valV (kvs ++ [(k, y)]) j = if j = k then some y else valV kvs j
  | [], _ => by
    by_cases e : k = j
    · rw [if_pos e.symm]; exact valV_pos (p := (k, y)) e
    · rw [if_neg (fun z => e z.symm)]; exact valV_neg (p := (k, y)) e
  | p :: r, hn => by
    rw [List.cons_append]
    have hk : ¬ p.1 = k := fun z => by rw [valV_pos z] at hn; cases hn
    rw [valV_neg hk] at hn
    have ih := valV_snoc k j y r hn
    by_cases e : p.1 = j
    · rw [valV_pos e, valV_pos e, if_neg (fun z => hk (e.trans z))]
    · rw [valV_neg e, valV_neg e, ih]
theorem valV_put (kvs : List (κ × V)) (k j : κ) (y : V) : valV (putK kvs k y) j = if j = k then some y else valV kvs j := by
  unfold putK
  by_cases a : (kvs.any fun kv => decide (kv.1 = k)) = true
  · rw [if_pos a, valV_map]
    rw [valV_any] at a
    by_cases e : j = k
    · obtain ⟨x, hx⟩ := Option.isSome_iff_exists.mp a
      rw [if_pos e, e, hx, Option.map_some, if_pos rfl]
    · rw [if_neg e]
      cases valV kvs j with
      | none => rfl
      | some x => rw [Option.map_some, if_neg e]
  · rw [if_neg a]
    refine valV_snoc k j y kvs ?_
    rw [valV_any] at a
    cases q : valV kvs k with
    | none => rfl
    | some x => rw [q] at a; exact (a rfl).elim
theorem length_putK (kvs : List (κ × V)) (k : κ) (v : V) : (putK kvs k v).length ≤ kvs.length + 1 := by
  unfold putK
  split
  · rw [List.length_map]; omega
  · rw [List.length_append, List.length_cons, List.length_nil]; omega
theorem putK_new {kvs : List (κ × V)} {k : κ} (v : V) (h : valV kvs k = none) : putK kvs k v = kvs ++ [(k, v)] := by
  unfold putK
  rw [valV_any, h]
  exact if_neg (by decide)

theorem RelO.isSome_eq {o : Option V} {u : Option Value} (r : RelO o u) : o.isSome = u.isSome := by
  cases o with
  | none => cases u with
    | none => rfl
    | some _ => exact (show False from r).elim
  | some _ => cases u with
    | none => exact (show False from r).elim
    | some _ => rfl
theorem RelO.getD {o : Option V} {u : Option Value} {d : V} {d' : Value} (r : RelO o u) (rd : RelV d d') : RelV (o.getD d) (u.getD d') := by
  cases o with
  | none => cases u with
    | none => exact rd
    | some _ => exact (show False from r).elim
  | some _ => cases u with
    | none => exact (show False from r).elim
    | some _ => exact r

/-- raw tables of the same keys -/
theorem KV.val {kvs : List (κ × V)} {vs : List (κ × Value)} (r : KV kvs vs) (k : κ) : RelO (valV kvs k) (valueAt vs k) := by
  unfold KV at r
  induction r with
  | nil => exact True.intro
  | @cons p q ps qs h t ih =>
    obtain ⟨h1, h2⟩ := h
    by_cases e : p.1 = k
    · have e' : q.1 = k := h1.symm.trans e
      have b : valueAt (q :: qs) k = some q.2 := by simp [valueAt, List.find?_cons, e']
      rw [valV_pos e, b]; exact h2
    · have e' : ¬ q.1 = k := fun z => e (h1.trans z)
      have b : valueAt (q :: qs) k = valueAt qs k := by simp [valueAt, List.find?_cons, e']
      rw [valV_neg e, b]; exact ih
theorem KV.any {kvs : List (κ × V)} {vs : List (κ × Value)} (r : KV kvs vs) (k : κ) : (kvs.any fun kv => decide (kv.1 = k)) = vs.any fun kv => decide (kv.1 = k) := by
  unfold KV at r
  induction r with
  | nil => rfl
  | cons h t ih => rw [List.any_cons, List.any_cons, ih, h.1]
theorem KV.repl {kvs : List (κ × V)} {vs : List (κ × Value)} (r : KV kvs vs) (k : κ) {y : V} {u : Value} (ry : RelV y u) :
    KV (kvs.map fun kv => if kv.1 = k then (kv.1, y) else kv) (vs.map fun kv => if kv.1 = k then (kv.1, u) else kv) := by
  unfold KV at r ⊢
  induction r with
  | nil => exact .nil
  | @cons p q ps qs h t ih =>
    rw [List.map_cons, List.map_cons]
    refine .cons ?_ ih
    obtain ⟨h1, h2⟩ := h
    by_cases e : p.1 = k
    · rw [if_pos e, if_pos (h1.symm.trans e)]; exact ⟨h1, ry⟩
    · rw [if_neg e, if_neg (fun z => e (h1.trans z))]; exact ⟨h1, h2⟩
theorem KV.put {kvs : List (κ × V)} {vs : List (κ × Value)} (r : KV kvs vs) (k : κ) {y : V} {u : Value} (ry : RelV y u) : KV (putK kvs k y) (stored vs k u) := by
  unfold putK stored
  rw [r.any k]
  by_cases e : (vs.any fun kv => decide (kv.1 = k)) = true
  · rw [if_pos e, if_pos e]; exact r.repl k ry
  · rw [if_neg e, if_neg e]; exact Paired.snoc r ⟨rfl, ry⟩
theorem KV.drop {kvs : List (κ × V)} {vs : List (κ × Value)} (r : KV kvs vs) (k : κ) : KV (dropK kvs k) (without vs k) := by
  unfold KV at r ⊢
  unfold dropK without
  induction r with
  | nil => exact .nil
  | @cons p q ps qs h t ih =>
    obtain ⟨h1, h2⟩ := h
    rw [List.filter_cons, List.filter_cons]
    by_cases e : p.1 = k
    · have a : ¬ decide (p.1 ≠ k) = true := by simp [e]
      have b : ¬ decide (q.1 ≠ k) = true := by simp [h1.symm.trans e]
      rw [if_neg a, if_neg b]; exact ih
    · have e' : ¬ q.1 = k := fun z => e (h1.trans z)
      have a : decide (p.1 ≠ k) = true := by simp [e]
      have b : decide (q.1 ≠ k) = true := by simp [e']
      rw [if_pos a, if_pos b]; exact .cons ⟨h1, h2⟩ ih
theorem KV.keys {kvs : List (κ × V)} {vs : List (κ × Value)} (r : KV kvs vs) : kvs.map (·.1) = vs.map (·.1) := by
  unfold KV at r
  induction r with
  | nil => rfl
  | cons h t ih => rw [List.map_cons, List.map_cons, ih, h.1]
theorem KV.length {kvs : List (κ × V)} {vs : List (κ × Value)} (r : KV kvs vs) : kvs.length = vs.length := Paired.length r
theorem dropK_le (kvs : List (κ × V)) (k : κ) : (dropK kvs k).length ≤ kvs.length := List.length_filter_le _ _
end


/-! ### a tracked dict, its keys ints and texts or tuples of these -/
theorem kV_is {P : Program} {w : World} {k : Key} {u : Value} (r : RelV (kV k) u) : (mixKind P w).is k u = true := by
  cases k with
  | inl i => obtain ⟨t, e⟩ := (show ∃ t, u = Value.int i t from r); subst e; exact mixKind_int P w i t
  | inr x => obtain ⟨t, e⟩ := (show ∃ t, u = Value.str x t from r); subst e; exact mixKind_str P w x t
theorem kV_inj {a b : Key} (e : kV a = kV b) : a = b := by
  cases a with
  | inl i => cases b with
    | inl j => have e' : V.int i = V.int j := e; injection e' with e'; rw [e']
    | inr y => exact nomatch (show V.int i = V.str y from e)
  | inr x => cases b with
    | inl j => exact nomatch (show V.str x = V.int j from e)
    | inr y => have e' : V.str x = V.str y := e; injection e' with e'; rw [e']
theorem kVs_inj : ∀ {a b : List Key}, a.map kV = b.map kV → a = b
  | [], [], _ => rfl
  | [], _ :: _, e => by simp at e
  | _ :: _, [], e => by simp at e
  | x :: xs, y :: ys, e => by
    rw [List.map_cons, List.map_cons] at e
    injection e with e1 e2
    rw [kV_inj e1, kVs_inj e2]
theorem items_are {P : Program} {w : World} : ∀ {ks : List Key} {us : List Value}, Vals (ks.map kV) us → ItemsAre (mixKind P w) ks us
  | [], _, r => by rw [List.map_nil] at r; cases r; exact .nil
  | k :: ks, _, r => by
    rw [List.map_cons] at r
    cases r with
    | cons h t => exact .cons (kV_is h) (items_are t)

/-- raw entries of a dict with tuple keys -/
abbrev KT (H : Hp) : List (List Key × V) → List (List Key × Addr × Value) → Prop := Paired fun p q => p.1 = q.1 ∧ H q.2.1 = some (.tup (p.1.map kV)) ∧ RelV p.2 q.2.2
theorem KT.val {H : Hp} {kvs : List (List Key × V)} {xs : List (List Key × Addr × Value)} (r : KT H kvs xs) (k : List Key) : RelO (valV kvs k) ((atKey xs k).map (·.2)) := by
  induction r with
  | nil => exact True.intro
  | @cons p q ps qs h t ih =>
    obtain ⟨h1, _, h2⟩ := h
    by_cases e : p.1 = k
    · have e' : q.1 = k := h1.symm.trans e
      have b : atKey (q :: qs) k = some q.2 := by simp [atKey, List.find?_cons, e']
      rw [valV_pos e, b]; exact h2
    · have e' : ¬ q.1 = k := fun z => e (h1.trans z)
      have b : atKey (q :: qs) k = atKey qs k := by simp [atKey, List.find?_cons, e']
      rw [valV_neg e, b]; exact ih
theorem KT.repl {H : Hp} {kvs : List (List Key × V)} {xs : List (List Key × Addr × Value)} (r : KT H kvs xs) (k : List Key) {y : V} {u : Value} (ry : RelV y u) :
    KT H (kvs.map fun kv => if kv.1 = k then (kv.1, y) else kv) (xs.map (putAt k u)) := by
  induction r with
  | nil => exact .nil
  | @cons p q ps qs h t ih =>
    rw [List.map_cons, List.map_cons]
    refine .cons ?_ ih
    obtain ⟨h1, h2, h3⟩ := h
    unfold putAt
    by_cases e : p.1 = k
    · rw [if_pos e, if_pos (h1.symm.trans e)]; exact ⟨h1, h2, ry⟩
    · rw [if_neg e, if_neg (fun z => e (h1.trans z))]; exact ⟨h1, h2, h3⟩
theorem KT.put {H : Hp} {kvs : List (List Key × V)} {xs : List (List Key × Addr × Value)} (r : KT H kvs xs) (k : List Key) {b : Addr} {y : V} {u : Value} (hb : H b = some (.tup (k.map kV))) (ry : RelV y u) :
    KT H (putK kvs k y) (storedH xs k b u) := by
  have e : (kvs.any fun kv => decide (kv.1 = k)) = (atKey xs k).isSome := by
    rw [valV_any, (r.val k).isSome_eq, Option.isSome_map]
  unfold putK storedH
  rw [e]
  by_cases q : (atKey xs k).isSome = true
  · rw [if_pos q, if_pos q]; exact r.repl k ry
  · rw [if_neg q, if_neg q]; exact Paired.snoc r ⟨rfl, hb, ry⟩
theorem KT.keeps {H H' : Hp} {kvs : List (List Key × V)} {xs : List (List Key × Addr × Value)} (r : KT H kvs xs) (ht : ∀ b ys, H b = some (.tup ys) → H' b = some (.tup ys)) : KT H' kvs xs :=
  Paired.mapP r fun _ _ z => ⟨z.1, ht _ _ z.2.1, z.2.2⟩

section
variable {P : Program} {w : World} {H : Hp} {h : Heap} {a : Addr}
theorem rd_of {u : HO} (ok : HOk P w H h) (e : Rd H a u) : ObjOk P w H h a u := e.ok ok
theorem dk_rd {kvs : List (Key × V)} (ok : HOk P w H h) (e : Rd H a (.dK kvs)) : kvs.length ≤ sizeLine ∧ (a == sysModules) = false ∧ ∃ vs, KV kvs vs ∧ h.DictOf (mixKind P w) a vs :=
  show ObjOk P w H h a (.dK kvs) from rd_of ok e
theorem dk_of {kvs : List (Key × V)} (ok : HOk P w H h) (e : H a = some (.dK kvs)) : kvs.length ≤ sizeLine ∧ (a == sysModules) = false ∧ ∃ vs, KV kvs vs ∧ h.DictOf (mixKind P w) a vs := dk_rd ok (.inl e)
/-- a tracked tuple of ints and texts is a key -/
theorem key_of {ks : List Key} (ok : HOk P w H h) (e : H a = some (.tup (ks.map kV))) : (tupleKind (mixKind P w)).is h ks a := by
  obtain ⟨_, its, r, o, h1, h2, n, h3⟩ := (show ObjOk P w H h a (.tup (ks.map kV)) from ok a _ e)
  exact ⟨o, its.toArray, n, h1, h2, h3, by simpa using items_are r⟩
theorem dt_rd {kvs : List (List Key × V)} (ok : HOk P w H h) (e : Rd H a (.dT kvs)) : kvs.length ≤ sizeLine ∧ (a == sysModules) = false ∧
    ∃ xs, KT H kvs xs ∧ h.DictOfH (tupleKind (mixKind P w)) a xs := by
  obtain ⟨z, y, xs, r, o, es, ep, h1, h2, h3, h4, h5⟩ := (show ObjOk P w H h a (.dT kvs) from rd_of ok e)
  refine ⟨z, y, xs, r, o, es, ep, h1, h2, h3, h4, fun x hx => ?_, h5⟩
  have all : ∀ {l : List (List Key × V)} {m : List (List Key × Addr × Value)}, KT H l m → ∀ x ∈ m, (tupleKind (mixKind P w)).is h x.1 x.2.1 := by
    intro l m q
    induction q with
    | nil => intro x hx; exact nomatch hx
    | @cons p q ps qs hq t ih =>
      intro x hx
      rcases List.mem_cons.mp hx with e | hx
      · subst e
        exact key_of ok (by rw [← hq.1]; exact hq.2.1)
      · exact ih x hx
  exact all r x hx
theorem dt_of {kvs : List (List Key × V)} (ok : HOk P w H h) (e : H a = some (.dT kvs)) : kvs.length ≤ sizeLine ∧ (a == sysModules) = false ∧
    ∃ xs, KT H kvs xs ∧ h.DictOfH (tupleKind (mixKind P w)) a xs := dt_rd ok (.inl e)
end

/-- what the dict at a holds at the key y -/
def DGet (H : Hp) (a : Addr) (y : V) (r : Option V) : Prop :=
  (∃ kvs k, Rd H a (.dK kvs) ∧ y = kV k ∧ r = valV kvs k) ∨ ∃ kvs k b, Rd H a (.dT kvs) ∧ y = .ref b ∧ H b = some (.tup (k.map kV)) ∧ r = valV kvs k
/-- the heap behind a[y] = v -/
def DPut (H : Hp) (a : Addr) (y v : V) (H' : Hp) : Prop :=
  (∃ kvs k, H a = some (.dK kvs) ∧ y = kV k ∧ kvs.length < sizeLine ∧ H' = upd H a (.dK (putK kvs k v))) ∨
  ∃ kvs k b, H a = some (.dT kvs) ∧ y = .ref b ∧ H b = some (.tup (k.map kV)) ∧ kvs.length < sizeLine ∧ H' = upd H a (.dT (putK kvs k v))
theorem DGet.k {H : Hp} {a : Addr} {kvs : List (Key × V)} {k : Key} (e : H a = some (.dK kvs)) : DGet H a (kV k) (valV kvs k) := .inl ⟨kvs, k, .inl e, rfl, rfl⟩
theorem DGet.t {H : Hp} {a b : Addr} {kvs : List (List Key × V)} {k : List Key} (e : H a = some (.dT kvs)) (eb : H b = some (.tup (k.map kV))) : DGet H a (.ref b) (valV kvs k) := .inr ⟨kvs, k, b, .inl e, rfl, eb, rfl⟩
theorem DPut.k {H : Hp} {a : Addr} {kvs : List (Key × V)} {k : Key} {v : V} (e : H a = some (.dK kvs)) (hl : kvs.length < sizeLine) : DPut H a (kV k) v (upd H a (.dK (putK kvs k v))) := .inl ⟨kvs, k, e, rfl, hl, rfl⟩
theorem DPut.t {H : Hp} {a b : Addr} {kvs : List (List Key × V)} {k : List Key} {v : V} (e : H a = some (.dT kvs)) (eb : H b = some (.tup (k.map kV))) (hl : kvs.length < sizeLine) :
    DPut H a (.ref b) v (upd H a (.dT (putK kvs k v))) := .inr ⟨kvs, k, b, e, rfl, eb, hl, rfl⟩


section
variable {X : Cx} {pins : List (Addr × Obj)} {σ : St} {H : Hp} {s : Shared} {a : Addr} {y v : V} {u r : Value} {o : Option V} {A : Around} {E : Value → Shared → Prop}

theorem Inv.big (I : Inv X pins σ H s) : sysModules < s.heap.objs.size := by
  have h : mainGlobals < s.heap.objs.size := (I.mod.glob.keeps I.bk).lt
  exact Nat.lt_trans (by decide) h

/-- d[y], there -/
theorem d_getItem {Q : Value → Shared → Prop} (hu : A.units + 1 < cLine) (I : Inv X pins σ H s) (g : DGet H a y (some v)) (ry : RelV y u) (h : ∀ w' s', Inv X pins σ H s' → RelV v w' → Q w' s') :
    wpAny (model X.prog X.w) A (getItem (.ref a) u) Q E s := by
  rcases g with ⟨kvs, k, e, ey, l⟩ | ⟨kvs, k, b, e, ey, eb, l⟩
  · subst ey
    obtain ⟨z, hd, vs, rel, dd⟩ := dk_rd I.hok e
    obtain ⟨w', hw, rw'⟩ := RelO.some_of (v := v) (o := valueAt vs k) (by rw [l]; exact rel.val k)
    exact wpAny_getItem_of (kV_is ry) dd.mapOf hw (h w' _ (I.tok _) rw')
  · subst ey
    cases (show u = Value.ref b from ry)
    obtain ⟨z, hd, xs, rel, dd⟩ := dt_rd I.hok e
    obtain ⟨w', hw, rw'⟩ := RelO.some_of (v := v) (o := (atKey xs k).map (·.2)) (by rw [l]; exact rel.val k)
    obtain ⟨p, hp, hp2⟩ := Option.map_eq_some_iff.mp hw
    refine wpAny_getItem_heap (tupleKind_room_in1 hu) (key_of I.hok eb) dd hp ?_
    rw [hp2]
    exact h w' _ (I.tok _) rw'
/-- y in d -/
theorem d_in {Q : Value → Shared → Prop} (hu : A.units + 1 < cLine) (I : Inv X pins σ H s) (g : DGet H a y o) (ry : RelV y u) (h : ∀ s', Inv X pins σ H s' → Q (.bool o.isSome) s') :
    wpAny (model X.prog X.w) A (compareOp .In u (.ref a)) Q E s := by
  rcases g with ⟨kvs, k, e, ey, l⟩ | ⟨kvs, k, b, e, ey, eb, l⟩
  · subst ey
    obtain ⟨z, hd, vs, rel, dd⟩ := dk_rd I.hok e
    refine wpAny_in_of (kV_is ry) hd dd.mapOf ?_
    rw [← (rel.val k).isSome_eq, ← l]
    exact h _ (I.tok _)
  · subst ey
    cases (show u = Value.ref b from ry)
    obtain ⟨z, hd, xs, rel, dd⟩ := dt_rd I.hok e
    refine wpAny_in_heap (tupleKind_room_in1 hu) (key_of I.hok eb) hd dd ?_
    have q := (rel.val k).isSome_eq
    rw [Option.isSome_map] at q
    rw [← q, ← l]
    exact h _ (I.tok _)
theorem d_notIn {Q : Value → Shared → Prop} (hu : A.units + 1 < cLine) (I : Inv X pins σ H s) (g : DGet H a y o) (ry : RelV y u) (h : ∀ s', Inv X pins σ H s' → Q (.bool (!o.isSome)) s') :
    wpAny (model X.prog X.w) A (compareOp .NotIn u (.ref a)) Q E s := by
  rcases g with ⟨kvs, k, e, ey, l⟩ | ⟨kvs, k, b, e, ey, eb, l⟩
  · subst ey
    obtain ⟨z, hd, vs, rel, dd⟩ := dk_rd I.hok e
    refine wpAny_notIn_of (kV_is ry) hd dd.mapOf ?_
    rw [← (rel.val k).isSome_eq, ← l]
    exact h _ (I.tok _)
  · subst ey
    cases (show u = Value.ref b from ry)
    obtain ⟨z, hd, xs, rel, dd⟩ := dt_rd I.hok e
    refine wpAny_notIn_heap (tupleKind_room_in1 hu) (key_of I.hok eb) hd dd ?_
    have q := (rel.val k).isSome_eq
    rw [Option.isSome_map] at q
    rw [← q, ← l]
    exact h _ (I.tok _)
/-- a dict's object is replaced -/
theorem d_write {h' : Heap} {t' : Nat} {ob : HO} (I : Inv X pins σ H s) (mu : Mut (H a)) (hs : Heap.SameBut a s.heap h') (he : ∃ q, h'.get? a = some q) (new : ObjOk X.prog X.w (upd H a ob) h' a ob) :
    Inv X pins σ (upd H a ob) { s with heap := h', toks := t' } :=
  I.write (x := a) (e := a) mu (.inl rfl) (fun b q hb z => (hs.2 b hb).trans z) he new
theorem dk_new {P : Program} {w : World} {H' : Hp} {h' : Heap} {kvs : List (Key × V)} {vs : List (Key × Value)} (z : kvs.length ≤ sizeLine) (hd : (a == sysModules) = false) (rel : KV kvs vs) (dd : h'.DictOf (mixKind P w) a vs) :
    ObjOk P w H' h' a (.dK kvs) := ⟨z, hd, vs, rel, dd⟩
/-- d[y] = v -/
theorem d_setItem {H' : Hp} {Q : Unit → Shared → Prop} (hu : A.units + 1 < cLine) (I : Inv X pins σ H s) (g : DPut H a y v H') (ry : RelV y u) (rv : RelV v r) (h : ∀ s', Inv X pins σ H' s' → Q () s') :
    wpAny (model X.prog X.w) A (setItem (.ref a) u r) Q E s := by
  rcases g with ⟨kvs, k, e, ey, l, eH⟩ | ⟨kvs, k, b, e, ey, eb, l, eH⟩
  · subst ey eH
    obtain ⟨z, hd, vs, rel, dd⟩ := dk_of I.hok e
    have hz : vs.length ≤ sizeLine := by rw [← rel.length]; exact z
    have hl : (putK kvs k v).length ≤ sizeLine := by have := length_putK kvs k v; omega
    refine wpAny_setItem_pairs (hsz := hz) (kV_is ry) dd fun h' dd' hs => h _ ?_
    have he : ∃ q, h'.get? a = some q := let ⟨q, _, _, hq, _⟩ := dd'; ⟨q, hq⟩
    exact d_write I (by rw [e]; exact True.intro) hs he (dk_new hl hd (rel.put k rv) dd')
  · subst ey eH
    cases (show u = Value.ref b from ry)
    obtain ⟨z, hd, xs, rel, dd⟩ := dt_of I.hok e
    have hz : xs.length ≤ sizeLine := by rw [← Paired.length rel]; exact z
    have hl : (putK kvs k v).length ≤ sizeLine := by have := length_putK kvs k v; omega
    refine wpAny_setItem_heap (hsz := hz) (tupleKind_room_in1 hu) (key_of I.hok eb) dd fun h' dd' hs => h _ ?_
    obtain ⟨q, es, ep, hq, h2, h3, h4, _, h5⟩ := dd'
    refine d_write I (by rw [e]; exact True.intro) hs ⟨q, hq⟩ ⟨hl, hd, _, (rel.put k eb rv).keeps fun c ys ec => ?_, q, es, ep, hq, h2, h3, h4, h5⟩
    rw [upd_ne (ne_of ec e (fun z => nomatch z))]
    exact ec
end

section
variable {X : Cx} {pins : List (Addr × Obj)} {σ : St} {H : Hp} {s : Shared} {a : Addr} {kvs : List (Key × V)} {k : Key} {u : Value} {A : Around} {E : Value → Shared → Prop}
/-- del d[k] -/
theorem d_delItem {Q : Unit → Shared → Prop} (I : Inv X pins σ H s) (e : H a = some (.dK kvs)) (ry : RelV (kV k) u) (l : (valV kvs k).isSome = true) (h : ∀ s', Inv X pins σ (upd H a (.dK (dropK kvs k))) s' → Q () s') :
    wpAny (model X.prog X.w) A (delItem (.ref a) u) Q E s := by
  obtain ⟨z, hd, vs, rel, dd⟩ := dk_of I.hok e
  refine wpAny_delItem_slot dd.typeIs (by decide) PySem.F.slot_dict_delitem
    (call_meetsIn PySem.F.slot_dict_delitem dd.typeIs PySem.F.entry_dict_delitem (PySem.F.args_dict_delitem_2 _ _) (meets_dict_delitem_pairs (mixKind X.prog X.w) a (kV_is ry)) ⟨vs, dd, by rw [← rel.length]; exact z, by rw [← (rel.val k).isSome_eq]; exact l, fun h' dd' hs => h _ ?_⟩)
  have he : ∃ q, h'.get? a = some q := let ⟨q, _, _, hq, _⟩ := dd'; ⟨q, hq⟩
  exact d_write I (by rw [e]; exact True.intro) hs he (dk_new (Nat.le_trans (dropK_le kvs k) z) hd (rel.drop k) dd')
/-- d.pop(k[, x]), there -/
theorem d_pop {v : V} {more : List Value} {Q : Value → Shared → Prop} (I : Inv X pins σ H s) (e : H a = some (.dK kvs)) (ry : RelV (kV k) u) (l : valV kvs k = some v) (hm : more = [] ∨ ∃ x, more = [x])
    (h : ∀ w' s', Inv X pins σ (upd H a (.dK (dropK kvs k))) s' → RelV v w' → Q w' s') : wpAny (model X.prog X.w) A (call (.builtin "dict.pop") (.ref a :: u :: more)) Q E s := by
  obtain ⟨z, hd, vs, rel, dd⟩ := dk_of I.hok e
  obtain ⟨w', hw, rw'⟩ := RelO.some_of (v := v) (o := valueAt vs k) (by rw [← l]; exact rel.val k)
  have hp : (keyPart u).isSome = true := by
    cases k with
    | inl i => obtain ⟨t, q⟩ := (show ∃ t, u = Value.int i t from ry); subst q; rfl
    | inr x => obtain ⟨t, q⟩ := (show ∃ t, u = Value.str x t from ry); subst q; rfl
  have ha : argsOk "dict.pop" ⟨.ref a :: u :: more, []⟩ := by
    rcases hm with q | ⟨x, q⟩
    · subst q; exact PySem.F.args_dict_pop_2 _ _
    · subst q; exact PySem.F.args_dict_pop_3 _ _ _
  refine call_meetsIn PySem.F.slot_dict_pop dd.typeIs PySem.F.entry_dict_pop ha (meets_dict_pop_there (mixKind X.prog X.w) a (kV_is ry) more hm hp)
    ⟨vs, w', dd, by rw [← rel.length]; exact z, hw, fun h' dd' hs => h w' _ ?_ rw'⟩
  have he : ∃ q, h'.get? a = some q := let ⟨q, _, _, hq, _⟩ := dd'; ⟨q, hq⟩
  exact d_write I (by rw [e]; exact True.intro) hs he (dk_new (Nat.le_trans (dropK_le kvs k) z) hd (rel.drop k) dd')
/-- d.pop(k, x), not there -/
theorem d_popD {r : Value} {Q : Value → Shared → Prop} (I : Inv X pins σ H s) (e : H a = some (.dK kvs)) (ry : RelV (kV k) u) (l : valV kvs k = none) (h : ∀ s', Inv X pins σ H s' → Q r s') :
    wpAny (model X.prog X.w) A (call (.builtin "dict.pop") [.ref a, u, r]) Q E s := by
  obtain ⟨z, hd, vs, rel, dd⟩ := dk_of I.hok e
  have hn : valueAt vs k = none := RelO.none_of (by rw [← l]; exact rel.val k)
  have hp : (keyPart u).isSome = true := by
    cases k with
    | inl i => obtain ⟨t, q⟩ := (show ∃ t, u = Value.int i t from ry); subst q; rfl
    | inr x => obtain ⟨t, q⟩ := (show ∃ t, u = Value.str x t from ry); subst q; rfl
  exact call_meetsIn PySem.F.slot_dict_pop dd.typeIs PySem.F.entry_dict_pop (PySem.F.args_dict_pop_3 _ _ _) (meets_dict_pop_default (mixKind X.prog X.w) a (kV_is ry) hd hp r) ⟨vs, dd, hn, h _ (I.tok _)⟩
/-- d.clear() -/
theorem d_clear {Q : Value → Shared → Prop} (I : Inv X pins σ H s) (e : H a = some (.dK kvs)) (h : ∀ s', Inv X pins σ (upd H a (.dK [])) s' → Q .none s') : wpAny (model X.prog X.w) A (call (.builtin "dict.clear") [.ref a]) Q E s := by
  obtain ⟨z, hd, vs, rel, dd⟩ := dk_of I.hok e
  refine call_meetsIn PySem.F.slot_dict_clear dd.typeIs PySem.F.entry_dict_clear (PySem.F.args_dict_clear_1 _) (meets_dict_clear (mixKind X.prog X.w) a) ⟨vs, dd, by rw [← rel.length]; exact z, fun h' dd' hs => h _ ?_⟩
  have he : ∃ q, h'.get? a = some q := let ⟨q, _, _, hq, _⟩ := dd'; ⟨q, hq⟩
  exact d_write (t' := s.toks) I (by rw [e]; exact True.intro) hs he (dk_new (Nat.zero_le _) hd .nil dd')
/-- len(d) -/
theorem d_len {Q : Value → Shared → Prop} (I : Inv X pins σ H s) (e : Rd H a (.dK kvs)) (h : ∀ t s', Inv X pins σ H s' → Q (.int kvs.length t) s') : wpAny (model X.prog X.w) A (call (.builtin "len") [.ref a]) Q E s := by
  obtain ⟨z, hd, vs, rel, dd⟩ := dk_rd I.hok e
  refine call_len_dict hd dd (by rw [← rel.length]; rw [sizeLine_eq] at z; omega) ?_
  rw [← rel.length]
  exact h _ _ (I.tok _)
/-- if d -/
theorem d_truth {Q : Bool → Shared → Prop} (I : Inv X pins σ H s) (e : Rd H a (.dK kvs)) (h : ∀ s', Inv X pins σ H s' → Q (!kvs.isEmpty) s') : wpAny (model X.prog X.w) A (truthy (.ref a)) Q E s := by
  obtain ⟨z, hd, vs, rel, dd⟩ := dk_rd I.hok e
  refine wpAny_truthy_dict hd dd (by rw [← rel.length]; rw [sizeLine_eq] at z; omega) ?_
  have q : kvs.isEmpty = vs.isEmpty := by cases rel <;> rfl
  rw [← q]
  exact h _ (I.tok _)
end


/-! ### readings and rules -/
/-- the element of a subscription, not a slice -/
def NoSl (i : Expr) : Prop := ∀ ov iv, subscripted i false ov iv = operate [ov, iv] (getItem ov iv)
theorem subD_of {prog : Program} {w : World} {A : Around} {E : Value → Shared → Prop} {s : Shared} {env : Env} {value slice : Expr} {pos : Pos} {T id : String} {Q : Value → Shared → Prop}
    (hl : typeLookup (.type T) "__getitem__" = pure (some (.builtin id))) (hs : NoSl slice)
    (h : wpAny (model prog w) A (eval value env) (fun o s₁ => wpAny (model prog w) A (eval slice env) (fun i s₂ => s₂.TypeIs o T ∧ wpAny (model prog w) A (getItem o i) Q E s₂) E s₁) E s) :
    wpAny (model prog w) A (eval (.Subscript value slice pos) env) Q E s := by
  refine Subscript_ (wpAny_mono h (fun o s₁ h₁ => wpAny_mono h₁ (fun i s₂ h₂ => ?_) fun _ _ x => x) fun _ _ x => x)
  obtain ⟨hT, h₂⟩ := h₂
  unfold subscriptTail
  refine wpAny_bind ?_
  rw [getitemInPython_of_ne hT.not_modules]
  refine wpAny_bind (wpAny_specialOf hT hl ?_)
  have fin : wpAny (model prog w) A (subscripted slice false o i) (fun r s₃ => wpAny (model prog w) A (letTemporaryGo value o r >>= fun _ => pure r) Q E s₃) E s₂ := by
    rw [hs o i]
    exact wpAny_operating (wpAny_mono h₂ (fun r s₃ h₃ => wpAny_bind (wpAny_letTemporaryGo (wpAny_pure h₃))) fun _ _ x => x)
  first
    | exact wpAny_pure (wpAny_bind fin)
    | exact wpAny_bind (wpAny_pure (wpAny_bind fin))
    | exact wpAny_bind fin

theorem dict_typeIs {X : Cx} {pins : List (Addr × Obj)} {σ : St} {H : Hp} {s : Shared} {a : Addr} {y : V} {o : Option V} (I : Inv X pins σ H s) (g : DGet H a y o) : s.TypeIs (.ref a) "dict" := by
  rcases g with ⟨kvs, k, e, _, _⟩ | ⟨kvs, k, b, e, _, _, _⟩
  · obtain ⟨_, _, vs, _, dd⟩ := dk_rd I.hok e
    exact dd.typeIs
  · obtain ⟨_, _, xs, _, dd⟩ := dt_rd I.hok e
    exact dd.typeIs
theorem dict_noDict {X : Cx} {pins : List (Addr × Obj)} {σ : St} {H : Hp} {s : Shared} {a : Addr} {y : V} {o : Option V} (I : Inv X pins σ H s) (g : DGet H a y o) :
    ∀ b, Value.ref a = .ref b → ∃ ob, s.heap.get? b = some ob ∧ ob.dict = none := fun b q => by
  cases q
  rcases g with ⟨kvs, k, e, _, _⟩ | ⟨kvs, k, b, e, _, _, _⟩
  · obtain ⟨_, _, vs, _, ob, _, _, h1, h2, _⟩ := dk_rd I.hok e
    exact ⟨ob, h1, h2.2.1⟩
  · obtain ⟨_, _, xs, _, ob, _, _, h1, h2, _⟩ := dt_rd I.hok e
    exact ⟨ob, h1, h2.2.1⟩

/-- d[y] -/
def tDGet (td ty : TE) : TE := fun σ H Q => td σ H fun x H1 => ty σ H1 fun y H2 => ∃ a v, x = .ref a ∧ DGet H2 a y (some v) ∧ Q v H2
/-- y in d, y not in d -/
def tDIn (ty td : TE) : TE := fun σ H Q => ty σ H fun y H1 => td σ H1 fun x H2 => ∃ a o, x = .ref a ∧ DGet H2 a y o ∧ Q (.bl o.isSome) H2
def tDNotIn (ty td : TE) : TE := fun σ H Q => ty σ H fun y H1 => td σ H1 fun x H2 => ∃ a o, x = .ref a ∧ DGet H2 a y o ∧ Q (.bl (!o.isSome)) H2
/-- d[y] = v -/
def sDPut (td ty tv : TE) : TS := fun D σ H => tv σ H fun v H1 => td σ H1 fun x H2 => ty σ H2 fun y H3 => ∃ a H4, x = .ref a ∧ DPut H3 a y v H4 ∧ D.nx σ H4
/-- d[y] op= v -/
def sDAug (td ty tv : TE) (rd : V → V → Hp → VK → Prop) : TS := fun D σ H => td σ H fun x H1 => ty σ H1 fun y H2 => ∃ a v, x = .ref a ∧ DGet H2 a y (some v) ∧
  tv σ H2 fun y2 H3 => rd v y2 H3 fun z H4 => ∃ H5, DPut H4 a y z H5 ∧ D.nx σ H5
/-- del d[y] -/
def sDDel (td ty : TE) : TS := fun D σ H => td σ H fun x H1 => ty σ H1 fun y H2 => ∃ a kvs k, x = .ref a ∧ H2 a = some (.dK kvs) ∧ y = kV k ∧ (valV kvs k).isSome = true ∧ D.nx σ (upd H2 a (.dK (dropK kvs k)))

section
variable {X : Cx} {o i e value : Expr} {pos pos' tpos : Pos} {td ty tv : TE}
theorem pe_dget (hu : X.A.units + 1 < cLine) (ho : PE X o td) (hi : PE X i ty) (hs : NoSl i) : PE X (.Subscript o i pos) (tDGet td ty) := by
  intro pins s σ H Q I h
  refine subD_of PySem.F.slot_dict_getitem.lookup hs (thn (ho pins s σ H _ I h) fun u s1 ⟨x, H1, I1, rx, q1⟩ => thn (hi pins s1 σ H1 _ I1 q1) fun iv s2 ⟨y, H2, I2, ry, a, v, ex, g, q2⟩ => ?_)
  subst ex
  obtain rfl : u = Value.ref a := rx
  exact ⟨dict_typeIs I2 g, d_getItem hu I2 g ry fun w' s3 I3 rw' => ⟨v, H2, I3, rw', q2⟩⟩
theorem pc_din (hu : X.A.units + 1 < cLine) (hi : PE X i ty) (ho : PE X o td) : PC X .In i o (tDIn ty td) := by
  intro pins s σ H Q I h
  refine thn (hi pins s σ H _ I h) fun iv s1 ⟨y, H1, I1, ry, q1⟩ => thn (ho pins s1 σ H1 _ I1 q1) fun u s2 ⟨x, H2, I2, rx, a, ov, ex, g, q2⟩ => ?_
  subst ex
  obtain rfl : u = Value.ref a := rx
  exact d_in hu I2 g ry fun s3 I3 => ⟨.bl ov.isSome, H2, I3, rfl, q2⟩
theorem pc_dnotin (hu : X.A.units + 1 < cLine) (hi : PE X i ty) (ho : PE X o td) : PC X .NotIn i o (tDNotIn ty td) := by
  intro pins s σ H Q I h
  refine thn (hi pins s σ H _ I h) fun iv s1 ⟨y, H1, I1, ry, q1⟩ => thn (ho pins s1 σ H1 _ I1 q1) fun u s2 ⟨x, H2, I2, rx, a, ov, ex, g, q2⟩ => ?_
  subst ex
  obtain rfl : u = Value.ref a := rx
  exact d_notIn hu I2 g ry fun s3 I3 => ⟨.bl (!ov.isSome), H2, I3, rfl, q2⟩
theorem ps_dput (hu : X.A.units + 1 < cLine) (ho : PE X o td) (hi : PE X i ty) (hv : PE X value tv) (hs : swapsWith value (some (.Subscript o i pos')) pos.line X.env = pure false) :
    PS X (.Assign [.Subscript o i pos'] value pos) (sDPut td ty tv) := by
  intro pins s σ H D I h
  refine wpAny_Assign_Subscript (thn (hv pins s σ H _ I h) fun r s1 ⟨v, H1, I1, rv, q1⟩ => thn (ho pins s1 σ H1 _ I1 q1) fun u s2 ⟨x, H2, I2, rx, q2⟩ => thn (hi pins s2 σ H2 _ I2 q2) fun iv s3 ⟨y, H3, I3, ry, a, H4, ex, g, q3⟩ => ?_) hs
  subst ex
  obtain rfl : u = Value.ref a := rx
  exact d_setItem hu I3 g ry rv fun s4 I4 => ⟨σ, H4, I4, q3⟩
theorem ps_daug {op : Operator} {rd : V → V → Hp → VK → Prop} (hu : X.A.units + 1 < cLine) (ho : PE X o td) (hi : PE X i ty) (hv : PE X value tv) (hop : InOp X op rd)
    (ha : ∀ ov iv new, augStore i ov iv new = (do holding [new, ov, iv] (setItem ov iv new); release [new, ov, iv] []; pure .next)) : PS X (.AugAssign (.Subscript o i tpos) op value pos) (sDAug td ty tv rd) := by
  intro pins s σ H D I h
  refine wpAny_AugAssign_SubscriptAny (thn (ho pins s σ H _ I h) fun u s1 ⟨x, H1, I1, rx, q1⟩ => thn (hi pins s1 σ H1 _ I1 q1) fun iv s2 ⟨y, H2, I2, ry, a, v, ex, g, q2⟩ => ?_) ha
  subst ex
  obtain rfl : u = Value.ref a := rx
  refine d_getItem hu I2 g ry fun w' s3 I3 rw' => thn (hv pins s3 σ H2 _ I3 q2) fun w2 s4 ⟨y2, H3, I4, ry2, q3⟩ => thn (hop pins s4 σ H3 v y2 w' w2 _ I4 rw' ry2 q3) fun w3 s5 ⟨z, H4, I5, rz, H5, g5, q4⟩ => ?_
  exact d_setItem hu I5 g5 ry rz fun s6 I6 => ⟨σ, H5, I6, q4⟩
theorem ps_ddel (ho : PE X o td) (hi : PE X i ty) : PS X (.Delete [.Subscript o i tpos] pos) (sDDel td ty) := by
  intro pins s σ H D I h
  refine wpAny_Delete (wpAny_deleteEach_cons (wpAny_delete_Subscript (thn (ho pins s σ H _ I h) fun u s1 ⟨x, H1, I1, rx, q1⟩ => thn (hi pins s1 σ H1 _ I1 q1) fun iv s2 ⟨y, H2, I2, ry, a, kvs, k, ex, e, ey, l, q2⟩ => ?_)))
  subst ex ey
  obtain rfl : u = Value.ref a := rx
  exact d_delItem I2 e ry l fun s3 I3 => wpAny_deleteEach_nil ⟨σ, _, I3, q2⟩
end


/-! ### displays -/
theorem dk_empty {P : Program} {w : World} {H : Hp} (h : Heap) (hb : sysModules < h.objs.size) : ObjOk P w H (h.push { cls := .type "dict", data := .dict #[] }) h.objs.size (.dK []) :=
  ⟨Nat.zero_le _, beq_eq_false_iff_ne.mpr (Ne.symm (Nat.ne_of_lt hb)), [], .nil, Heap.DictOf.new h⟩
theorem dt_empty {P : Program} {w : World} {H : Hp} (h : Heap) (hb : sysModules < h.objs.size) : ObjOk P w H (h.push { cls := .type "dict", data := .dict #[] }) h.objs.size (.dT []) :=
  ⟨Nat.zero_le _, beq_eq_false_iff_ne.mpr (Ne.symm (Nat.ne_of_lt hb)), [], .nil, _, #[], 0, Heap.get?_push_size _ rfl, ⟨rfl, rfl, rfl⟩, rfl, rfl, List.nodup_nil⟩
/-- {}, to be a dict of the kind that is wanted -/
def tDNewK : TE := fun _ H Q => ∀ p, H p = none → Q (.ref p) (upd H p (.dK []))
def tDNewT : TE := fun _ H Q => ∀ p, H p = none → Q (.ref p) (upd H p (.dT []))
section
variable {X : Cx} {pos : Pos}
theorem pe_dnewK : PE X (.Dict [] [] pos) tDNewK := fun pins s σ H Q I h =>
  wpAny_Dict_empty ⟨.ref s.heap.objs.size, _, I.laid (a := s.heap.objs.size) (o := .dK []) (t' := s.toks) (fun _ _ q => Heap.get?_push_of_some _ q) (Nat.le_refl _) (dk_empty s.heap I.big), rfl, h _ (I.hok.fresh (Nat.le_refl _))⟩
theorem pe_dnewT : PE X (.Dict [] [] pos) tDNewT := fun pins s σ H Q I h =>
  wpAny_Dict_empty ⟨.ref s.heap.objs.size, _, I.laid (a := s.heap.objs.size) (o := .dT []) (t' := s.toks) (fun _ _ q => Heap.get?_push_of_some _ q) (Nat.le_refl _) (dt_empty s.heap I.big), rfl, h _ (I.hok.fresh (Nat.le_refl _))⟩
end

/-- the pairs of a display, from the left -/
def tPairs : List (TE × TE) → St → Hp → (List (V × V) → Hp → Prop) → Prop
  | [], _, H, Q => Q [] H
  | (tk, tv) :: r, σ, H, Q => tk σ H fun x H1 => tv σ H1 fun y H2 => tPairs r σ H2 fun ps H3 => Q ((x, y) :: ps) H3
abbrev VV : List (V × V) → List (Value × Value) → Prop := Paired fun p q => RelV p.1 q.1 ∧ RelV p.2 q.2
def PPs (X : Cx) (pos : Pos) (keys : List (Option Expr)) (values : List Expr) (trs : List (TE × TE)) : Prop :=
  ∀ (pins : List (Addr × Obj)) (s : Shared) (σ : St) (H : Hp) (Q : List (V × V) → Hp → Prop), Inv X pins σ H s → tPairs trs σ H Q →
    wpAny (model X.prog X.w) X.A (evalPairs (pairTrees keys values X.env pos)) (fun vs s' => ∃ ps H', Inv X pins σ H' s' ∧ VV ps vs ∧ Q ps H') X.xe s
theorem pps_nil {X : Cx} {pos : Pos} : PPs X pos [] [] [] := fun pins s σ H Q I h => pairTrees_nil_walk ⟨[], H, I, .nil, h⟩
theorem pps_cons {X : Cx} {pos : Pos} {k v : Expr} {ks : List (Option Expr)} {vs : List Expr} {tk tv : TE} {trs : List (TE × TE)} (hk : PE X k tk) (hv : PE X v tv) (hr : PPs X pos ks vs trs) :
    PPs X pos (some k :: ks) (v :: vs) ((tk, tv) :: trs) := fun pins s σ H Q I h =>
  pairTrees_cons_walk (thn (hk pins s σ H _ I h) fun u s1 ⟨x, H1, I1, rx, q1⟩ => thn (hv pins s1 σ H1 _ I1 q1) fun w2 s2 ⟨y, H2, I2, ry, q2⟩ =>
    thn (hr pins s2 σ H2 _ I2 q2) fun ws s3 ⟨ps, H3, I3, rel, q3⟩ => ⟨(x, y) :: ps, H3, I3, .cons ⟨rx, ry⟩ rel, q3⟩)

def mergeK (kvs more : List (Key × V)) : List (Key × V) := more.foldl (fun acc kv => putK acc kv.1 kv.2) kvs
theorem KV.merge : ∀ {more : List (Key × V)} {rs : List (Key × Value)} {kvs : List (Key × V)} {vs : List (Key × Value)}, KV more rs → KV kvs vs → KV (mergeK kvs more) (merged vs rs) := by
  intro more rs kvs vs r
  unfold KV at r
  induction r generalizing kvs vs with
  | nil => intro q; exact q
  | @cons p q ps qs h t ih =>
    intro r0
    have e : KV (putK kvs p.1 p.2) (stored vs q.1 q.2) := by
      have := r0.put p.1 h.2
      rw [← h.1]; exact this
    exact ih e
theorem length_mergeK : ∀ (more kvs : List (Key × V)), (mergeK kvs more).length ≤ kvs.length + more.length
  | [], kvs => by show kvs.length ≤ kvs.length + 0; omega
  | p :: r, kvs => by
    have h1 := length_mergeK r (putK kvs p.1 p.2)
    have h2 := length_putK kvs p.1 p.2
    show (mergeK (putK kvs p.1 p.2) r).length ≤ _
    rw [List.length_cons]; omega
theorem carries_of {P : Program} {w : World} : ∀ {kvs : List (Key × V)} {ws : List (Value × Value)}, VV (kvs.map fun kv => (kV kv.1, kv.2)) ws → ∃ rs, Carries (mixKind P w) ws rs ∧ KV kvs rs
  | [], _, r => by rw [List.map_nil] at r; cases r; exact ⟨[], True.intro, .nil⟩
  | p :: kvs, _, r => by
    rw [List.map_cons] at r
    cases r with
    | @cons a b as bs h t =>
      obtain ⟨rs, c, q⟩ := carries_of (P := P) (w := w) t
      obtain ⟨b1, b2⟩ := b
      exact ⟨(p.1, b2) :: rs, ⟨kV_is h.1, rfl, c⟩, .cons ⟨rfl, h.2⟩ q⟩
/-- {k: v, ..} with keys ints and texts; the new dict stands empty while the pairs are made -/
def tDisp (trs : List (TE × TE)) : TE := fun σ H Q => ∀ p, H p = none → tPairs trs σ (upd H p (.dK [])) fun ps H2 => H2 p = some (.dK []) ∧ ∃ kvs : List (Key × V), ps = kvs.map (fun kv => (kV kv.1, kv.2)) ∧ kvs.length ≤ 15 ∧ Q (.ref p) (upd H2 p (.dK (mergeK [] kvs)))
theorem pe_disp {X : Cx} {pos : Pos} {keys : List (Option Expr)} {values : List Expr} {trs : List (TE × TE)} (h : PPs X pos keys values trs) (hall : keys.all (·.isSome) = true) (hl : keys.length = values.length) (h0 : keys ≠ [])
    (h15 : keys.length ≤ 15) : PE X (.Dict keys values pos) (tDisp trs) := by
  intro pins s σ H Q I q
  have hn := I.hok.fresh (Nat.le_refl s.heap.objs.size)
  have I1 := I.laid (a := s.heap.objs.size) (o := .dK []) (h' := s.heap.push { cls := .type "dict", data := .dict #[] }) (t' := s.toks) (fun _ _ q => Heap.get?_push_of_some _ q) (Nat.le_refl _) (dk_empty s.heap I.big)
  refine wpAny_Dict_walk (knd := mixKind X.prog X.w) hall hl h0 h15 (thn (h pins _ σ _ _ I1 (q _ hn)) fun ws s2 ⟨ps, H2, I2, rel, e, kvs, ep, lk, q2⟩ => ?_)
  subst ep
  obtain ⟨rs, c, rk⟩ := carries_of (P := X.prog) (w := X.w) rel
  obtain ⟨z, hd, vs0, r0, dd⟩ := dk_of I2.hok e
  cases r0
  refine ⟨rs, c, dd, fun h' dd' hs => ⟨.ref s.heap.objs.size, _, ?_, rfl, q2⟩⟩
  have hz : (mergeK [] kvs).length ≤ sizeLine := by
    have h1 := length_mergeK kvs []
    rw [List.length_nil] at h1
    rw [sizeLine_eq]; omega
  have he : ∃ q, h'.get? s.heap.objs.size = some q := let ⟨q, _, _, hq, _⟩ := dd'; ⟨q, hq⟩
  exact d_write I2 (by rw [e]; exact True.intro) hs he (dk_new hz hd (rk.merge .nil) dd')


/-! ### methods -/
/-- a method call o.m(e) of a built-in, with one argument: what must be seen of the text -/
structure M1 (X : Cx) (o : Expr) (m : Str) (apos : Pos) (e : Expr) (cpos : Pos) : Prop where
  base : attributeBase o m X.env (eval o X.env) = eval o X.env
  few : ((backTo cpos (starEach [e] X.env)).all (fun x => !x.1) && (backToKw cpos (keywordEach [] X.env)).all (fun x => x.1.isSome)
    && decide (([e] : List Expr).length + ([] : List Keyword).length + (if ([] : List Keyword).isEmpty then 0 else 1) < 30)) = true
  line : (apos.endLine == cpos.line) = true
  trees : backTo cpos (starEach [e] X.env) = [(false, eval e X.env)]
structure M2 (X : Cx) (o : Expr) (m : Str) (apos : Pos) (e f : Expr) (cpos : Pos) : Prop where
  base : attributeBase o m X.env (eval o X.env) = eval o X.env
  few : ((backTo cpos (starEach [e, f] X.env)).all (fun x => !x.1) && (backToKw cpos (keywordEach [] X.env)).all (fun x => x.1.isSome)
    && decide (([e, f] : List Expr).length + ([] : List Keyword).length + (if ([] : List Keyword).isEmpty then 0 else 1) < 30)) = true
  line : (apos.endLine == cpos.line) = true
  trees : backTo cpos (starEach [e, f] X.env) = [(false, eval e X.env), (false, eval f X.env)]

/-- a is a dict, whatever its keys -/
def IsD (H : Hp) (a : Addr) : Prop := (∃ kvs, Rd H a (.dK kvs)) ∨ ∃ kvs, Rd H a (.dT kvs)
theorem isD_at {X : Cx} {pins : List (Addr × Obj)} {σ : St} {H : Hp} {s : Shared} {a : Addr} (I : Inv X pins σ H s) (d : IsD H a) :
    s.TypeIs (.ref a) "dict" ∧ (∀ b, Value.ref a = .ref b → ∃ ob, s.heap.get? b = some ob ∧ ob.dict = none) ∧ (a == sysModules) = false := by
  rcases d with ⟨kvs, e⟩ | ⟨kvs, e⟩
  · obtain ⟨_, hd, vs, _, dd⟩ := dk_rd I.hok e
    refine ⟨dd.typeIs, fun b q => ?_, hd⟩
    cases q
    obtain ⟨ob, _, _, h1, h2, _⟩ := dd
    exact ⟨ob, h1, h2.2.1⟩
  · obtain ⟨_, hd, xs, _, dd⟩ := dt_rd I.hok e
    refine ⟨dd.typeIs, fun b q => ?_, hd⟩
    cases q
    obtain ⟨ob, _, _, h1, h2, _⟩ := dd
    exact ⟨ob, h1, h2.2.1⟩

section
variable {X : Cx} {pins : List (Addr × Obj)} {σ : St} {H : Hp} {s : Shared} {a : Addr} {y d : V} {u r : Value} {o : Option V} {A : Around} {E : Value → Shared → Prop}
/-- d.get(y) -/
theorem d_get1 {Q : Value → Shared → Prop} (hu : A.units + 1 < cLine) (I : Inv X pins σ H s) (g : DGet H a y o) (ry : RelV y u) (h : ∀ w' s', Inv X pins σ H s' → RelV (o.getD .non) w' → Q w' s') :
    wpAny (model X.prog X.w) A (call (.builtin "dict.get") [.ref a, u]) Q E s := by
  rcases g with ⟨kvs, k, e, ey, l⟩ | ⟨kvs, k, b, e, ey, eb, l⟩
  · subst ey
    obtain ⟨z, hd, vs, rel, dd⟩ := dk_rd I.hok e
    refine call_meetsIn PySem.F.slot_dict_get dd.typeIs PySem.F.entry_dict_get (PySem.F.args_dict_get_2 _ _) (meets_dict_get (mixKind X.prog X.w) a (kV_is ry) hd) ⟨_, dd.mapOf, h _ _ (I.tok _) ?_⟩
    rw [l]
    exact (rel.val k).getD rfl
  · subst ey
    cases (show u = Value.ref b from ry)
    obtain ⟨z, hd, xs, rel, dd⟩ := dt_rd I.hok e
    refine call_meetsIn PySem.F.slot_dict_get dd.typeIs PySem.F.entry_dict_get (PySem.F.args_dict_get_2 _ _) (meetsH_dict_get (tupleKind (mixKind X.prog X.w)) a b hd) ⟨tupleKind_room_in1 hu, k, xs, key_of I.hok eb, dd, h _ _ (I.tok _) ?_⟩
    rw [l]
    exact (rel.val k).getD rfl
/-- d.get(y, x) -/
theorem d_get2 {Q : Value → Shared → Prop} (hu : A.units + 1 < cLine) (I : Inv X pins σ H s) (g : DGet H a y o) (ry : RelV y u) (rd : RelV d r) (h : ∀ w' s', Inv X pins σ H s' → RelV (o.getD d) w' → Q w' s') :
    wpAny (model X.prog X.w) A (call (.builtin "dict.get") [.ref a, u, r]) Q E s := by
  rcases g with ⟨kvs, k, e, ey, l⟩ | ⟨kvs, k, b, e, ey, eb, l⟩
  · subst ey
    obtain ⟨z, hd, vs, rel, dd⟩ := dk_rd I.hok e
    refine call_meetsIn PySem.F.slot_dict_get dd.typeIs PySem.F.entry_dict_get (PySem.F.args_dict_get_3 _ _ _) (meets_dict_get_default (mixKind X.prog X.w) a (kV_is ry) hd r) ⟨_, dd.mapOf, h _ _ (I.tok _) ?_⟩
    rw [l]
    exact (rel.val k).getD rd
  · subst ey
    cases (show u = Value.ref b from ry)
    obtain ⟨z, hd, xs, rel, dd⟩ := dt_rd I.hok e
    refine call_meetsIn PySem.F.slot_dict_get dd.typeIs PySem.F.entry_dict_get (PySem.F.args_dict_get_3 _ _ _) (meetsH_dict_get_default (tupleKind (mixKind X.prog X.w)) a b hd r) ⟨tupleKind_room_in1 hu, k, xs, key_of I.hok eb, dd, h _ _ (I.tok _) ?_⟩
    rw [l]
    exact (rel.val k).getD rd
end

def tDGet1 (td ty : TE) : TE := fun σ H Q => td σ H fun x H1 => ∃ a, x = .ref a ∧ IsD H1 a ∧ ty σ H1 fun y H2 => ∃ o, DGet H2 a y o ∧ Q (o.getD .non) H2
def tDGet2 (td ty tx : TE) : TE := fun σ H Q => td σ H fun x H1 => ∃ a, x = .ref a ∧ IsD H1 a ∧ ty σ H1 fun y H2 => tx σ H2 fun z H3 => ∃ o, DGet H3 a y o ∧ Q (o.getD z) H3
/-- d.pop(k): there; d.pop(k, x): there or not -/
def tDPop1 (td ty : TE) : TE := fun σ H Q => td σ H fun x H1 => ∃ a, x = .ref a ∧ IsD H1 a ∧ ty σ H1 fun y H2 => ∃ kvs k v, H2 a = some (.dK kvs) ∧ y = kV k ∧ valV kvs k = some v ∧ Q v (upd H2 a (.dK (dropK kvs k)))
def tDPop2 (td ty tx : TE) : TE := fun σ H Q => td σ H fun x H1 => ∃ a, x = .ref a ∧ IsD H1 a ∧ ty σ H1 fun y H2 => tx σ H2 fun z H3 => ∃ kvs k, H3 a = some (.dK kvs) ∧ y = kV k ∧
  (∀ v, valV kvs k = some v → Q v (upd H3 a (.dK (dropK kvs k)))) ∧ (valV kvs k = none → Q z H3)
section
variable {X : Cx} {o e f : Expr} {apos cpos : Pos} {td ty tx : TE}
theorem pe_dget1 (hu : X.A.units + 1 < cLine) (ho : PE X o td) (he : PE X e ty) (m : M1 X o "get" apos e cpos) : PE X (.Call (.Attribute o "get" apos) [e] [] cpos) (tDGet1 td ty) := by
  intro pins s σ H Q I h
  refine wpAny_Call_method m.base m.few m.line PySem.F.plainAttrs_dict PySem.F.slot_dict_get PySem.F.type_dict_get (thn (ho pins s σ H _ I h) fun u s1 ⟨x, H1, I1, rx, a, ex, d, q1⟩ => ?_)
  subst ex
  obtain rfl : u = Value.ref a := rx
  obtain ⟨t1, t2, _⟩ := isD_at I1 d
  refine ⟨t1, t2, ?_⟩
  rw [m.trees]
  refine Calls.callWith_builtin rfl (Calls.evalArgs_plain (Calls.spliced_cons (thn (he pins s1 σ H1 _ I1 q1) fun iv s2 ⟨y, H2, I2, ry, ov, g, q2⟩ => Calls.spliced_nil ?_)))
  exact d_get1 hu I2 g ry fun w' s3 I3 rw' => ⟨_, H2, I3, rw', q2⟩
theorem pe_dget2 (hu : X.A.units + 1 < cLine) (ho : PE X o td) (he : PE X e ty) (hf : PE X f tx) (m : M2 X o "get" apos e f cpos) : PE X (.Call (.Attribute o "get" apos) [e, f] [] cpos) (tDGet2 td ty tx) := by
  intro pins s σ H Q I h
  refine wpAny_Call_method m.base m.few m.line PySem.F.plainAttrs_dict PySem.F.slot_dict_get PySem.F.type_dict_get (thn (ho pins s σ H _ I h) fun u s1 ⟨x, H1, I1, rx, a, ex, d, q1⟩ => ?_)
  subst ex
  obtain rfl : u = Value.ref a := rx
  obtain ⟨t1, t2, _⟩ := isD_at I1 d
  refine ⟨t1, t2, ?_⟩
  rw [m.trees]
  refine Calls.callWith_builtin rfl (Calls.evalArgs_plain (Calls.spliced_cons (thn (he pins s1 σ H1 _ I1 q1) fun iv s2 ⟨y, H2, I2, ry, q2⟩ =>
    Calls.spliced_cons (thn (hf pins s2 σ H2 _ I2 q2) fun fv s3 ⟨z, H3, I3, rz, ov, g, q3⟩ => Calls.spliced_nil ?_))))
  exact d_get2 hu I3 g ry rz fun w' s4 I4 rw' => ⟨_, H3, I4, rw', q3⟩
theorem pe_dpop1 (ho : PE X o td) (he : PE X e ty) (m : M1 X o "pop" apos e cpos) : PE X (.Call (.Attribute o "pop" apos) [e] [] cpos) (tDPop1 td ty) := by
  intro pins s σ H Q I h
  refine wpAny_Call_method m.base m.few m.line PySem.F.plainAttrs_dict PySem.F.slot_dict_pop PySem.F.type_dict_pop (thn (ho pins s σ H _ I h) fun u s1 ⟨x, H1, I1, rx, a, ex, d, q1⟩ => ?_)
  subst ex
  obtain rfl : u = Value.ref a := rx
  obtain ⟨t1, t2, _⟩ := isD_at I1 d
  refine ⟨t1, t2, ?_⟩
  rw [m.trees]
  refine Calls.callWith_builtin rfl (Calls.evalArgs_plain (Calls.spliced_cons (thn (he pins s1 σ H1 _ I1 q1) fun iv s2 ⟨y, H2, I2, ry, kvs, k, v, ea, ey, l, q2⟩ => Calls.spliced_nil ?_)))
  subst ey
  exact d_pop I2 ea ry l (.inl rfl) fun w' s3 I3 rw' => ⟨v, _, I3, rw', q2⟩
theorem pe_dpop2 (ho : PE X o td) (he : PE X e ty) (hf : PE X f tx) (m : M2 X o "pop" apos e f cpos) : PE X (.Call (.Attribute o "pop" apos) [e, f] [] cpos) (tDPop2 td ty tx) := by
  intro pins s σ H Q I h
  refine wpAny_Call_method m.base m.few m.line PySem.F.plainAttrs_dict PySem.F.slot_dict_pop PySem.F.type_dict_pop (thn (ho pins s σ H _ I h) fun u s1 ⟨x, H1, I1, rx, a, ex, d, q1⟩ => ?_)
  subst ex
  obtain rfl : u = Value.ref a := rx
  obtain ⟨t1, t2, _⟩ := isD_at I1 d
  refine ⟨t1, t2, ?_⟩
  rw [m.trees]
  refine Calls.callWith_builtin rfl (Calls.evalArgs_plain (Calls.spliced_cons (thn (he pins s1 σ H1 _ I1 q1) fun iv s2 ⟨y, H2, I2, ry, q2⟩ =>
    Calls.spliced_cons (thn (hf pins s2 σ H2 _ I2 q2) fun fv s3 ⟨z, H3, I3, rz, kvs, k, ea, ey, q3, q4⟩ => Calls.spliced_nil ?_))))
  subst ey
  cases l : valV kvs k with
  | some v => exact d_pop I3 ea ry l (.inr ⟨fv, rfl⟩) fun w' s4 I4 rw' => ⟨v, _, I4, rw', q3 v l⟩
  | none => exact d_popD I3 ea ry l fun s4 I4 => ⟨z, H3, I4, rz, q4 l⟩
end

/-! ### dict(d): a copy -/
section
variable {X : Cx} {pins : List (Addr × Obj)} {σ : St} {H : Hp} {s : Shared} {a : Addr} {kvs : List (Key × V)} {A : Around} {E : Value → Shared → Prop}
theorem d_copyOf {Q : Value → Shared → Prop} (I : Inv X pins σ H s) (e : Rd H a (.dK kvs)) (h : ∀ p s', H p = none → Inv X pins σ (upd H p (.dK kvs)) s' → Q (.ref p) s') : wpAny (model X.prog X.w) A (call (.type "dict") [.ref a]) Q E s := by
  obtain ⟨z, hd, vs, rel, dd⟩ := dk_rd I.hok e
  refine kt_call_dict hd dd (by rw [← rel.length]; exact z) fun h' dd' hs => ?_
  refine h _ _ (I.hok.fresh (Nat.le_refl _)) (I.laid (a := s.heap.objs.size) (o := .dK kvs) (t' := s.toks) (fun b q hq => ?_) (Nat.le_refl _) (dk_new z (beq_eq_false_iff_ne.mpr (Ne.symm (Nat.ne_of_lt I.big))) rel dd'))
  exact (hs.2 b (Nat.ne_of_lt (Heap.lt_size hq))).trans (Heap.get?_push_of_some _ hq)
end


section
variable {X : Cx} {pins : List (Addr × Obj)} {σ : St} {H : Hp} {s : Shared} {a : Addr} {y : V} {u : Value} {A : Around} {E : Value → Shared → Prop}
/-- d[y], not there: a KeyError -/
theorem d_missing {Q : Value → Shared → Prop} (hu : A.units + 1 < cLine) (hh : A.handled = none) (I : Inv X pins σ H s) (g : DGet H a y none) (ry : RelV y u)
    (h : ∀ h' e t', Heap.NewExc s.heap h' e "KeyError" → E (.ref e) { s with heap := h', toks := t' }) : wpAny (model X.prog X.w) A (getItem (.ref a) u) Q E s := by
  rcases g with ⟨kvs, k, e, ey, l⟩ | ⟨kvs, k, b, e, ey, eb, l⟩
  · subst ey
    obtain ⟨z, hd, vs, rel, dd⟩ := dk_rd I.hok e
    have hn : valueAt vs k = none := RelO.none_of (by rw [l]; exact rel.val k)
    exact wpAny_getItem_missing_of (kV_is ry) hd hh dd.mapOf hn fun h' ex ne => h h' ex _ ne
  · subst ey
    cases (show u = Value.ref b from ry)
    obtain ⟨z, hd, xs, rel, dd⟩ := dt_rd I.hok e
    have hn : (atKey xs k).map (·.2) = none := RelO.none_of (by rw [l]; exact rel.val k)
    exact wpAny_getItem_missing_heap (tupleKind_room_in1 hu) (key_of I.hok eb) hd hh dd (Option.map_eq_none_iff.mp hn) fun h' ex ne => h h' ex _ ne
end
end L2


namespace L2
open PySem PySem.Spec PyProof.Rows

theorem boot_reversed5 : bootBuiltins "reversed" = some (.type "reversed") := by decide +kernel

section
variable {X : Cx} {pins : List (Addr × Obj)} {σ : St} {H : Hp} {s : Shared} {h' : Heap}
/-- several records of ours have turned -/
theorem Inv.turnedL {t' : Nat} {ch : List Addr} (I : Inv X pins σ H s) (k : ∀ b o, b ∉ ch → s.heap.get? b = some o → h'.get? b = some o) (hf : ∀ b ∈ ch, FpOk X pins H b) : Inv X pins σ H { s with heap := h', toks := t' } := by
  have nit : ∀ b u, H b = some u → b ∉ ch := fun b u e z => by
    have q := (hf b z).1
    rw [q] at e; cases e
  refine I.step (g' := s.gens) (d' := s.drawn) (ch := ch) (fun b hb => ⟨(hf b hb).2.2.2.1, (hf b hb).2.1, (hf b hb).2.2.2.2.1, (hf b hb).2.2.2.2.2⟩) (fun b o _ _ hc e _ => k b o hc e) (fun b o _ _ hc e _ => ⟨o.slots, k b o hc e⟩)
    (fun _ _ _ _ n => n) (fun b o hc e => ⟨o, k b o hc e⟩) (fun _ _ e => e) (fun _ _ _ e => e) (fun b ps e => ⟨#[], by rw [e]; simp⟩) (fun m hm => ?_) (fun b u e => ?_) I.bare
  · obtain ⟨o, es, ep, ho, r⟩ := hm
    exact ⟨o, es, ep, k _ o (fun z => (hf _ z).2.1 rfl) ho, r⟩
  · refine (I.hok b u e).stay (fun c v hc q => k c v ?_ q) (fun _ q => q) fun _ _ q => q
    rcases hc with z | z
    · rw [z]; exact nit b u e
    · exact nit c _ z
/-- .. and one new object is laid -/
theorem Inv.turnedNew {t' : Nat} {ch : List Addr} {T : Addr} {ob : HO} (I : Inv X pins σ H s) (k : ∀ b o, b ∉ ch → s.heap.get? b = some o → h'.get? b = some o) (hf : ∀ b ∈ ch, FpOk X pins H b) (hT : s.heap.objs.size ≤ T)
    (new : ObjOk X.prog X.w (upd H T ob) h' T ob) : Inv X pins σ (upd H T ob) { s with heap := h', toks := t' } := by
  have hn : H T = none := I.hok.fresh hT
  have nit : ∀ b u, H b = some u → b ∉ ch := fun b u e z => by
    have q := (hf b z).1
    rw [q] at e; cases e
  refine I.step (g' := s.gens) (d' := s.drawn) (ch := ch) (fun b hb => ⟨(hf b hb).2.2.2.1, (hf b hb).2.1, (hf b hb).2.2.2.2.1, (hf b hb).2.2.2.2.2⟩) (fun b o _ _ hc e _ => k b o hc e) (fun b o _ _ hc e _ => ⟨o.slots, k b o hc e⟩)
    (fun b o _ e n => ?_) (fun b o hc e => ⟨o, k b o hc e⟩) (fun b xs e => ?_) (fun b o u e => ?_) (fun b ps e => ⟨#[], ?_⟩) (fun m hm => ?_) (fun b u e => ?_) I.bare
  · rw [upd_ne (Nat.ne_of_lt (Nat.lt_of_lt_of_le (Heap.lt_size e) hT))]; exact n
  · rw [upd_ne (ne_of_none e hn)]; exact e
  · rw [upd_ne (ne_of_none e hn)]; exact e
  · rw [upd_ne (ne_of_none e hn), e]; simp
  · obtain ⟨o, es, ep, ho, r⟩ := hm
    exact ⟨o, es, ep, k _ o (fun z => (hf _ z).2.1 rfl) ho, r⟩
  · by_cases hb : b = T
    · subst hb
      rw [upd_same] at e
      cases e
      exact new
    · rw [upd_ne hb] at e
      refine (I.hok b u e).stay (fun c v hc q => k c v ?_ q) (fun c q => by rw [upd_ne (ne_of_none q hn)]; exact q) fun c xs q => by rw [upd_ne (ne_of_none q hn)]; exact q
      rcases hc with z | z
      · rw [z]; exact nit b u e
      · exact nit c _ z

/-! ### locking a thing while a statement runs -/
theorem Inv.lock {d : Addr} {u : HO} (I : Inv X pins σ H s) (h : H d = some u) (mu : Mut (some u)) : ∃ od, Inv X pins σ (upd H d (.frz od u)) s := by
  have x := I.hok d u h
  have ex : ∃ od, s.heap.get? d = some od := by
    cases u with
    | lst xs => obtain ⟨_, _, _, _, e⟩ := x; exact ⟨_, e⟩
    | dK kvs => obtain ⟨_, _, _, _, o, _, _, e, _⟩ := x; exact ⟨o, e⟩
    | dT kvs => obtain ⟨_, _, _, _, o, _, _, e, _⟩ := x; exact ⟨o, e⟩
    | set S n => obtain ⟨o, _, _, _, e, _⟩ := x; exact ⟨o, e⟩
    | ins C dx fs => obtain ⟨_, _, _, e, _⟩ := x; exact ⟨_, e⟩
    | ext φ => obtain ⟨_, ⟨_, e⟩, _⟩ := x; exact ⟨_, e⟩
    | _ => exact False.elim mu
  obtain ⟨od, e⟩ := ex
  have new : ObjOk X.prog X.w (upd H d (.frz od u)) s.heap d (.frz od u) := by
    refine ⟨e, x.stay (fun b v _ q => q) (fun b q => ?_) fun b xs q => ?_⟩
    · rw [upd_ne (fun z => by rw [z, h] at q; cases q; exact mu)]; exact q
    · rw [upd_ne (fun z => by rw [z, h] at q; cases q; exact mu)]; exact q
  exact ⟨od, I.write (x := d) (e := d) (t' := s.toks) (h' := s.heap) (by rw [h]; exact mu) (.inl rfl) (fun b v _ q => q) ⟨od, e⟩ new⟩
theorem Inv.nofrz {d : Addr} {u : HO} (I : Inv X pins σ H s) (h : H d = some u) (mu : Mut (some u)) : ∀ o' u', X.H_0 d ≠ some (.frz o' u') := fun o' u' e => by
  have q := I.base.frzs d o' u' e
  rw [h] at q
  cases q
  exact mu
theorem Inv.unlock {d : Addr} {od : Obj} {u : HO} (I : Inv X pins σ H s) (h : H d = some (.frz od u)) (hn : ∀ o' u', X.H_0 d ≠ some (.frz o' u')) : Inv X pins σ (upd H d u) s := by
  have neH : ∀ b o, H b = some o → (∀ o' u', o ≠ .frz o' u') → b ≠ d := fun b o e hne z => by
    rw [z, h] at e
    cases e
    exact hne _ _ rfl
  have neN : ∀ b, H b = none → b ≠ d := fun b e z => by rw [z, h] at e; cases e
  refine ⟨I.ok, I.os, I.bare, ⟨I.base.keep, I.base.slot, fun b o e n hx => ?_, I.base.there, fun b xs e => ?_, fun b o x e => ?_, fun b ps e => ?_⟩, I.loc, I.cell, ?_, fun x c e => ?_, fun p hp => ?_, fun b o e => ?_, I.len⟩
  · rw [upd_ne (neN b (I.base.free b o e n hx))]; exact I.base.free b o e n hx
  · have q := I.base.tups b xs e
    rw [upd_ne (neH b _ q (fun _ _ z => nomatch z))]; exact q
  · have q := I.base.frzs b o x e
    rw [upd_ne (fun z => by rw [z] at e; exact hn _ _ e)]; exact q
  · obtain ⟨m, q⟩ := I.base.tbls b ps e
    exact ⟨m, by rw [upd_ne (neH b _ q (fun _ _ z => nomatch z))]; exact q⟩
  · rw [upd_ne (neN _ I.free)]; exact I.free
  · rw [upd_ne (neN c (I.freeC x c e))]; exact I.freeC x c e
  · obtain ⟨e, n, r⟩ := I.pin p hp
    exact ⟨e, by rw [upd_ne (neN _ n)]; exact n, r⟩
  · by_cases hb : b = d
    · rw [hb, upd_same] at e
      cases e
      rw [hb]
      obtain ⟨_, x⟩ := I.hok d _ h
      exact x.stay (fun c v _ q => q) (fun c q => by rw [upd_ne (neH c _ q (fun _ _ z => nomatch z))]; exact q) fun c xs q => by rw [upd_ne (neH c _ q (fun _ _ z => nomatch z))]; exact q
    · rw [upd_ne hb] at e
      exact (I.hok b o e).stay (fun c v _ q => q) (fun c q => by rw [upd_ne (neH c _ q (fun _ _ z => nomatch z))]; exact q) fun c xs q => by rw [upd_ne (neH c _ q (fun _ _ z => nomatch z))]; exact q
end
/-- the statement runs while the thing at d is locked (read, not written); d and what stands there are the reading's choice -/
def tLock (t : TS) : TS := fun D σ H => ∃ d u, H d = some u ∧ Mut (some u) ∧ ∀ od, t ⟨fun σ' H' => H' d = some (.frz od u) ∧ D.nx σ' (upd H' d u), fun v H' => H' d = some (.frz od u) ∧ D.rt v (upd H' d u), fun σ' H' => H' d = some (.frz od u) ∧ D.bk σ' (upd H' d u), fun σ' H' => H' d = some (.frz od u) ∧ D.ct σ' (upd H' d u)⟩ σ (upd H d (.frz od u))
def tLockE (t : TE) : TE := fun σ H Q => ∃ d u, H d = some u ∧ Mut (some u) ∧ ∀ od, t σ (upd H d (.frz od u)) fun v H' => H' d = some (.frz od u) ∧ Q v (upd H' d u)
section
variable {X : Cx}
theorem ps_lock {st : Stmt} {t : TS} (h : PS X st t) : PS X st (tLock t) := by
  intro pins s σ H D I hw
  obtain ⟨d, u, hd, mu, hw⟩ := hw
  obtain ⟨od, I1⟩ := I.lock hd mu
  refine thn (h pins s σ _ _ I1 (hw od)) fun f s1 q => ?_
  cases f with
  | next => obtain ⟨σ', H', I2, e, q⟩ := q; exact ⟨σ', _, I2.unlock e (I.nofrz hd mu), q⟩
  | brk => obtain ⟨σ', H', I2, e, q⟩ := q; exact ⟨σ', _, I2.unlock e (I.nofrz hd mu), q⟩
  | cont => obtain ⟨σ', H', I2, e, q⟩ := q; exact ⟨σ', _, I2.unlock e (I.nofrz hd mu), q⟩
  | ret v => obtain ⟨x, σ', H', I2, r, e, q⟩ := q; exact ⟨x, σ', _, I2.unlock e (I.nofrz hd mu), r, q⟩
theorem pe_lock {e : Expr} {t : TE} (h : PE X e t) : PE X e (tLockE t) := by
  intro pins s σ H Q I hw
  obtain ⟨d, u, hd, mu, hw⟩ := hw
  obtain ⟨od, I1⟩ := I.lock hd mu
  refine thn (h pins s σ _ _ I1 (hw od)) fun v s1 ⟨x, H1, I2, r, e2, q⟩ => ?_
  exact ⟨x, _, I2.unlock e2 (I.nofrz hd mu), r, q⟩

/-! ### one iterator just laid -/
theorem pi_one {tg : Expr} {pins : List (Addr × Obj)} {σ : St} {H : Hp} {s : Shared} {R : It → Hp → Prop} {J : It} {tn : Nat → Heap → Prop} {tk : Nat} (I : Inv X pins σ H s) (o : Obj)
    (T : Turn X.prog X.w X.K tg J [s.heap.objs.size] s.heap.objs.size tn) (st : tn 0 (s.heap.push o)) (q : R J H) : PIE X pins σ tg R (.ref s.heap.objs.size) { s with heap := s.heap.push o, toks := tk } := by
  refine ⟨s.heap.objs.size, [s.heap.objs.size], tn, J, H, rfl, I.kept fun b ob e => Heap.get?_push_of_some _ e, T, st, fun b hb => ?_, q⟩
  have e : b = s.heap.objs.size := by simpa using hb
  subst e
  exact I.fpOk (Nat.le_refl _) (I.hok.fresh (Nat.le_refl _))
end

/-! ### range with a step -/
/-- lo, lo + c, .. (n of them) -/
def Itc (lo c : Int) (n : Nat) : It := ⟨fun i _ => i < n, fun i H x H' => H' = H ∧ x = .int (lo + (i : Nat) * c), fun i _ => n ≤ i⟩
theorem turn_rangeC {P : Program} {w : World} {K : PySem.W.Frag} {tg : Expr} (it : Addr) (lo c : Int) (n : Nat) : Turn P w K tg (Itc lo c n) [it] it (fun i h => IsRangeIter h it (lo + (i : Nat) * c) ((n : Int) - (i : Nat)) c) where
  mem := by simp
  obj := fun i h st b hb => by
    have e : b = it := by simpa using hb
    subst e
    exact ⟨_, st, fun v z => nomatch z⟩
  keep := fun i h h' st k => k it (by simp) _ st
  item := by
    intro X hP hw hK hc i pins s σ H E I hf st hg
    subst hP hw hK
    obtain ⟨f0, f1, f2, f3, f4, f5⟩ := hf it (by simp)
    have W := Walks.range (prog := X.prog) (w := X.w) (I.ok.hd hc) it lo c n
    refine W.item i s _ _ hg st fun v h' tk hv st' kk => ?_
    obtain ⟨t, rfl⟩ := hv
    have I1 : Inv X pins σ H { s with heap := h', toks := tk } := I.turned (fun b o hb e => kk b o (by simpa using hb) e) f0 f1 f3 f4 f5
    exact ⟨_, rfl, go_of (s := { s with heap := h', toks := tk }) (n := "range_iterator") st' rfl rfl (by decide) ⟨.int (lo + (i : Nat) * c), H, I1, ⟨t, rfl⟩, ⟨rfl, rfl⟩, st', fun b hb => (hf b hb).1⟩⟩
  done := by
    intro X hP hw hK hc i pins s σ H E I hf st hg
    subst hP hw hK
    obtain ⟨f0, f1, f2, f3, f4, f5⟩ := hf it (by simp)
    exact wpAny_pyNext_range_end (I.ok.hd hc) st (by have : n ≤ i := hg; omega) fun h' eb => ⟨rfl, I.turned (t' := s.toks) (fun b o hb e => eb b o hb e) f0 f1 f3 f4 f5⟩
  self := fun A i s Q E st h => wpAny_pyIter_rangeiter st h
/-- range(i, j, c): small bounds, n items -/
def RgC (i j c : Int) (n : Nat) : Prop := c ≠ 0 ∧ c.natAbs < 1073741824 ∧ Builtin.Range.small i j c = true ∧ Builtin.Range.rangeSize i j c = n
theorem RgC.neg {i j : Int} (ha : -(2 ^ 62) ≤ i) (ha' : i < 2 ^ 62) (hb : -(2 ^ 62) ≤ j) (hb' : j < 2 ^ 62) : RgC i j (-1) (i - j).toNat :=
  ⟨by decide, by decide, PySem.W.small_down ha ha' hb hb', PySem.W.rangeSize_downNat i j⟩
def iRng3 (ta : TA) : TI := fun σ H R => ta σ H fun vs H1 => ∃ (i j c : Int) (n : Nat), vs = [.int i, .int j, .int c] ∧ RgC i j c n ∧ R (Itc i c n) H1
section
variable {X : Cx} {tg : Expr}
theorem pi_range3 {a b c : Expr} {ta : TA} {p pos : Pos} (hg : Gl X "range") (hm : X.mg "range" = none) (ha : PA X [a, b, c] ta)
    (hs : starEach [a, b, c] X.env = (false, eval a X.env) :: starEach [b, c] X.env := by rfl) (hpl : (backTo pos (starEach [b, c] X.env)).any (·.1) = false := by rfl) :
    PI X tg (.Call (.Name "range" p) [a, b, c] [] pos) (iRng3 ta) := by
  intro pins s σ H R I h
  refine Call_ (ld_blt I hg hm boot_range (PyProof.Rows.callWith_type1 (thn (ha pos pins s σ H _ I h) fun us s1 ⟨vs, H1, I1, r1, q1⟩ => ?_) hs hpl))
  obtain ⟨i, j, k, n, e, ⟨c0, c1, c2, c3⟩, q⟩ := q1
  subst e
  cases r1 with
  | cons r rr =>
    cases rr with
    | cons r' rr =>
      cases rr with
      | cons r'' rr =>
        cases rr
        obtain ⟨t, rfl⟩ := r
        obtain ⟨t', rfl⟩ := r'
        obtain ⟨t'', rfl⟩ := r''
        refine call_range_3 c0 ?_ (.inl (PyProof.noPylong_small c1))
        refine wpAny_pyIter_range (IsRange.new ..) c2 ?_
        have I2 : Inv X pins σ H1 { s1 with heap := s1.heap.push { cls := .type "range", data := .fields #[.int i t, .int j t', .int k t''] } } := I1.kept (t' := s1.toks) fun b o e => Heap.get?_push_of_some _ e
        refine pi_one (tk := s1.toks) I2 _ (turn_rangeC _ i k n) ?_ q
        have e1 : i + ((0 : Nat) : Int) * k = i := by simp
        have e2 : (n : Int) - ((0 : Nat) : Int) = Builtin.Range.rangeSize i j k := by rw [c3]; simp
        show IsRangeIter _ _ (i + ((0 : Nat) : Int) * k) ((n : Int) - ((0 : Nat) : Int)) k
        rw [e1, e2]
        exact Heap.get?_push_size _ rfl
end
/-- the turns of a step range, for the for loop -/
theorem for_rangeC {lo c : Int} {n : Nat} {g : TG} {tb : TS} {D : Ends} {σ : St} {H : Hp} (Pv : Nat → St → Hp → Prop) (h0 : Pv 0 σ H)
    (hs : ∀ i σ H, i < n → Pv i σ H → g (.int (lo + (i : Nat) * c)) σ H fun σ2 H2 => tb { D with nx := Pv (i + 1), ct := Pv (i + 1), bk := D.nx } σ2 H2) (hd : ∀ σ H, Pv n σ H → D.nx σ H) :
    ∃ W : Nat → Nat → St → Hp → Prop, (∃ m, W 0 m σ H) ∧ ∀ i m σ H, W i m σ H →
      ((Itc lo c n).stop i H ∧ D.nx σ H) ∨ ((Itc lo c n).go i H ∧ ∃ N : St → Hp → Prop, (∀ σ' H', N σ' H' → ∃ m', m' < m ∧ W (i + 1) m' σ' H') ∧ ∀ x H', (Itc lo c n).yld i H x H' → g x σ H' fun σ2 H2 => tb { D with nx := N, ct := N, bk := D.nx } σ2 H2) := by
  refine ⟨fun i m σ H => m = n - i ∧ i ≤ n ∧ Pv i σ H, ⟨n, by simp, Nat.zero_le _, h0⟩, ?_⟩
  rintro i m σ H ⟨rfl, hi, p⟩
  by_cases hlt : i < n
  · refine .inr ⟨hlt, Pv (i + 1), fun σ' H' p' => ⟨n - (i + 1), by omega, rfl, hlt, p'⟩, fun x H' y => ?_⟩
    obtain ⟨e, y⟩ := y
    subst e y
    exact hs i σ _ hlt p
  · have e : i = n := by omega
    subst e
    exact .inl ⟨Nat.le_refl _, hd σ H p⟩

/-! ### reversed(list) -/
/-- the list at a (n items at the start, which the loop leaves there), from its end -/
def Itv (K : PySem.W.Frag) (a : Addr) (n : Nat) : It :=
  ⟨fun i H => i < n ∧ ∃ (xs : List V) (x : V), SqL K H a xs ∧ xs[n - 1 - i]? = some x, fun i H x H' => H' = H ∧ ∀ xs, SqL K H a xs → xs[n - 1 - i]? = some x, fun i _ => n ≤ i⟩
theorem turn_rev {P : Program} {w : World} {K : PySem.W.Frag} {tg : Expr} (a it : Addr) (n : Nat) : Turn P w K tg (Itv K a n) [it] it (fun i h => i ≤ n ∧ h.IsRevIter it a ((n : Int) - 1 - (i : Nat))) where
  mem := by simp
  obj := fun i h st b hb => by
    have e : b = it := by simpa using hb
    subst e
    obtain ⟨_, o, e, c, d⟩ := st
    exact ⟨o, e, fun v z => by rw [d] at z; cases z⟩
  keep := fun i h h' st k => ⟨st.1, st.2.at fun o e => k it (by simp) o e⟩
  item := by
    intro X hP hw hK hc i pins s σ H E I hf st hg
    subst hP hw hK
    obtain ⟨hin, xs, x, hq, hx⟩ := hg
    obtain ⟨its, rv, p, hz⟩ := I.list hq
    obtain ⟨u, hu, ru⟩ := rv.get hx
    obtain ⟨f0, f1, f2, f3, f4, f5⟩ := hf it (by simp)
    obtain ⟨_, hit⟩ := st
    have e1 : (n : Int) - 1 - ((i : Nat) : Int) = ((n - 1 - i : Nat) : Int) := by omega
    rw [e1] at hit
    refine wpAny_pyNext_rev_item hit p.isList (x := u) (by simpa using hu) fun h' st' sb => ?_
    have e2 : ((n - 1 - i : Nat) : Int) - 1 = (n : Int) - 1 - ((i + 1 : Nat) : Int) := by omega
    rw [e2] at st'
    have I1 : Inv X pins σ H { s with heap := h' } := I.turned (t' := s.toks) (fun b o hb e => (sb.2 b hb).trans e) f0 f1 f3 f4 f5
    obtain ⟨o, e, c, d⟩ := id st'
    exact ⟨u, rfl, go_of (s := { s with heap := h' }) e c d (by decide) ⟨x, H, I1, ru, ⟨rfl, fun ys hy => by rw [I.list_inj hy hq]; exact hx⟩, ⟨hin, st'⟩, fun b hb => (hf b hb).1⟩⟩
  done := by
    intro X hP hw hK hc i pins s σ H E I hf st hg
    subst hP hw hK
    obtain ⟨f0, f1, f2, f3, f4, f5⟩ := hf it (by simp)
    obtain ⟨hin, hit⟩ := st
    have hge : n ≤ i := hg
    have e1 : (n : Int) - 1 - ((i : Nat) : Int) = -1 := by omega
    rw [e1] at hit
    exact wpAny_pyNext_rev_end (I.ok.hd hc) hit fun h' eb => ⟨rfl, I.turned (t' := s.toks) (fun b o hb e => eb b o hb e) f0 f1 f3 f4 f5⟩
  self := fun A i s Q E st h => wpAny_pyIter_revIter st.2 h
def iRev (K : PySem.W.Frag) (ta : TA) : TI := fun σ H R => ta σ H fun vs H1 => ∃ (a : Addr) (xs : List V), vs = [.ref a] ∧ SqL K H1 a xs ∧ R (Itv K a xs.length) H1
section
variable {X : Cx} {tg : Expr}
theorem pi_reversed {e : Expr} {ta : TA} {p pos : Pos} (hg : Gl X "reversed") (hm : X.mg "reversed" = none) (ha : PA X [e] ta) (hs : starEach [e] X.env = [(false, eval e X.env)] := by rfl) : PI X tg (.Call (.Name "reversed" p) [e] [] pos) (iRev X.K ta) := by
  intro pins s σ H R I h
  refine Call_ (ld_blt I hg hm boot_reversed5 (PyProof.Rows.callWith_type1 (thn (ha pos pins s σ H _ I h) fun us s1 ⟨vs, H1, I1, r1, q1⟩ => ?_) hs rfl))
  obtain ⟨a, xs, e, hq, q⟩ := q1
  subst e
  cases r1 with
  | cons r rr =>
    cases rr
    cases r
    obtain ⟨its, rv, p', hz⟩ := I1.list hq
    have hl := rv.length
    have e1 : ((its.toArray.size : Nat) : Int) - 1 = (xs.length : Int) - 1 - ((0 : Nat) : Int) := by simp only [List.size_toArray]; omega
    refine call_reversed_list p'.isList (wpAny_pyIter_revIter (l := a) (i := ((its.toArray.size : Nat) : Int) - 1) ⟨_, Heap.get?_push_size _ rfl, rfl, rfl⟩ ?_)
    refine pi_one (tk := s1.toks) I1 _ (turn_rev a _ xs.length) ⟨Nat.zero_le _, ?_⟩ q
    rw [← e1]
    exact ⟨_, Heap.get?_push_size _ rfl, rfl, rfl⟩
end

/-! ### a str -/
def Its (x : Str) : It := ⟨fun i _ => i < x.cps.size, fun i H v H' => H' = H ∧ ∃ c, x.cps[i]? = some c ∧ v = .str ⟨#[c]⟩, fun i _ => x.cps.size ≤ i⟩
theorem turn_str {P : Program} {w : World} {K : PySem.W.Frag} {tg : Expr} (it : Addr) (x : Str) (t : Tok) (ty : String) (hty : ty = "str_ascii_iterator" ∨ ty = "str_iterator") :
    Turn P w K tg (Its x) [it] it (fun i h => h.IsStrIter it ty x t i) where
  mem := by simp
  obj := fun i h st b hb => by
    have e : b = it := by simpa using hb
    subst e
    obtain ⟨o, e, c, d⟩ := st
    exact ⟨o, e, fun v z => by rw [d] at z; cases z⟩
  keep := fun i h h' st k => let ⟨o, ho, r⟩ := st; ⟨o, k it (by simp) o ho, r⟩
  item := by
    intro X hP hw hK hc i pins s σ H E I hf st hg
    subst hP hw hK
    obtain ⟨f0, f1, f2, f3, f4, f5⟩ := hf it (by simp)
    have W : Walks X.prog X.w X.A it [it] [it] x.cps.size (SignAt x) (fun i h => h.IsStrIter it ty x t i) := by
      rcases hty with e | e
      · rw [e]; exact Walks.strAscii (I.ok.hd hc) it x t
      · rw [e]; exact Walks.strWide (I.ok.hd hc) it x t
    have hno : ["enumerate", "zip", "dict_itemiterator", "dict_reverseitemiterator", "odict_iterator", "itertools.zip_longest", "itertools.pairwise"].contains ty = false := by
      rcases hty with e | e
      · rw [e]; decide
      · rw [e]; decide
    refine W.item i s _ _ hg st fun v h' tk hv st' kk => ?_
    obtain ⟨c, u, hcx, rfl⟩ := hv
    have I1 : Inv X pins σ H { s with heap := h', toks := tk } := I.turned (fun b o hb e => kk b o (by simpa using hb) e) f0 f1 f3 f4 f5
    obtain ⟨oi, e, cc, dd⟩ := id st'
    exact ⟨_, rfl, go_of (s := { s with heap := h', toks := tk }) e cc dd hno ⟨.str ⟨#[c]⟩, H, I1, ⟨u, rfl⟩, ⟨rfl, c, hcx, rfl⟩, st', fun b hb => (hf b hb).1⟩⟩
  done := by
    intro X hP hw hK hc i pins s σ H E I hf st hg
    subst hP hw hK
    obtain ⟨f0, f1, f2, f3, f4, f5⟩ := hf it (by simp)
    have hx : x.cps[i]? = none := Array.getElem?_eq_none hg
    rcases hty with e | e
    · rw [e] at st
      exact wpAny_pyNext_ascii_end (I.ok.hd hc) st hx fun h' eb => ⟨rfl, I.turned (t' := s.toks) (fun b o hb e => eb b o hb e) f0 f1 f3 f4 f5⟩
    · rw [e] at st
      exact wpAny_pyNext_wide_end (I.ok.hd hc) st hx fun h' eb => ⟨rfl, I.turned (t' := s.toks) (fun b o hb e => eb b o hb e) f0 f1 f3 f4 f5⟩
  self := fun A i s Q E st h => by
    rcases hty with e | e
    · rw [e] at st; exact wpAny_pyIter_striter_ascii st h
    · rw [e] at st; exact wpAny_pyIter_striter_wide st h
def iStr (te : TE) : TI := fun σ H R => te σ H fun v H1 => ∃ x, v = .str x ∧ R (Its x) H1
theorem pi_str {X : Cx} {tg e : Expr} {te : TE} (he : PE X e te) : PI X tg e (iStr te) := by
  intro pins s σ H R I h
  refine thn (he pins s σ H _ I h) fun v s1 ⟨y, H1, I1, r1, x, ex, q⟩ => ?_
  subst ex
  obtain ⟨t, rfl⟩ := r1
  cases ha : x.cps.all (· < 128)
  · exact wpAny_pyIter_wide ha (pi_one (tk := s1.toks) I1 _ (turn_str _ x t "str_iterator" (.inr rfl)) ⟨_, Heap.get?_push_size _ rfl, rfl, rfl⟩ q)
  · exact wpAny_pyIter_ascii ha (pi_one (tk := s1.toks) I1 _ (turn_str _ x t "str_ascii_iterator" (.inl rfl)) ⟨_, Heap.get?_push_size _ rfl, rfl, rfl⟩ q)

/-! ### a dict's keys: any dict's entries -/
section
variable {prog : Program} {w : World} {A : Around} {E : Value → Shared → Prop} {s : Shared}
theorem iter_keys {d : Addr} {o : Obj} {es : Array DictEntry} {ep : Nat} {Q : Value → Shared → Prop} (hd : (d == sysModules) = false) (ho : s.heap.get? d = some o) (hc : o.ExactDict) (hdat : o.data = .dict es ep)
    (hQ : Q (.ref s.heap.objs.size) { s with heap := s.heap.push { cls := .type "dict_keyiterator", data := .fields #[.ref d, .int 0 0, .int es.size 0, .int ep 0] } }) :
    wpAny (model prog w) A (pyIter (.ref d)) Q E s := by
  have hT : s.TypeIs (.ref d) "dict" := ⟨o, ho, hc.1⟩
  refine wpAny_pyIter_slot hT F.slot_dict_iter (wpAny_call_entry F.slot_dict_iter hT F.entry_dict_iter ?_ (F.args_dict_iter_1 _))
  unfold Builtin.«dict.__iter__»
  refine wpAny_bind ?_
  unfold Builtin.Dict.dictSlotNone
  refine wpAny_bind (wpAny_notOrdered_dict hT ?_)
  show wpAny _ _ (pure (Value.ref d)) _ _ s
  refine wpAny_pure ?_
  show wpAny _ _ (Builtin.Dict.showsAll d >>= _) _ _ s
  unfold Builtin.Dict.showsAll
  rw [if_neg (by rw [hd]; exact Bool.false_ne_true)]
  refine wpAny_bind (wpAny_pure ?_)
  refine wpAny_bind (wpAny_dictEntries ho hdat ?_)
  refine wpAny_bind (wpAny_dictEpoch ho hdat ?_)
  refine wpAny_bind (wpAny_newObj_type (wpAny_pure ⟨_, rfl, "dict_keyiterator", _, ⟨_, Heap.get?_push_size _ rfl, rfl⟩, F.slot_dict_keyiterator_next.lookup, ?_⟩))
  simpa [rawInt] using hQ
theorem next_key_item {it d : Addr} {i n ep : Nat} {od : Obj} {es : Array DictEntry} {en : DictEntry} {Q : Option Value → Shared → Prop} (hit : s.heap.IsKeyIter it d i n ep) (hod : s.heap.get? d = some od) (hdd : od.data = .dict es ep)
    (hsz : es.size = n) (hx : es[i]? = some en) (hQ : ∀ h', h'.IsKeyIter it d (i + 1) n ep → Heap.SameBut it s.heap h' → Q (some en.key) { s with heap := h' }) : wpAny (model prog w) A (pyNext (.ref it)) Q E s := by
  obtain ⟨o, ho, hc, hd⟩ := id hit
  unfold pyNext
  refine wpAny_bind (wpAny_attempt (wpAny_callSpecial?_slot (name := Str.ofString "__next__") hit.typeIs F.slot_dict_keyiterator_next
    (wpAny_call_entry F.slot_dict_keyiterator_next hit.typeIs F.entry_dict_keyiterator_next ?_ (F.args_dict_keyiterator_next_1 _))))
  refine wpAny_bind (wpAny_pure ?_)
  refine wpAny_bind ?_
  refine wpAny_bind ?_
  first | refine wpAny_bind (wpAny_typeNameOfWhole_keyiter hit.typeIs (wpAny_pure ?_)) | refine wpAny_bind (wpAny_typeNameOf_keyiter hit.typeIs (wpAny_pure ?_))
  refine wpAny_bind (wpAny_fieldsOf ho hd ?_)
  have hown : Builtin.Dict_items.ownsTuple "dict_keyiterator" = false := by decide
  simp only [hown, Bool.false_eq_true, if_false]
  show wpAny _ _ (if (Value.ref d == Value.none) = true then _ else _) _ _ s
  rw [if_neg (show ¬ ((Value.ref d == Value.none) = true) from Bool.false_ne_true)]
  refine wpAny_bind (wpAny_pure ?_)
  refine wpAny_bind (wpAny_dictEntries hod hdd ?_)
  rw [if_neg (by rw [hsz]; simp)]
  refine wpAny_bind (wpAny_pure ?_)
  refine wpAny_bind (wpAny_dictEpoch hod hdd ?_)
  rw [if_neg (by simp)]
  refine wpAny_pure ?_
  obtain ⟨hlt', hen⟩ := Array.getElem?_eq_some_iff.mp hx
  simp only [show ¬ ((i : Int) < 0) from by omega, if_false, Int.toNat_natCast, Array.getElem?_eq_getElem hlt']
  refine wpAny_bind ?_
  first | refine wpAny_bind (wpAny_typeNameOfWhole_keyiter hit.typeIs (wpAny_pure ?_)) | refine wpAny_bind (wpAny_typeNameOf_keyiter hit.typeIs (wpAny_pure ?_))
  refine wpAny_bind (wpAny_isOneOf_keyiter hit.typeIs ?_)
  show wpAny _ _ (setField (.ref it) 1 (rawInt ((i : Int) + 1)) >>= _) _ _ s
  refine wpAny_bind (wpAny_setField ho hd (by simp) ?_)
  have hit' : (s.heap.update it (Obj.mapFields (·.setIfInBounds 1 (rawInt ((i : Int) + 1))))).IsKeyIter it d (i + 1) n ep :=
    ⟨_, Heap.get?_update_self _ ho (Obj.isFreed_of_fields (Obj.data_mapFields hd _)), (Obj.cls_mapFields ..).trans hc, by rw [Obj.data_mapFields hd]; simp [rawInt]⟩
  refine wpAny_bind (wpAny_holding ?_)
  refine wpAny_bind (wpAny_isOneOf_keyiter (s := { s with heap := s.heap.update it (Obj.mapFields (·.setIfInBounds 1 (rawInt ((i : Int) + 1)))) }) hit'.typeIs ?_)
  show wpAny _ _ (pure es[i].key) _ _ _
  rw [hen]
  exact wpAny_pure (wpAny_pure ⟨_, rfl, wpAny_pure (hQ _ hit' (Heap.SameBut.update ..))⟩)
theorem next_key_end {it d : Addr} {i n ep : Nat} {od : Obj} {es : Array DictEntry} {Q : Option Value → Shared → Prop} (hh : A.handled = none) (hit : s.heap.IsKeyIter it d i n ep) (hod : s.heap.get? d = some od) (hdd : od.data = .dict es ep)
    (hsz : es.size = n) (hge : n ≤ i) (hQ : ∀ h', Heap.ExtBut it s.heap h' → Q none { s with heap := h' }) : wpAny (model prog w) A (pyNext (.ref it)) Q E s := by
  obtain ⟨o, ho, hc, hd⟩ := id hit
  unfold pyNext
  refine wpAny_bind (wpAny_attempt (wpAny_callSpecial?_slot (name := Str.ofString "__next__") hit.typeIs F.slot_dict_keyiterator_next
    (wpAny_call_entry F.slot_dict_keyiterator_next hit.typeIs F.entry_dict_keyiterator_next ?_ (F.args_dict_keyiterator_next_1 _))))
  refine wpAny_bind (wpAny_pure ?_)
  refine wpAny_bind ?_
  refine wpAny_bind ?_
  first | refine wpAny_bind (wpAny_typeNameOfWhole_keyiter hit.typeIs (wpAny_pure ?_)) | refine wpAny_bind (wpAny_typeNameOf_keyiter hit.typeIs (wpAny_pure ?_))
  refine wpAny_bind (wpAny_fieldsOf ho hd ?_)
  have hown : Builtin.Dict_items.ownsTuple "dict_keyiterator" = false := by decide
  simp only [hown, Bool.false_eq_true, if_false]
  show wpAny _ _ (if (Value.ref d == Value.none) = true then _ else _) _ _ s
  rw [if_neg (show ¬ ((Value.ref d == Value.none) = true) from Bool.false_ne_true)]
  refine wpAny_bind (wpAny_pure ?_)
  refine wpAny_bind (wpAny_dictEntries hod hdd ?_)
  rw [if_neg (by rw [hsz]; simp)]
  refine wpAny_bind (wpAny_pure ?_)
  refine wpAny_bind (wpAny_dictEpoch hod hdd ?_)
  rw [if_neg (by simp)]
  refine wpAny_pure ?_
  have hge' : es.size ≤ i := by rw [hsz]; exact hge
  simp only [show ¬ ((i : Int) < 0) from by omega, if_false, Int.toNat_natCast, Array.getElem?_eq_none hge']
  refine wpAny_bind ?_
  first | refine wpAny_bind (wpAny_typeNameOfWhole_keyiter hit.typeIs (wpAny_pure ?_)) | refine wpAny_bind (wpAny_typeNameOf_keyiter hit.typeIs (wpAny_pure ?_))
  show wpAny _ _ (setField (.ref it) 0 .none >>= _) _ _ s
  refine wpAny_bind (wpAny_setField ho hd (by simp) ?_)
  show wpAny _ _ (newExc (.type "StopIteration") [] >>= _) _ _ _
  refine wpAny_bind ?_
  simp only [newExc, newTuple]
  refine wpAny_bind (wpAny_newObj_type ?_ (by size_fits))
  refine wpAny_bind (m := firstArgMember _ _) (wpAny_of_eq (a := Value.none) (by first | rfl | (simp only [firstArgMember]; rfl)) ?_)
  refine wpAny_newObj_type ?_ (by size_fits)
  simp only [raiseNew]
  refine wpAny_bind (wpAny_handled ?_)
  rw [show A.in1.handled = none from hh]
  refine wpAny_bind (wpAny_pure (wpAny_throw ?_))
  refine wpAny_bind (wpAny_isInstance (T := "StopIteration") (b := true) ⟨_, Heap.get?_push_size _ rfl, rfl⟩ isSubtype_stop ?_)
  exact wpAny_pure (hQ _ (((Heap.SameBut.update ..).extBut.push _).push _))
end

/-! ### a locked dict -/
theorem kv_get {κ : Type} {kvs : List (κ × V)} {vs : List (κ × Value)} (h : KV kvs vs) : ∀ {i : Nat} {k : κ} {v : V}, kvs[i]? = some (k, v) → ∃ u, vs[i]? = some (k, u) ∧ RelV v u := by
  unfold KV at h
  induction h with
  | nil => intro i k v e; simp at e
  | @cons a b l₁ l₂ r t ih =>
    intro i k v e
    cases i with
    | zero =>
      simp only [List.getElem?_cons_zero, Option.some.injEq] at e
      subst e
      refine ⟨b.2, ?_, r.2⟩
      simp only [List.getElem?_cons_zero]
      exact congrArg some (Prod.ext r.1.symm rfl)
    | succ j =>
      simp only [List.getElem?_cons_succ] at e ⊢
      exact ih e
theorem paired_get {α β : Type} {G : α → β → Prop} {l₁ : List α} {l₂ : List β} (h : Paired G l₁ l₂) : ∀ {i : Nat} {a : α}, l₁[i]? = some a → ∃ b, l₂[i]? = some b ∧ G a b := by
  induction h with
  | nil => intro i a e; simp at e
  | @cons a b l₁ l₂ r t ih =>
    intro i a' e
    cases i with
    | zero =>
      simp only [List.getElem?_cons_zero, Option.some.injEq] at e
      subst e
      exact ⟨b, rfl, r⟩
    | succ j =>
      simp only [List.getElem?_cons_succ] at e ⊢
      exact ih e
theorem relV_key {k : Key} {u : Value} (h : keyIs k u = true) : RelV (kV k) u := by
  rcases keyIs_shape h with ⟨i, t, rfl, rfl⟩ | ⟨x, t, rfl, rfl⟩
  · exact ⟨t, rfl⟩
  · exact ⟨t, rfl⟩
section
variable {X : Cx} {pins : List (Addr × Obj)} {σ : St} {H : Hp} {s : Shared} {d : Addr} {o : Obj}
theorem Inv.frzK {kvs : List (Key × V)} (I : Inv X pins σ H s) (h : H d = some (.frz o (.dK kvs))) :
    (d == sysModules) = false ∧ s.heap.get? d = some o ∧ o.ExactDict ∧ ∃ (es : Array DictEntry) (ep : Nat) (vs : List (Key × Value)), o.data = .dict es ep ∧ es.size = kvs.length ∧ KV kvs vs ∧ s.heap.DictAt (mixKind X.prog X.w) d vs ep := by
  obtain ⟨hd, z, hs, vs, kv, o', es, ep, ho, hx, hdt, r⟩ := I.hok d _ h
  rw [hd] at ho
  cases ho
  refine ⟨hs, hd, hx, es, ep, vs, hdt, ?_, kv, o, es, hd, hx, hdt, r⟩
  have l1 := r.2.1.length
  have l2 : kvs.length = vs.length := Paired.length kv
  rw [Array.length_toList] at l1
  omega
/-- the same for tuple keys -/
theorem Inv.frzT {kvs : List (List Key × V)} (I : Inv X pins σ H s) (h : H d = some (.frz o (.dT kvs))) :
    (d == sysModules) = false ∧ s.heap.get? d = some o ∧ o.ExactDict ∧ ∃ (es : Array DictEntry) (ep : Nat), o.data = .dict es ep ∧ es.size = kvs.length ∧
      ∀ (i : Nat) (k : List Key) (v : V), kvs[i]? = some (k, v) → ∃ (en : DictEntry) (q : Addr), es[i]? = some en ∧ en.key = .ref q ∧ H q = some (.tup (k.map kV)) := by
  obtain ⟨hd, z, hs, xs, pr, o', es, ep, ho, hx, hdt, he, _⟩ := I.hok d _ h
  rw [hd] at ho
  cases ho
  refine ⟨hs, hd, hx, es, ep, hdt, ?_, fun i k v e => ?_⟩
  · have l1 : es.size = xs.length := size_of_entries he
    have l2 : kvs.length = xs.length := Paired.length pr
    omega
  · obtain ⟨b, hb, e1, e2, _⟩ := paired_get pr e
    have q := entry_at he i
    rw [hb] at q
    exact ⟨_, b.2.1, q, rfl, e2⟩
end

/-- the keys of the locked dict at d, in their order -/
def Itk (d : Addr) (o : Obj) (kvs : List (Key × V)) : It :=
  ⟨fun i H => H d = some (.frz o (.dK kvs)) ∧ i < kvs.length, fun i H x H' => H' = H ∧ ∃ k v, kvs[i]? = some (k, v) ∧ x = kV k, fun i H => H d = some (.frz o (.dK kvs)) ∧ kvs.length ≤ i⟩
/-- .. of tuple keys: the key's own tuple -/
def Itkt (d : Addr) (o : Obj) (kvs : List (List Key × V)) : It :=
  ⟨fun i H => H d = some (.frz o (.dT kvs)) ∧ i < kvs.length, fun i H x H' => H' = H ∧ ∃ (k : List Key) (v : V) (q : Addr), kvs[i]? = some (k, v) ∧ x = .ref q ∧ H q = some (.tup (k.map kV)), fun i H => H d = some (.frz o (.dT kvs)) ∧ kvs.length ≤ i⟩
/-- the values -/
def Itd (d : Addr) (o : Obj) (kvs : List (Key × V)) : It :=
  ⟨fun i H => H d = some (.frz o (.dK kvs)) ∧ i < kvs.length, fun i H x H' => H' = H ∧ ∃ k, kvs[i]? = some (k, x), fun i H => H d = some (.frz o (.dK kvs)) ∧ kvs.length ≤ i⟩
/-- the pairs, each a new tuple -/
def Iti (d : Addr) (o : Obj) (kvs : List (Key × V)) : It :=
  ⟨fun i H => H d = some (.frz o (.dK kvs)) ∧ i < kvs.length, fun i H x H' => ∃ T k v, kvs[i]? = some (k, v) ∧ x = .ref T ∧ H T = none ∧ H' = upd H T (.tup [kV k, v]), fun i H => H d = some (.frz o (.dK kvs)) ∧ kvs.length ≤ i⟩
theorem dict_ep {o : Obj} {es es' : Array DictEntry} {ep ep' : Nat} (h : o.data = .dict es ep) (h' : o.data = .dict es' ep') : es' = es ∧ ep' = ep := by
  rw [h] at h'
  cases h'
  exact ⟨rfl, rfl⟩
section
variable {P : Program} {w : World} {K : PySem.W.Frag} {tg : Expr} {d : Addr} {o : Obj} {es : Array DictEntry} {ep : Nat}
theorem turn_keys {kvs : List (Key × V)} (it : Addr) (hod : o.data = .dict es ep) : Turn P w K tg (Itk d o kvs) [it] it (fun i h => h.IsKeyIter it d i kvs.length ep) where
  mem := by simp
  obj := fun i h st b hb => by
    have e : b = it := by simpa using hb
    subst e
    obtain ⟨oi, e, c, dd⟩ := st
    exact ⟨oi, e, fun v z => by rw [dd] at z; cases z⟩
  keep := fun i h h' st k => st.at fun oi e => k it (by simp) oi e
  item := by
    intro X hP hw hK hc i pins s σ H E I hf st hg
    subst hP hw hK
    obtain ⟨hd, hi⟩ := hg
    obtain ⟨f0, f1, f2, f3, f4, f5⟩ := hf it (by simp)
    obtain ⟨hs, hgd, hx, es', ep', vs, hdt, hsz, kv, hm⟩ := I.frzK hd
    obtain ⟨rfl, rfl⟩ := dict_ep hod hdt
    obtain ⟨⟨k, v⟩, hkv⟩ : ∃ p, kvs[i]? = some p := ⟨kvs[i], List.getElem?_eq_getElem hi⟩
    obtain ⟨u, hu, ru⟩ := kv_get kv hkv
    have hl : kvs.length = vs.length := Paired.length kv
    rw [hl] at st
    refine wpAny_pyNext_dict_item st hm hu fun key h' hkey st' sb => ?_
    have I1 : Inv X pins σ H { s with heap := h' } := I.turned (t' := s.toks) (fun b ob hb e => (sb.2 b hb).trans e) f0 f1 f3 f4 f5
    obtain ⟨oi, e, c, dd⟩ := id st'
    refine ⟨key, rfl, go_of (s := { s with heap := h' }) e c dd (by decide) ⟨kV k, H, I1, relV_key (show keyIs k key = true from hkey), ⟨rfl, k, v, hkv, rfl⟩, ?_, fun b hb => (hf b hb).1⟩⟩
    show h'.IsKeyIter it d (i + 1) kvs.length _
    rw [hl]
    exact st'
  done := by
    intro X hP hw hK hc i pins s σ H E I hf st hg
    subst hP hw hK
    obtain ⟨hd, hi⟩ := hg
    obtain ⟨f0, f1, f2, f3, f4, f5⟩ := hf it (by simp)
    obtain ⟨hs, hgd, hx, es', ep', vs, hdt, hsz, kv, hm⟩ := I.frzK hd
    obtain ⟨rfl, rfl⟩ := dict_ep hod hdt
    exact next_key_end (I.ok.hd hc) st hgd hdt hsz hi fun h' eb => ⟨rfl, I.turned (t' := s.toks) (fun b ob hb e => eb b ob hb e) f0 f1 f3 f4 f5⟩
  self := fun A i s Q E st h => wpAny_pyIter_keyiter st h
theorem turn_keysT {kvs : List (List Key × V)} (it : Addr) (hod : o.data = .dict es ep) : Turn P w K tg (Itkt d o kvs) [it] it (fun i h => h.IsKeyIter it d i kvs.length ep) where
  mem := by simp
  obj := fun i h st b hb => by
    have e : b = it := by simpa using hb
    subst e
    obtain ⟨oi, e, c, dd⟩ := st
    exact ⟨oi, e, fun v z => by rw [dd] at z; cases z⟩
  keep := fun i h h' st k => st.at fun oi e => k it (by simp) oi e
  item := by
    intro X hP hw hK hc i pins s σ H E I hf st hg
    subst hP hw hK
    obtain ⟨hd, hi⟩ := hg
    obtain ⟨f0, f1, f2, f3, f4, f5⟩ := hf it (by simp)
    obtain ⟨hs, hgd, hx, es', ep', hdt, hsz, ent⟩ := I.frzT hd
    obtain ⟨rfl, rfl⟩ := dict_ep hod hdt
    obtain ⟨⟨k, v⟩, hkv⟩ : ∃ p, kvs[i]? = some p := ⟨kvs[i], List.getElem?_eq_getElem hi⟩
    obtain ⟨en, q, hen, hkey, hq⟩ := ent i k v hkv
    refine next_key_item st hgd hdt hsz hen fun h' st' sb => ?_
    have I1 : Inv X pins σ H { s with heap := h' } := I.turned (t' := s.toks) (fun b ob hb e => (sb.2 b hb).trans e) f0 f1 f3 f4 f5
    obtain ⟨oi, e, c, dd⟩ := id st'
    exact ⟨en.key, rfl, go_of (s := { s with heap := h' }) e c dd (by decide) ⟨.ref q, H, I1, hkey, ⟨rfl, k, v, q, hkv, rfl, hq⟩, st', fun b hb => (hf b hb).1⟩⟩
  done := by
    intro X hP hw hK hc i pins s σ H E I hf st hg
    subst hP hw hK
    obtain ⟨hd, hi⟩ := hg
    obtain ⟨f0, f1, f2, f3, f4, f5⟩ := hf it (by simp)
    obtain ⟨hs, hgd, hx, es', ep', hdt, hsz, ent⟩ := I.frzT hd
    obtain ⟨rfl, rfl⟩ := dict_ep hod hdt
    exact next_key_end (I.ok.hd hc) st hgd hdt hsz hi fun h' eb => ⟨rfl, I.turned (t' := s.toks) (fun b ob hb e => eb b ob hb e) f0 f1 f3 f4 f5⟩
  self := fun A i s Q E st h => by
    refine wpAny_pyIter_slot st.typeIs F.slot_dict_keyiterator_iter (wpAny_call_entry F.slot_dict_keyiterator_iter st.typeIs F.entry_dict_keyiterator_iter ?_ (F.args_dict_keyiterator_iter_1 _))
    show wpAny _ _ (ret (.ref it)) _ _ s
    exact wpAny_pure ⟨_, rfl, "dict_keyiterator", _, st.typeIs, F.slot_dict_keyiterator_next.lookup, h⟩
theorem turn_vals {kvs : List (Key × V)} (it : Addr) (hod : o.data = .dict es ep) : Turn P w K tg (Itd d o kvs) [it] it (fun i h => h.IsValIter it d i kvs.length ep) where
  mem := by simp
  obj := fun i h st b hb => by
    have e : b = it := by simpa using hb
    subst e
    obtain ⟨oi, e, c, dd⟩ := st
    exact ⟨oi, e, fun v z => by rw [dd] at z; cases z⟩
  keep := fun i h h' st k => st.at fun oi e => k it (by simp) oi e
  item := by
    intro X hP hw hK hc i pins s σ H E I hf st hg
    subst hP hw hK
    obtain ⟨hd, hi⟩ := hg
    obtain ⟨f0, f1, f2, f3, f4, f5⟩ := hf it (by simp)
    obtain ⟨hs, hgd, hx, es', ep', vs, hdt, hsz, kv, hm⟩ := I.frzK hd
    obtain ⟨rfl, rfl⟩ := dict_ep hod hdt
    obtain ⟨⟨k, v⟩, hkv⟩ : ∃ p, kvs[i]? = some p := ⟨kvs[i], List.getElem?_eq_getElem hi⟩
    obtain ⟨u, hu, ru⟩ := kv_get kv hkv
    have hl : kvs.length = vs.length := Paired.length kv
    rw [hl] at st
    refine wpAny_pyNext_values_item st hm hu fun h' st' sb => ?_
    have I1 : Inv X pins σ H { s with heap := h' } := I.turned (t' := s.toks) (fun b ob hb e => (sb.2 b hb).trans e) f0 f1 f3 f4 f5
    obtain ⟨oi, e, c, dd⟩ := id st'
    refine ⟨u, rfl, go_of (s := { s with heap := h' }) e c dd (by decide) ⟨v, H, I1, ru, ⟨rfl, k, hkv⟩, ?_, fun b hb => (hf b hb).1⟩⟩
    show h'.IsValIter it d (i + 1) kvs.length _
    rw [hl]
    exact st'
  done := by
    intro X hP hw hK hc i pins s σ H E I hf st hg
    subst hP hw hK
    obtain ⟨hd, hi⟩ := hg
    obtain ⟨f0, f1, f2, f3, f4, f5⟩ := hf it (by simp)
    obtain ⟨hs, hgd, hx, es', ep', vs, hdt, hsz, kv, hm⟩ := I.frzK hd
    obtain ⟨rfl, rfl⟩ := dict_ep hod hdt
    have hl : kvs.length = vs.length := Paired.length kv
    rw [hl] at st
    exact wpAny_pyNext_values_end (I.ok.hd hc) st hm (List.getElem?_eq_none (by omega)) fun h' eb => ⟨rfl, I.turned (t' := s.toks) (fun b ob hb e => eb b ob hb e) f0 f1 f3 f4 f5⟩
  self := fun A i s Q E st h => wpAny_pyIter_valiter st h
theorem turn_items {kvs : List (Key × V)} {elts : List Expr} {kk : Nat} {tpos : Pos} (it : Addr) (hod : o.data = .dict es ep) :
    Turn P w K (.Tuple elts kk tpos) (Iti d o kvs) [it] it (fun i h => ∃ ok ov, IsItemIter h it d i kvs.length ep ok ov) where
  mem := by simp
  obj := fun i h st b hb => by
    have e : b = it := by simpa using hb
    subst e
    obtain ⟨ok, ov, e⟩ := st
    exact ⟨_, e, fun v z => nomatch z⟩
  keep := fun i h h' st k => let ⟨ok, ov, e⟩ := st; ⟨ok, ov, k it (by simp) _ e⟩
  item := by
    intro X hP hw hK hc i pins s σ H E I hf st hg
    subst hP hw hK
    obtain ⟨hd, hi⟩ := hg
    obtain ⟨hs, hgd, hx, es', ep', vs, hdt, hsz, kv, hm⟩ := I.frzK hd
    obtain ⟨rfl, rfl⟩ := dict_ep hod hdt
    obtain ⟨⟨k, v⟩, hkv⟩ : ∃ p, kvs[i]? = some p := ⟨kvs[i], List.getElem?_eq_getElem hi⟩
    obtain ⟨u, hu, ru⟩ := kv_get kv hkv
    have hl : kvs.length = vs.length := Paired.length kv
    obtain ⟨ok, ov, he⟩ := st
    rw [hl] at he
    have hlt : it < s.heap.objs.size := Heap.lt_size he
    refine wpAny_pyNext_items_item he hm hu fun key h' hkey ho hT hz hk => ?_
    refine ⟨_, rfl, wpAny_letOwnedTupleGo_items (s := { s with heap := h' }) ho fun h'' he' sb => ?_⟩
    have hT2 : h''.get? s.heap.objs.size = some { cls := .type "tuple", data := .seq #[key, u] } := (sb.2 _ (Nat.ne_of_gt hlt)).trans hT
    have new : ObjOk X.prog X.w (upd H s.heap.objs.size (.tup [kV k, v])) h'' s.heap.objs.size (.tup [kV k, v]) :=
      ⟨by show 2 ≤ sizeLine; decide, [key, u], .cons (relV_key (show keyIs k key = true from hkey)) (.cons ru .nil), ⟨_, hT2, rfl, _, rfl⟩⟩
    have I1 : Inv X pins σ (upd H s.heap.objs.size (.tup [kV k, v])) { s with heap := h'' } :=
      I.turnedNew (t' := s.toks) (ch := [it]) (fun b ob hb e => (sb.2 b (by simpa using hb)).trans (hk b ob (by simpa using hb) e)) hf (Nat.le_refl _) new
    refine ⟨.ref s.heap.objs.size, _, I1, rfl, ⟨_, k, v, hkv, rfl, I.hok.fresh (Nat.le_refl _), rfl⟩, ⟨key, u, ?_⟩, fun b hb => ?_⟩
    · rw [hl]; exact he'
    · have e : b = it := by simpa using hb
      rw [e, upd_ne (Nat.ne_of_lt hlt)]
      exact (hf it (by simp)).1
  done := by
    intro X hP hw hK hc i pins s σ H E I hf st hg
    subst hP hw hK
    obtain ⟨hd, hi⟩ := hg
    obtain ⟨f0, f1, f2, f3, f4, f5⟩ := hf it (by simp)
    obtain ⟨hs, hgd, hx, es', ep', vs, hdt, hsz, kv, hm⟩ := I.frzK hd
    obtain ⟨rfl, rfl⟩ := dict_ep hod hdt
    have hl : kvs.length = vs.length := Paired.length kv
    obtain ⟨ok, ov, he⟩ := st
    rw [hl] at he
    exact wpAny_pyNext_items_end (I.ok.hd hc) he hm (List.getElem?_eq_none (by omega)) fun h' eb => ⟨rfl, I.turned (t' := s.toks) (fun b ob hb e => eb b ob hb e) f0 f1 f3 f4 f5⟩
  self := fun A i s Q E st h => let ⟨_, _, e⟩ := st; PySem.W.kcp_self e h
end

/-! ### for k in d, d.keys(), d.values(), d.items() -/
/-- the dict is locked (tLock, or by the caller) -/
def iKeys (td : TE) : TI := fun σ H R => td σ H fun x H1 => ∃ d o, x = .ref d ∧ ((∃ kvs, H1 d = some (.frz o (.dK kvs)) ∧ R (Itk d o kvs) H1) ∨ ∃ kvs, H1 d = some (.frz o (.dT kvs)) ∧ R (Itkt d o kvs) H1)
def iVals (td : TE) : TI := fun σ H R => td σ H fun x H1 => ∃ d o kvs, x = .ref d ∧ H1 d = some (.frz o (.dK kvs)) ∧ R (Itd d o kvs) H1
def iItems (td : TE) : TI := fun σ H R => td σ H fun x H1 => ∃ d o kvs, x = .ref d ∧ H1 d = some (.frz o (.dK kvs)) ∧ R (Iti d o kvs) H1
def iKeysM (td : TE) : TI := fun σ H R => td σ H fun x H1 => ∃ d o kvs, x = .ref d ∧ H1 d = some (.frz o (.dK kvs)) ∧ R (Itk d o kvs) H1
section
variable {X : Cx} {tg e : Expr} {td : TE} {apos cpos : Pos}
theorem pi_keys (he : PE X e td) : PI X tg e (iKeys td) := by
  intro pins s σ H R I h
  refine thn (he pins s σ H _ I h) fun u s1 ⟨x, H1, I1, rx, d, o, ex, q⟩ => ?_
  subst ex
  obtain rfl : u = Value.ref d := rx
  rcases q with ⟨kvs, hd, q⟩ | ⟨kvs, hd, q⟩
  · obtain ⟨hs, hgd, hx, es, ep, vs, hdt, hsz, kv, hm⟩ := I1.frzK hd
    refine iter_keys hs hgd hx hdt (pi_one (tk := s1.toks) I1 _ (turn_keys _ hdt) ⟨_, Heap.get?_push_size _ rfl, rfl, ?_⟩ q)
    rw [hsz] <;> rfl
  · obtain ⟨hs, hgd, hx, es, ep, hdt, hsz, ent⟩ := I1.frzT hd
    refine iter_keys hs hgd hx hdt (pi_one (tk := s1.toks) I1 _ (turn_keysT _ hdt) ⟨_, Heap.get?_push_size _ rfl, rfl, ?_⟩ q)
    rw [hsz] <;> rfl
theorem pi_values (he : PE X e td) (hbase : attributeBase e "values" X.env (eval e X.env) = eval e X.env := by rfl) (hline : (apos.endLine == cpos.line) = true := by rfl) : PI X tg (.Call (.Attribute e "values" apos) [] [] cpos) (iVals td) := by
  intro pins s σ H R I h
  refine wpAny_Call_method (T := "dict") (id := "dict.values") hbase rfl hline F.plainAttrs_dict F.slot_dict_values F.type_dict_values (thn (he pins s σ H _ I h) fun u s1 ⟨x, H1, I1, rx, d, o, kvs, ex, hd, q⟩ => ?_)
  subst ex
  obtain rfl : u = Value.ref d := rx
  obtain ⟨hs, hgd, hx, es, ep, vs, hdt, hsz, kv, hm⟩ := I1.frzK hd
  have hl : kvs.length = vs.length := Paired.length kv
  refine ⟨hm.dictOf.typeIs, hm.dictOf.mapOf.noDict, ?_⟩
  have I2 : Inv X pins σ H1 { s1 with heap := s1.heap.push { cls := .type "dict_values", data := .fields #[.ref d] } } := I1.kept (t' := s1.toks) fun b ob q => Heap.get?_push_of_some _ q
  have fin : wpAny (model X.prog X.w) X.A (pyIter (.ref s1.heap.objs.size)) (PIE X pins σ tg R) X.xe { s1 with heap := s1.heap.push { cls := .type "dict_values", data := .fields #[.ref d] } } := by
    refine wpAny_pyIter_values (d := d) (knd := mixKind X.prog X.w) ⟨_, Heap.get?_push_size _ rfl, rfl, rfl⟩ (hm.push _) (pi_one (tk := s1.toks) I2 _ (turn_vals _ hdt) ⟨_, Heap.get?_push_size _ rfl, rfl, ?_⟩ q)
    rw [hl] <;> rfl
  show wpAny _ _ (callWith cpos (.builtin "dict.values") [.ref d] [] []) _ X.xe s1
  exact method_meetsIn F.slot_dict_values F.entry_dict_values rfl (PySem.evalArgs_none ⟨rfl, hm.dictOf.typeIs, F.args_dict_values_1 _, _, meets_dict_values (mixKind X.prog X.w) d hs, ⟨vs, hm.dictOf⟩, fin⟩)
theorem pi_items {elts : List Expr} {kk : Nat} {tpos : Pos} (he : PE X e td) (hbase : attributeBase e "items" X.env (eval e X.env) = eval e X.env := by rfl) (hline : (apos.endLine == cpos.line) = true := by rfl) :
    PI X (.Tuple elts kk tpos) (.Call (.Attribute e "items" apos) [] [] cpos) (iItems td) := by
  intro pins s σ H R I h
  refine wpAny_Call_method (T := "dict") (id := "dict.items") hbase rfl hline F.plainAttrs_dict F.slot_dict_items F.type_dict_items (thn (he pins s σ H _ I h) fun u s1 ⟨x, H1, I1, rx, d, o, kvs, ex, hd, q⟩ => ?_)
  subst ex
  obtain rfl : u = Value.ref d := rx
  obtain ⟨hs, hgd, hx, es, ep, vs, hdt, hsz, kv, hm⟩ := I1.frzK hd
  have hl : kvs.length = vs.length := Paired.length kv
  refine ⟨hm.dictOf.typeIs, hm.dictOf.mapOf.noDict, ?_⟩
  have I2 : Inv X pins σ H1 { s1 with heap := s1.heap.push { cls := .type "dict_items", data := .fields #[.ref d] } } := I1.kept (t' := s1.toks) fun b ob q => Heap.get?_push_of_some _ q
  have fin : wpAny (model X.prog X.w) X.A (pyIter (.ref s1.heap.objs.size)) (PIE X pins σ (.Tuple elts kk tpos) R) X.xe { s1 with heap := s1.heap.push { cls := .type "dict_items", data := .fields #[.ref d] } } := by
    refine wpAny_pyIter_items (d := d) (knd := mixKind X.prog X.w) ⟨_, Heap.get?_push_size _ rfl, rfl, rfl⟩ (hm.push _) (pi_one (tk := s1.toks) I2 _ (turn_items _ hdt) ⟨.none, .none, ?_⟩ q)
    rw [hl]
    exact Heap.get?_push_size _ rfl
  show wpAny _ _ (callWith cpos (.builtin "dict.items") [.ref d] [] []) _ X.xe s1
  exact method_meetsIn F.slot_dict_items F.entry_dict_items rfl (PySem.evalArgs_none ⟨rfl, hm.dictOf.typeIs, F.args_dict_items_1 _, _, meets_dict_items (mixKind X.prog X.w) d hs, ⟨vs, hm.dictOf⟩, fin⟩)
theorem pi_keysM (he : PE X e td) (hbase : attributeBase e "keys" X.env (eval e X.env) = eval e X.env := by rfl) (hline : (apos.endLine == cpos.line) = true := by rfl) : PI X tg (.Call (.Attribute e "keys" apos) [] [] cpos) (iKeysM td) := by
  intro pins s σ H R I h
  refine wpAny_Call_method (T := "dict") (id := "dict.keys") hbase rfl hline F.plainAttrs_dict F.slot_dict_keys F.type_dict_keys (thn (he pins s σ H _ I h) fun u s1 ⟨x, H1, I1, rx, d, o, kvs, ex, hd, q⟩ => ?_)
  subst ex
  obtain rfl : u = Value.ref d := rx
  obtain ⟨hs, hgd, hx, es, ep, vs, hdt, hsz, kv, hm⟩ := I1.frzK hd
  have hl : kvs.length = vs.length := Paired.length kv
  refine ⟨hm.dictOf.typeIs, hm.dictOf.mapOf.noDict, ?_⟩
  have I2 : Inv X pins σ H1 { s1 with heap := s1.heap.push { cls := .type "dict_keys", data := .fields #[.ref d] } } := I1.kept (t' := s1.toks) fun b ob q => Heap.get?_push_of_some _ q
  have fin : wpAny (model X.prog X.w) X.A (pyIter (.ref s1.heap.objs.size)) (PIE X pins σ tg R) X.xe { s1 with heap := s1.heap.push { cls := .type "dict_keys", data := .fields #[.ref d] } } := by
    refine PySem.W.kdl_pyIter_keys (d := d) (knd := mixKind X.prog X.w) ⟨_, Heap.get?_push_size _ rfl, rfl, rfl⟩ (hm.push _) (pi_one (tk := s1.toks) I2 _ (turn_keys _ hdt) ⟨_, Heap.get?_push_size _ rfl, rfl, ?_⟩ q)
    rw [hl] <;> rfl
  show wpAny _ _ (callWith cpos (.builtin "dict.keys") [.ref d] [] []) _ X.xe s1
  exact method_meetsIn F.slot_dict_keys F.entry_dict_keys rfl (PySem.evalArgs_none ⟨rfl, hm.dictOf.typeIs, F.args_dict_keys_1 _, _, PySem.W.kdl_meets_keys (mixKind X.prog X.w) d hs, ⟨vs, hm.dictOf⟩, fin⟩)
end

/-! ### enumerate(list) -/
/-- the list at a as it stands at each turn, each item in a new pair -/
def Ite (K : PySem.W.Frag) (a : Addr) : It :=
  ⟨fun i H => ∃ (xs : List V) (x : V), SqL K H a xs ∧ xs[i]? = some x, fun i H v H' => ∃ T x, v = .ref T ∧ H T = none ∧ H' = upd H T (.tup [.int (i : Nat), x]) ∧ ∀ xs, SqL K H a xs → xs[i]? = some x, fun i H => ∃ xs : List V, SqL K H a xs ∧ xs.length ≤ i⟩
theorem turn_enum {P : Program} {w : World} {K : PySem.W.Frag} {elts : List Expr} {kk : Nat} {tpos : Pos} (a e it : Addr) :
    Turn P w K (.Tuple elts kk tpos) (Ite K a) [e, it] e (fun i h => (∃ old, IsEnum h e it ((i : Nat) : Int) old) ∧ h.IsListIter it a i ∧ e ≠ it) where
  mem := by simp
  obj := fun i h st b hb => by
    obtain ⟨⟨old, he⟩, ⟨o, ho, hc, hd⟩, _⟩ := st
    have e' : b = e ∨ b = it := by simpa using hb
    rcases e' with z | z
    · rw [z]; exact ⟨_, he, fun v q => nomatch q⟩
    · rw [z]; exact ⟨o, ho, fun v q => by rw [hd] at q; cases q⟩
  keep := fun i h h' st k => let ⟨⟨old, he⟩, hi, hne⟩ := st; ⟨⟨old, k e (by simp) _ he⟩, hi.at fun o q => k it (by simp) o q, hne⟩
  item := by
    intro X hP hw hK hc i pins s σ H E I hf st hg
    subst hP hw hK
    obtain ⟨⟨old, he⟩, hit, hne⟩ := st
    obtain ⟨xs, x, hq, hx⟩ := hg
    obtain ⟨its, rv, p, hz⟩ := I.list hq
    obtain ⟨u, hu, ru⟩ := rv.get hx
    have hel : e < s.heap.objs.size := Heap.lt_size he
    have hil : it < s.heap.objs.size := by obtain ⟨_, q, _⟩ := hit; exact Heap.lt_size q
    refine wpAny_pyNext_enum_item he hit p.isList (x := u) (by simpa using hu) hne fun h' ho hit' hT hsz hk => ?_
    refine ⟨_, rfl, wpAny_letOwnedTupleGo_enum (s := { s with heap := h', toks := s.toks + 1 }) ho fun h'' he' sb => ?_⟩
    have hT2 : h''.get? s.heap.objs.size = some { cls := .type "tuple", data := .seq #[.int i s.toks, u] } := (sb.2 _ (Nat.ne_of_gt hel)).trans hT
    have new : ObjOk X.prog X.w (upd H s.heap.objs.size (.tup [.int (i : Nat), x])) h'' s.heap.objs.size (.tup [.int (i : Nat), x]) :=
      ⟨by show 2 ≤ sizeLine; decide, [.int i s.toks, u], .cons ⟨_, rfl⟩ (.cons ru .nil), ⟨_, hT2, rfl, _, rfl⟩⟩
    have I1 : Inv X pins σ (upd H s.heap.objs.size (.tup [.int (i : Nat), x])) { s with heap := h'', toks := s.toks + 1 } :=
      I.turnedNew (ch := [e, it]) (fun b ob hb q => (sb.2 b (fun z => hb (by simp [z]))).trans (hk b ob (fun z => hb (by simp [z])) (fun z => hb (by simp [z])) q)) hf (Nat.le_refl _) new
    refine ⟨.ref s.heap.objs.size, _, I1, rfl, ⟨_, x, rfl, I.hok.fresh (Nat.le_refl _), rfl, fun ys hy => by rw [I.list_inj hy hq]; exact hx⟩, ⟨⟨u, ?_⟩, hit'.at fun o q => (sb.2 it (Ne.symm hne)).trans q, hne⟩, fun b hb => ?_⟩
    · have e1 : ((i + 1 : Nat) : Int) = (i : Int) + 1 := by omega
      rw [e1]; exact he'
    · have hb' : b < s.heap.objs.size := by
        have e' : b = e ∨ b = it := by simpa using hb
        rcases e' with z | z
        · rw [z]; exact hel
        · rw [z]; exact hil
      rw [upd_ne (Nat.ne_of_lt hb')]
      exact (hf b hb).1
  done := by
    intro X hP hw hK hc i pins s σ H E I hf st hg
    subst hP hw hK
    obtain ⟨⟨old, he⟩, hit, hne⟩ := st
    obtain ⟨xs, hq, hx⟩ := hg
    obtain ⟨its, rv, p, hz⟩ := I.list hq
    obtain ⟨f0, f1, f2, f3, f4, f5⟩ := hf it (by simp)
    have hl := rv.length
    exact wpAny_pyNext_enum_end (I.ok.hd hc) he hit p.isList (by simp; omega) fun h' eb => ⟨rfl, I.turned (t' := s.toks) (fun b o hb q => eb b o hb q) f0 f1 f3 f4 f5⟩
  self := fun A i s Q E st h => let ⟨⟨_, he⟩, _⟩ := st; wpAny_pyIter_enum he h
def iEnum (K : PySem.W.Frag) (ta : TA) : TI := fun σ H R => ta σ H fun vs H1 => ∃ a xs, vs = [.ref a] ∧ SqL K H1 a xs ∧ R (Ite K a) H1
theorem pi_enum {X : Cx} {e : Expr} {ta : TA} {p pos tpos : Pos} {elts : List Expr} {kk : Nat} (hg : Gl X "enumerate") (hm : X.mg "enumerate" = none) (ha : PA X [e] ta) (hs : starEach [e] X.env = [(false, eval e X.env)] := by rfl) :
    PI X (.Tuple elts kk tpos) (.Call (.Name "enumerate" p) [e] [] pos) (iEnum X.K ta) := by
  intro pins s σ H R I h
  refine Call_ (ld_blt I hg hm boot_enumerate (PyProof.Rows.callWith_type1 (thn (ha pos pins s σ H _ I h) fun us s1 ⟨vs, H1, I1, r1, q1⟩ => ?_) hs rfl))
  obtain ⟨a, xs, ex, hq, q⟩ := q1
  subst ex
  cases r1 with
  | cons r rr =>
    cases rr
    cases r
    obtain ⟨its, rv, p', hz⟩ := I1.list hq
    refine call_enumerate_list p'.isList fun h' he hit hsz hk => wpAny_pyIter_enum he ?_
    have I2 : Inv X pins σ H1 { s1 with heap := h' } := I1.kept (t' := s1.toks) hk
    refine ⟨s1.heap.objs.size + 1, [s1.heap.objs.size + 1, s1.heap.objs.size], _, _, H1, rfl, I2, turn_enum a (s1.heap.objs.size + 1) s1.heap.objs.size, ⟨⟨.none, he⟩, hit, Nat.succ_ne_self _⟩, fun b hb => ?_, q⟩
    have e' : b = s1.heap.objs.size + 1 ∨ b = s1.heap.objs.size := by simpa using hb
    have hle : s1.heap.objs.size ≤ b := by
      rcases e' with z | z
      · rw [z]; exact Nat.le_add_right _ _
      · rw [z]; exact Nat.le_refl _
    exact I1.fpOk hle (I1.hok.fresh hle)
/-! ### zip(list, list) -/
theorem boot_zip5 : bootBuiltins "zip" = some (.type "zip") := by decide +kernel
/-- the lists at a and b as they stand at each turn, the items in new pairs -/
def Itz (K : PySem.W.Frag) (a b : Addr) : It :=
  ⟨fun i H => ∃ (xs ys : List V) (x y : V), SqL K H a xs ∧ SqL K H b ys ∧ xs[i]? = some x ∧ ys[i]? = some y,
    fun i H v H' => ∃ T x y, v = .ref T ∧ H T = none ∧ H' = upd H T (.tup [x, y]) ∧ (∀ xs, SqL K H a xs → xs[i]? = some x) ∧ ∀ ys, SqL K H b ys → ys[i]? = some y,
    fun i H => ∃ xs ys : List V, SqL K H a xs ∧ SqL K H b ys ∧ (xs.length ≤ i ∨ ys.length ≤ i)⟩
theorem turn_zip {P : Program} {w : World} {K : PySem.W.Frag} {elts : List Expr} {kk : Nat} {tpos : Pos} {a b z TI TO i1 i2 : Addr} (D : ZipApart z TI TO i1 i2 a b) :
    Turn P w K (.Tuple elts kk tpos) (Itz K a b) [z, TI, TO, i1, i2] z (fun i h => IsZip h z TI TO .none ∧ IsPair h TI (.ref i1) (.ref i2) ∧ (∃ x y, IsPair h TO x y) ∧ h.IsListIter i1 a i ∧ h.IsListIter i2 b i) where
  mem := by simp
  obj := fun i h st c hc => by
    obtain ⟨hz, hTI, ⟨x, y, hTO⟩, ⟨o1, e1, _, d1⟩, ⟨o2, e2, _, d2⟩⟩ := st
    have e' : c = z ∨ c = TI ∨ c = TO ∨ c = i1 ∨ c = i2 := by simpa using hc
    rcases e' with q | q | q | q | q
    · rw [q]; exact ⟨_, hz, fun v q => nomatch q⟩
    · rw [q]; exact ⟨_, hTI, fun v q => nomatch q⟩
    · rw [q]; exact ⟨_, hTO, fun v q => nomatch q⟩
    · rw [q]; exact ⟨o1, e1, fun v q => by rw [d1] at q; cases q⟩
    · rw [q]; exact ⟨o2, e2, fun v q => by rw [d2] at q; cases q⟩
  keep := fun i h h' st k => by
    obtain ⟨hz, hTI, ⟨x, y, hTO⟩, h1, h2⟩ := st
    exact ⟨k z (by simp) _ hz, k TI (by simp) _ hTI, ⟨x, y, k TO (by simp) _ hTO⟩, h1.at fun o q => k i1 (by simp) o q, h2.at fun o q => k i2 (by simp) o q⟩
  item := by
    intro X hP hw hK hc i pins s σ H E I hf st hg
    subst hP hw hK
    obtain ⟨hz, hTI, ⟨x0, y0, hTO⟩, h1, h2⟩ := st
    obtain ⟨xs, ys, x, y, hqx, hqy, hx, hy⟩ := hg
    obtain ⟨its, rv, p, _⟩ := I.list hqx
    obtain ⟨its2, rv2, p2, _⟩ := I.list hqy
    obtain ⟨u, hu, ru⟩ := rv.get hx
    obtain ⟨u2, hu2, ru2⟩ := rv2.get hy
    have hzl : z < s.heap.objs.size := Heap.lt_size hz
    refine wpAny_pyNext_zip_item D hz hTI hTO h1 h2 p.isList p2.isList (x := u) (y := u2) (by simpa using hu) (by simpa using hu2) fun h' z' TO' h1' h2' hT hsz hk => ?_
    refine ⟨_, rfl, wpAny_letOwnedTupleGo_zip (s := { s with heap := h' }) z' fun h'' z'' sb => ?_⟩
    have hT2 : h''.get? s.heap.objs.size = some { cls := .type "tuple", data := .seq #[u, u2] } := (sb.2 _ (Nat.ne_of_gt hzl)).trans hT
    have new : ObjOk X.prog X.w (upd H s.heap.objs.size (.tup [x, y])) h'' s.heap.objs.size (.tup [x, y]) :=
      ⟨by show 2 ≤ sizeLine; decide, [u, u2], .cons ru (.cons ru2 .nil), ⟨_, hT2, rfl, _, rfl⟩⟩
    have I1 : Inv X pins σ (upd H s.heap.objs.size (.tup [x, y])) { s with heap := h'' } :=
      I.turnedNew (t' := s.toks) (ch := [z, TI, TO, i1, i2]) (fun c o hb q => (sb.2 c (fun q' => hb (by simp [q']))).trans (hk c o (fun q' => hb (by simp [q'])) (fun q' => hb (by simp [q'])) (fun q' => hb (by simp [q'])) (fun q' => hb (by simp [q'])) q)) hf (Nat.le_refl _) new
    refine ⟨.ref s.heap.objs.size, _, I1, rfl, ⟨_, x, y, rfl, I.hok.fresh (Nat.le_refl _), rfl, fun l hl => by rw [I.list_inj hl hqx]; exact hx, fun l hl => by rw [I.list_inj hl hqy]; exact hy⟩, ⟨z'', ?_, ⟨u, u2, ?_⟩, ?_, ?_⟩, fun c hcm => ?_⟩
    · exact (sb.2 _ D.TIz).trans (hk _ _ D.TIz D.TITO D.TIi1 D.TIi2 hTI)
    · exact (sb.2 _ D.TOz).trans TO'
    · exact h1'.at fun o q => (sb.2 _ D.i1z).trans q
    · exact h2'.at fun o q => (sb.2 _ D.i2z).trans q
    · have hlt : c < s.heap.objs.size := by
        have e' : c = z ∨ c = TI ∨ c = TO ∨ c = i1 ∨ c = i2 := by simpa using hcm
        rcases e' with q | q | q | q | q
        · rw [q]; exact hzl
        · rw [q]; exact Heap.lt_size hTI
        · rw [q]; exact Heap.lt_size hTO
        · rw [q]; obtain ⟨_, e1, _⟩ := h1; exact Heap.lt_size e1
        · rw [q]; obtain ⟨_, e2, _⟩ := h2; exact Heap.lt_size e2
      rw [upd_ne (Nat.ne_of_lt hlt)]
      exact (hf c hcm).1
  done := by
    intro X hP hw hK hc i pins s σ H E I hf st hg
    subst hP hw hK
    obtain ⟨hz, hTI, ⟨x0, y0, hTO⟩, h1, h2⟩ := st
    obtain ⟨xs, ys, hqx, hqy, hend⟩ := hg
    obtain ⟨its, rv, p, _⟩ := I.list hqx
    obtain ⟨its2, rv2, p2, _⟩ := I.list hqy
    have l1 := rv.length
    have l2 := rv2.length
    have he : its.toArray[i]? = none ∨ its2.toArray[i]? = none := by
      rcases hend with q | q
      · exact .inl (by simp; omega)
      · exact .inr (by simp; omega)
    exact wpAny_pyNext_zip_end (I.ok.hd hc) D hz hTI hTO h1 h2 p.isList p2.isList he fun h' hk => ⟨rfl, I.turnedL (t' := s.toks) (ch := [z, TI, TO, i1, i2]) (fun c o hb q =>
      hk c o (fun q' => hb (by simp [q'])) (fun q' => hb (by simp [q'])) (fun q' => hb (by simp [q'])) (fun q' => hb (by simp [q'])) q) hf⟩
  self := fun A i s Q E st h => wpAny_pyIter_zip st.1 h
def iZip (K : PySem.W.Frag) (ta : TA) : TI := fun σ H R => ta σ H fun vs H1 => ∃ a b xs ys, vs = [.ref a, .ref b] ∧ SqL K H1 a xs ∧ SqL K H1 b ys ∧ R (Itz K a b) H1
theorem pi_zip {X : Cx} {e e2 : Expr} {ta : TA} {p pos tpos : Pos} {elts : List Expr} {kk : Nat} (hg : Gl X "zip") (hm : X.mg "zip" = none) (ha : PA X [e, e2] ta)
    (hs : starEach [e, e2] X.env = (false, eval e X.env) :: starEach [e2] X.env := by rfl) (hpl : (backTo pos (starEach [e2] X.env)).any (·.1) = false := by rfl) :
    PI X (.Tuple elts kk tpos) (.Call (.Name "zip" p) [e, e2] [] pos) (iZip X.K ta) := by
  intro pins s σ H R I h
  refine Call_ (ld_blt I hg hm boot_zip5 (PyProof.Rows.callWith_type1 (thn (ha pos pins s σ H _ I h) fun us s1 ⟨vs, H1, I1, r1, q1⟩ => ?_) hs hpl))
  obtain ⟨a, b, xs, ys, ex, hqx, hqy, q⟩ := q1
  subst ex
  cases r1 with
  | cons r rr =>
    cases rr with
    | cons r' rr =>
      cases rr
      cases r
      cases r'
      obtain ⟨its, rv, p1, _⟩ := I1.list hqx
      obtain ⟨its2, rv2, p2, _⟩ := I1.list hqy
      have la : a < s1.heap.objs.size := p1.lt
      have lb : b < s1.heap.objs.size := p2.lt
      refine call_zip_2 p1.isList p2.isList fun h' hz hTI hTO h1 h2 hsz hk => wpAny_pyIter_zip hz ?_
      have I2 : Inv X pins σ H1 { s1 with heap := h' } := I1.kept (t' := s1.toks) hk
      refine ⟨s1.heap.objs.size + 4, [s1.heap.objs.size + 4, s1.heap.objs.size + 2, s1.heap.objs.size + 3, s1.heap.objs.size, s1.heap.objs.size + 1], _, _, H1, rfl, I2, turn_zip (PySem.W.ktu_apart s1.heap.objs.size a b la lb), ⟨hz, hTI, ⟨_, _, hTO⟩, h1, h2⟩, fun c hcm => ?_, q⟩
      have e' : c = s1.heap.objs.size + 4 ∨ c = s1.heap.objs.size + 2 ∨ c = s1.heap.objs.size + 3 ∨ c = s1.heap.objs.size ∨ c = s1.heap.objs.size + 1 := by simpa using hcm
      have hle : s1.heap.objs.size ≤ c := by
        rcases e' with z | z | z | z | z
        · rw [z]; exact Nat.le_add_right _ _
        · rw [z]; exact Nat.le_add_right _ _
        · rw [z]; exact Nat.le_add_right _ _
        · rw [z]; exact Nat.le_refl _
        · rw [z]; exact Nat.le_add_right _ _
      exact I1.fpOk hle (I1.hok.fresh hle)
end L2









/-! SHORT WORDS over the layer: a def of the text, its body, what a loop and a test want. -/
namespace L2
open PySem PySem.Spec PyProof.Rows

/-! ### the text by places -/
/-- the j-th statement of a class's body -/
def inClass (s : Stmt) (j : Nat) : Stmt := match s with
  | .ClassDef _ _ _ body _ _ _ _ _ _ _ => body.getD j (.Pass ⟨0, 0, 0, 0⟩)
  | _ => .Pass ⟨0, 0, 0, 0⟩
def defArgs (s : Stmt) : Arguments := match s with
  | .FunctionDef _ a _ _ _ _ _ _ _ _ => a
  | _ => { posonlyargs := [], args := [], vararg := none, kwonlyargs := [], kw_defaults := [], kwarg := none, defaults := [] }
def defBody (s : Stmt) : List Stmt := match s with
  | .FunctionDef _ _ b _ _ _ _ _ _ _ => b
  | _ => []
def defScope (s : Stmt) : Scope := match s with
  | .FunctionDef _ _ _ _ _ _ sc _ _ _ => sc
  | _ => { kind := .function, names := [], isGenerator := false, isCoroutine := false }

/-! ### no exception leaves a def -/
abbrev CX0 : CXT := fun _ _ _ _ _ _ => False
abbrev E0 : XK := fun _ _ _ => False
theorem pass0 {X : Cx} : Passes CX0 X E0 := fun _ _ _ _ _ _ _ h => h.elim

/-! ### a def (or method) of the text as it stands behind the top -/
structure Fun (K : PySem.W.Frag) (x qual : Str) (st : Stmt) (f : Addr) (fd : FuncData) : Prop where
  ex : ∃ (oc : Value) (od : Option Addr) (kV doc pm : Value) (an : Option Addr) (cdv ct : Value) (osl : Array (Option Value)),
    fd = PySem.W.fnOf x qual (defArgs st) (defBody st) (defScope st) .none kV doc pm an cdv ct ∧ K.lookup f = some ⟨oc, od, .func fd, osl⟩ ∧ PySem.W.codeIn K cdv qual = true
  kp : PySem.W.keepIn K (.ref f) = true
section
variable {P : Program} {w : World} {K : PySem.W.Frag} {mg : Str → Option Value} {base : Heap}
/-- THE RULE for a def: its body as a term of rules, and the reading of that term -/
theorem Fun.ok {x qual : Str} {st : Stmt} {f : Addr} {fd : FuncData} {N ps : List Str} {k : Nat} {sp : Sp} (F : Fun K x qual st f fd) (S : FnScope N ps (defScope st)) (len : ∀ vs H Q E, sp vs H Q E → vs.length = ps.length)
    (hbody : ∀ (cdv : Value) (A : Around) (outer : List Env) (s : Shared) (H : Hp) (vs : List V) (Q : VK) (E : XK), Room k (A.deeper (envOfC qual (defScope st) s.heap.objs.size f cdv)) → sp vs H Q E →
      ∃ t, PSs (cxOf CX0 P w K mg base N qual (defScope st) f cdv A outer s H E).nox (defBody st) t ∧ t { nx := fun _ H' => Q .non H', rt := Q } (start N vs) H) : FnOk P w K mg base CX0 (k + 1) f fd ps sp := by
  obtain ⟨oc, od, kV, doc, pm, an, cdv, ct, osl, rfl, lk, hcd⟩ := F.ex
  refine fn_of lk hcd S len fun A outer s H vs Q E hr hsp => ?_
  obtain ⟨t, h, q⟩ := hbody cdv A outer s H vs Q E hr hsp
  exact ⟨t, h.nox, q⟩
/-- how its arguments bind (no defaults): h is «fun _ _ _ _ _ _ us hl => match us, hl with | [_, _], _ => rfl», one _ a parameter -/
theorem Fun.binds {x qual : Str} {st : Stmt} {f : Addr} {fd : FuncData} {ps : List Str} (F : Fun K x qual st f fd)
    (h : ∀ (kV doc pm : Value) (an : Option Addr) (cdv ct : Value) (us : List Value), us.length = ps.length → bindArgs (PySem.W.fnOf x qual (defArgs st) (defBody st) (defScope st) .none kV doc pm an cdv ct) ⟨us, []⟩ = pure (ps.zip us)) : Binds K fd ps [] := by
  obtain ⟨oc, od, kV, doc, pm, an, cdv, ct, osl, rfl, lk, hcd⟩ := F.ex
  exact .all (h kV doc pm an cdv ct)
theorem fun_mk {x qual : Str} {st : Stmt} {f : Addr} {oc : Value} {od an : Option Addr} {osl : Array (Option Value)} {kV doc pm cdv ct : Value} (l : K.lookup f = some ⟨oc, od, .func (PySem.W.fnOf x qual (defArgs st) (defBody st) (defScope st) .none kV doc pm an cdv ct), osl⟩)
    (c : PySem.W.codeIn K cdv qual = true) (k : PySem.W.keepIn K (.ref f) = true) : Fun K x qual st f (PySem.W.fnOf x qual (defArgs st) (defBody st) (defScope st) .none kV doc pm an cdv ct) := ⟨⟨oc, od, kV, doc, pm, an, cdv, ct, osl, rfl, l, c⟩, k⟩
end
theorem hu_of {A : Around} {k : Nat} (hr : Room k A) : A.units + 1 < cLine := Nat.lt_of_le_of_lt (Nat.add_le_add_left (by decide : 1 ≤ 64) _) hr.units
theorem small1000 {n : Nat} (h : n ≤ 1000) : n < sizeLine := Nat.lt_of_le_of_lt h (by decide)

/-! ### expressions in short: the name that stands in the i-th slot -/
section
variable {X : Cx}
theorem pv (i : Nat) {x : Str} {pos : Pos} (hN : X.N[i]? = some x := by rfl) (hv : Vis X.env.scope x := by first | exact Or.inl rfl | exact Or.inr (Or.inl rfl) | exact Or.inr (Or.inr rfl)) (hd : (x == ("__debug__" : Str)) = false := by decide)
    (hcd : (x == ("__classdict__" : Str)) = false := by decide) : PE X (.Name x pos) (tVar i) := pe_var hN hv hd hcd
/-- len of a dict -/
theorem call_lenD : CallR X (.builtin "len") (fun xs H Q => ∃ a kvs, xs = [V.ref a] ∧ H a = some (.dK kvs) ∧ Q (.int kvs.length) H) := by
  intro pins s σ H xs us Q I r h
  obtain ⟨a, kvs, rfl, ha, q⟩ := h
  obtain ⟨u, rfl, ru⟩ := vals1 r
  cases ru
  exact d_len I (.inl ha) fun t s' I' => ⟨.int kvs.length, H, I', ⟨t, rfl⟩, q⟩
end

/-! ### tests -/
theorem iteF {A B : Prop} (h : B) : if false = true then A else B := by
  rw [if_neg Bool.false_ne_true]
  exact h
theorem iteT {A B : Prop} (h : A) : if true = true then A else B := by
  rw [if_pos rfl]
  exact h
theorem ite2 {c A B : Prop} [Decidable c] (h1 : c → A) (h2 : ¬ c → B) : if c then A else B := by
  by_cases h : c
  · rw [if_pos h]
    exact h1 h
  · rw [if_neg h]
    exact h2 h
theorem iteNS {c A B : Prop} [Decidable c] (hc : c) (h : B) : if (!decide c) = true then A else B := by
  rw [decide_eq_true hc]
  exact iteF h

/-! ### heaps -/
/-- all that was tracked is as it was -/
def Same (H H' : Hp) : Prop := ∀ b o, H b = some o → H' b = some o
theorem Same.refl (H : Hp) : Same H H := fun _ _ h => h
theorem Same.trans {H H1 H2 : Hp} (a : Same H H1) (b : Same H1 H2) : Same H H2 := fun c o h => b c o (a c o h)
theorem Same.free {H H' : Hp} (e : Same H H') {l : Addr} (h : H' l = Option.none) : H l = Option.none := by
  cases q : H l with
  | none => rfl
  | some o =>
    rw [e l o q] at h
    cases h
theorem Same.seq {K : PySem.W.Frag} {H H' : Hp} {a : Addr} {xs : List V} (e : Same H H') (h : SqL K H a xs) : SqL K H' a xs := by
  rcases h with (h | ⟨o, h⟩) | h
  · exact .inl (.inl (e _ _ h))
  · exact .inl (.inr ⟨o, e _ _ h⟩)
  · exact .inr h

/-! ### a dict's pairs: keys that differ -/
section
variable {κ : Type} [DecidableEq κ]
theorem valV_not {kvs : List (κ × V)} {k : κ} (h : valV kvs k = none) : ¬ k ∈ kvs.map (·.1) := by
  intro m
  obtain ⟨p, hp, e⟩ := List.mem_map.mp m
  have q : (kvs.any fun kv => decide (kv.1 = k)) = true := List.any_eq_true.mpr ⟨p, hp, decide_eq_true e⟩
  rw [valV_any, h] at q
  exact absurd q (by simp)
theorem valV_in {kvs : List (κ × V)} {k : κ} {v : V} (h : valV kvs k = some v) : k ∈ kvs.map (·.1) := by
  have q : (kvs.any fun kv => decide (kv.1 = k)) = true := by
    rw [valV_any, h]
    all_goals rfl
  obtain ⟨p, hp, e⟩ := List.any_eq_true.mp q
  exact List.mem_map.mpr ⟨p, hp, of_decide_eq_true e⟩
theorem nd_snoc : ∀ {l : List κ} {k : κ}, l.Nodup → ¬ k ∈ l → (l ++ [k]).Nodup
  | [], k, _, _ => by simp
  | a :: r, k, h, hk => by
    obtain ⟨h1, h2⟩ := List.nodup_cons.mp h
    show (a :: (r ++ [k])).Nodup
    refine List.nodup_cons.mpr ⟨fun m => ?_, nd_snoc h2 fun m => hk (List.mem_cons.mpr (Or.inr m))⟩
    rcases List.mem_append.mp m with q | q
    · exact h1 q
    · exact hk (List.mem_cons.mpr (Or.inl (List.mem_singleton.mp q).symm))
theorem nd_putK {kvs : List (κ × V)} {k : κ} (v : V) (hn : (kvs.map (·.1)).Nodup) (h : valV kvs k = none) : ((putK kvs k v).map (·.1)).Nodup := by
  rw [putK_new v h, List.map_append]
  exact nd_snoc hn (valV_not h)
theorem dropK_pos {p : κ × V} {r : List (κ × V)} {k : κ} (e : p.1 = k) : dropK (p :: r) k = dropK r k := by
  unfold dropK
  rw [List.filter_cons, if_neg (by simp [e])]
theorem dropK_neg {p : κ × V} {r : List (κ × V)} {k : κ} (e : ¬ p.1 = k) : dropK (p :: r) k = p :: dropK r k := by
  unfold dropK
  rw [List.filter_cons, if_pos (by simp [e])]
theorem dropK_no : ∀ {kvs : List (κ × V)} {k : κ}, ¬ k ∈ kvs.map (·.1) → dropK kvs k = kvs
  | [], _, _ => rfl
  | p :: r, k, h => by
    have h' : ¬ k ∈ r.map (·.1) := fun m => by
      obtain ⟨q, hq, e⟩ := List.mem_map.mp m
      exact h (List.mem_map.mpr ⟨q, List.mem_cons.mpr (Or.inr hq), e⟩)
    rw [dropK_neg fun e => h (List.mem_map.mpr ⟨p, List.mem_cons.mpr (Or.inl rfl), e⟩), dropK_no h']
theorem dropK_mem {kvs : List (κ × V)} {k : κ} {p : κ × V} (h : p ∈ dropK kvs k) : p ∈ kvs := (List.mem_filter.mp h).1
theorem nd_dropK : ∀ {kvs : List (κ × V)} {k : κ}, (kvs.map (·.1)).Nodup → ((dropK kvs k).map (·.1)).Nodup
  | [], _, _ => List.nodup_nil
  | p :: r, k, h => by
    have h : (p.1 :: r.map (·.1)).Nodup := h
    obtain ⟨h1, h2⟩ := List.nodup_cons.mp h
    by_cases e : p.1 = k
    · rw [dropK_pos e]
      exact nd_dropK h2
    · rw [dropK_neg e]
      show (p.1 :: (dropK r k).map (·.1)).Nodup
      refine List.nodup_cons.mpr ⟨fun m => h1 ?_, nd_dropK h2⟩
      obtain ⟨q, hq, eq⟩ := List.mem_map.mp m
      exact List.mem_map.mpr ⟨q, dropK_mem hq, eq⟩
theorem dropK_len : ∀ {kvs : List (κ × V)} {k : κ}, (kvs.map (·.1)).Nodup → k ∈ kvs.map (·.1) → (dropK kvs k).length + 1 = kvs.length
  | [], _, _, m => by simp at m
  | p :: r, k, h, m => by
    have h : (p.1 :: r.map (·.1)).Nodup := h
    have m : k = p.1 ∨ k ∈ r.map (·.1) := List.mem_cons.mp m
    obtain ⟨h1, h2⟩ := List.nodup_cons.mp h
    by_cases e : p.1 = k
    · subst e
      rw [dropK_pos rfl, dropK_no h1]
      all_goals rfl
    · have m' : k ∈ r.map (·.1) := m.resolve_left fun z => e z.symm
      have q := dropK_len h2 m'
      rw [dropK_neg e, List.length_cons, List.length_cons]
      omega
end
/-! ### lists -/
theorem at_of {xs : List V} {z : Int} {j : Nat} {v : V} (e : z = (j : Int)) (h : xs[j]? = some v) : atI xs z = some v := by
  rw [e]
  exact atI_nat h
theorem nd_ix {α : Type} {l : List α} (hN : l.Nodup) {i j : Nat} {x : α} (a : l[i]? = some x) (b : l[j]? = some x) : i = j := by
  obtain ⟨h1, e1⟩ := List.getElem?_eq_some_iff.mp a
  obtain ⟨h2, e2⟩ := List.getElem?_eq_some_iff.mp b
  exact (List.getElem_inj hN).mp (e1.trans e2.symm)
theorem sum_set : ∀ {l : List Int} {j : Nat} {z y : Int}, l[j]? = some z → (l.set j y).sum = l.sum - z + y
  | [], j, z, y, h => by simp at h
  | a :: r, 0, z, y, h => by
    have e : a = z := Option.some.inj h
    subst e
    show (y :: r).sum = (a :: r).sum - a + y
    rw [List.sum_cons, List.sum_cons]
    omega
  | a :: r, j + 1, z, y, h => by
    have ih := sum_set (l := r) (j := j) (z := z) (y := y) h
    show (a :: r.set j y).sum = (a :: r).sum - z + y
    rw [List.sum_cons, List.sum_cons, ih]
    omega
theorem sum_take : ∀ {l : List Int} {i : Nat} {z : Int}, l[i]? = some z → (l.take (i + 1)).sum = (l.take i).sum + z
  | [], i, z, h => by simp at h
  | a :: r, 0, z, h => by
    have e : a = z := Option.some.inj h
    subst e
    show ([a] : List Int).sum = ([] : List Int).sum + a
    rw [List.sum_cons]
    exact Int.add_comm _ _
  | a :: r, i + 1, z, h => by
    have ih := sum_take (l := r) (i := i) (z := z) h
    show (a :: r.take (i + 1)).sum = (a :: r.take i).sum + z
    rw [List.sum_cons, List.sum_cons, ih]
    omega
/-- a new instance and its __init__ leave all that was tracked as it was -/
theorem Same.made {H H1 : Hp} {x dx C : Addr} (nx : H x = Option.none) (nd : H dx = Option.none) (k : ∀ b o, (upd (upd H dx (.own x)) x (.ins C dx [])) b = some o → b ≠ x → H1 b = some o) : Same H H1 := fun b o e =>
  k b o (by rw [upd_ne (ne_of_none e nx), upd_ne (ne_of_none e nd)]; exact e) (ne_of_none e nx)
end L2

section
set_option Elab.async false
set_option linter.all false
set_option maxRecDepth 100000
set_option maxHeartbeats 2000000
namespace L2
open PySem PySem.Spec PyProof.Rows
open PySem.W (WData Codec OpenSpec Well WellAll ReadsW ReadsAllW)
/-! ### an answer as data -/
mutual
/-- x stands for the datum d, lists and tuples all the way -/
inductive Dw (K : PySem.W.Frag) (H : Hp) : V → WData → Prop
  | non : Dw K H .non .none
  | bl (b : Bool) : Dw K H (.bl b) (.bool b)
  | int (i : Int) : Dw K H (.int i) (.int i)
  | str (x : Str) : Dw K H (.str x) (.str x)
  | byt (b : Array UInt8) : Dw K H (.byt b) (.bytes b.toList)
  | lst {a : Addr} {xs : List V} {ds : List WData} : SqL K H a xs → DwAll K H xs ds → Dw K H (.ref a) (.list ds)
  | tup {a : Addr} {xs : List V} {ds : List WData} : SqT K H a xs → DwAll K H xs ds → Dw K H (.ref a) (.tuple ds)
inductive DwAll (K : PySem.W.Frag) (H : Hp) : List V → List WData → Prop
  | nil : DwAll K H [] []
  | cons {v : V} {vs : List V} {d : WData} {ds : List WData} : Dw K H v d → DwAll K H vs ds → DwAll K H (v :: vs) (d :: ds)
end
theorem dw_ints {K : PySem.W.Frag} {H : Hp} : ∀ ns : List Int, DwAll K H (ns.map V.int) (ns.map WData.int)
  | [] => .nil
  | n :: r => .cons (.int n) (dw_ints r)
theorem ints_dw {K : PySem.W.Frag} {H : Hp} : ∀ (ns : List Int) (xs : List V), DwAll K H xs (ns.map WData.int) → xs = ns.map V.int
  | [], xs, h => by
    cases h
    rfl
  | n :: r, xs, h => by
    cases h with
    | cons h1 h2 =>
      cases h1
      rw [ints_dw r _ h2] <;> rfl
section
variable {P : Program} {w : World} {K : PySem.W.Frag} {H : Hp} {h : Heap} {R : PySem.W.WRecords} {cl : Str → Option Addr}
theorem sqL_at {a : Addr} {xs : List V} (hok : HOk P w H h) (KX : K.In h) (q : SqL K H a xs) : ∃ (its : List Value) (o : Obj) (n : Nat), Vals xs its ∧ h.get? a = some o ∧ o.cls = .type "list" ∧ o.data = .seq its.toArray n := by
  rcases q with q | ⟨o, its, n, e, hc, _, hd, _, hv⟩
  · obtain ⟨_, its, n, hv, e⟩ := (show ObjOk P w H h a (.lst xs) from q.ok hok)
    exact ⟨its, _, n, hv, e, rfl, rfl⟩
  · exact ⟨its.toList, o, n, hv, KX _ _ e, hc, by simp [hd]⟩
theorem sqT_at {a : Addr} {xs : List V} (hok : HOk P w H h) (KX : K.In h) (q : SqT K H a xs) : ∃ (its : List Value) (o : Obj) (n : Nat), Vals xs its ∧ h.get? a = some o ∧ o.cls = .type "tuple" ∧ o.data = .seq its.toArray n := by
  rcases q with q | ⟨o, its, n, e, hc, hd, _, hv⟩
  · obtain ⟨_, its, hv, o, e, hc, n, hd⟩ := (show ObjOk P w H h a (.tup xs) from q.ok hok)
    exact ⟨its, o, n, hv, e, hc, hd⟩
  · exact ⟨its.toList, o, n, hv, KX _ _ e, hc, by simp [hd]⟩
mutual
theorem Dw.reads (hok : HOk P w H h) (KX : K.In h) : ∀ (d : WData) (v : V) (u : Value), Dw K H v d → RelV v u → ∃ as, ReadsW R cl h u d as
  | .none, _, _, x, r => by
    cases x
    cases r
    exact ⟨_, ReadsW.none⟩
  | .bool b, _, _, x, r => by
    cases x
    cases r
    exact ⟨_, ReadsW.bool b⟩
  | .int i, _, _, x, r => by
    cases x
    obtain ⟨t, rfl⟩ := r
    exact ⟨_, ReadsW.int i t⟩
  | .str s, _, _, x, r => by
    cases x
    obtain ⟨t, rfl⟩ := r
    exact ⟨_, ReadsW.str s t⟩
  | .bytes b, _, _, x, r => by
    cases x
    obtain ⟨t, rfl⟩ := r
    exact ⟨_, ReadsW.bytes _ t⟩
  | .list ds, _, _, x, r => by
    cases x with
    | lst hs ha =>
      cases r
      obtain ⟨its, o, n, rv, ho, hc, hd⟩ := sqL_at hok KX hs
      obtain ⟨as, hr⟩ := Dw.readsAll hok KX ds _ its ha rv
      exact ⟨_, ReadsW.list ho hc hd hr⟩
  | .tuple ds, _, _, x, r => by
    cases x with
    | tup hs ha =>
      cases r
      obtain ⟨its, o, n, rv, ho, hc, hd⟩ := sqT_at hok KX hs
      obtain ⟨as, hr⟩ := Dw.readsAll hok KX ds _ its ha rv
      exact ⟨_, ReadsW.tuple ho hc hd hr⟩
  | .float _, _, _, x, _ => by cases x
  | .dict _, _, _, x, _ => by cases x
  | .bytearray _, _, _, x, _ => by cases x
  | .set _, _, _, x, _ => by cases x
  | .frozenset _, _, _, x, _ => by cases x
  | .obj _ _, _, _, x, _ => by cases x
theorem Dw.readsAll (hok : HOk P w H h) (KX : K.In h) : ∀ (ds : List WData) (vs : List V) (us : List Value), DwAll K H vs ds → Vals vs us → ∃ as, ReadsAllW R cl h us ds as
  | [], _, _, x, r => by
    cases x
    cases r
    exact ⟨_, ReadsAllW.nil⟩
  | d :: ds, _, _, x, r => by
    cases x with
    | cons h1 h2 =>
      cases r with
      | cons r1 r2 =>
        obtain ⟨as, q1⟩ := Dw.reads hok KX d _ _ h1 r1
        obtain ⟨bs, q2⟩ := Dw.readsAll hok KX ds _ _ h2 r2
        exact ⟨_, ReadsAllW.cons q1 q2⟩
end
end
/-! ### the arguments -/
mutual
/-- data that a codec tells -/
def plW : WData → Bool
  | .none => true
  | .bool _ => true
  | .int _ => true
  | .str _ => true
  | .bytes _ => true
  | .list xs => plWs xs
  | .tuple xs => plWs xs
  | _ => false
def plWs : List WData → Bool
  | [] => true
  | x :: r => plW x && plWs r
end
theorem plWs_map {α : Type} {f : α → WData} (h : ∀ a, plW (f a) = true) : ∀ l : List α, plWs (l.map f) = true
  | [] => rfl
  | x :: r => by
    show (plW (f x) && plWs (r.map f)) = true
    rw [h x, plWs_map h r] <;> rfl
theorem pl_enc : ∀ (c : Codec) (a : c.denote), plW (c.enc a) = true
  | .unit, _ => rfl
  | .bool, _ => rfl
  | .int _ _, _ => rfl
  | .nat _ _, _ => rfl
  | .u8, _ => rfl
  | .bytes _ _, _ => rfl
  | .text _ _ _ _, _ => rfl
  | .list _ _ c, a => plWs_map (fun x => pl_enc c x) a
  | .pair c d, a => by
    show (plW (c.enc a.1) && (plW (d.enc a.2) && true)) = true
    rw [pl_enc c a.1, pl_enc d a.2] <;> rfl
  | .triple c d e, a => by
    show (plW (c.enc a.1) && (plW (d.enc a.2.1) && (plW (e.enc a.2.2) && true))) = true
    rw [pl_enc c a.1, pl_enc d a.2.1, pl_enc e a.2.2] <;> rfl
  | .option c, none => rfl
  | .option c, some x => pl_enc c x
theorem pl_encAll : ∀ (cs : List Codec) (a : Codec.denoteAll cs), plWs (Codec.encAll cs a) = true
  | [], _ => rfl
  | c :: cs, a => by
    show (plW (c.enc a.1) && plWs (Codec.encAll cs a.2)) = true
    rw [pl_enc c a.1, pl_encAll cs a.2] <;> rfl
theorem weight_mem : ∀ {xs : List WData} {d : WData}, d ∈ xs → d.weight ≤ WData.weightAll xs
  | [], d, h => absurd h (by simp)
  | x :: r, d, h => by
    show d.weight ≤ x.weight + 1 + WData.weightAll r
    rcases List.mem_cons.mp h with e | m
    · rw [e]
      omega
    · have z := weight_mem m
      omega
def toV : Value → V
  | .none => .non
  | .bool b => .bl b
  | .int i _ => .int i
  | .str x _ => .str x
  | .bytes b _ => .byt b
  | .ref a => .ref a
  | _ => .non
/-- a value of the arguments, its objects among A -/
def OkU (A : List Addr) : Value → Prop
  | .none => True
  | .bool _ => True
  | .int _ _ => True
  | .str _ _ => True
  | .bytes _ _ => True
  | .ref a => a ∈ A
  | _ => False
theorem OkU.mono {A B : List Addr} (h : ∀ a ∈ A, a ∈ B) : ∀ {u : Value}, OkU A u → OkU B u := fun {u} x => by
  cases u with
  | ref a => exact h a x
  | none => trivial
  | bool b => trivial
  | int i t => trivial
  | str s t => trivial
  | bytes b t => trivial
  | _ => exact False.elim x
theorem relV_toV {A : List Addr} {u : Value} (x : OkU A u) : RelV (toV u) u := by
  cases u with
  | ref a => rfl
  | none => rfl
  | bool b => rfl
  | int i t => exact ⟨t, rfl⟩
  | str s t => exact ⟨t, rfl⟩
  | bytes b t => exact ⟨t, rfl⟩
  | _ => exact False.elim x
theorem vals_toV {A : List Addr} : ∀ {vs : List Value}, (∀ u ∈ vs, OkU A u) → Vals (vs.map toV) vs
  | [], _ => .nil
  | u :: r, h => .cons (relV_toV (h u (List.mem_cons_self ..))) (vals_toV fun x hx => h x (List.mem_cons_of_mem _ hx))
/-- an object of the arguments -/
def ArgOb (h : Heap) (A : List Addr) (a : Addr) : Prop := ∃ vs : List Value, vs.length ≤ sizeLine ∧ (∀ u ∈ vs, OkU A u) ∧
  (h.get? a = some { cls := .type "list", data := .seq vs.toArray } ∨ h.get? a = some { cls := .type "tuple", data := .seq vs.toArray })
theorem ArgOb.mono {h : Heap} {A B : List Addr} {a : Addr} (k : ∀ a ∈ A, a ∈ B) (x : ArgOb h A a) : ArgOb h B a := by
  obtain ⟨vs, h1, h2, h3⟩ := x
  exact ⟨vs, h1, fun u hu => (h2 u hu).mono k, h3⟩
theorem wellAll_len {P : Params} {h : Heap} : ∀ {vs : List Value} {ds : List WData}, WellAll P h vs ds → vs.length = ds.length
  | _, _, .nil => rfl
  | _, _, .cons _ b => by
    show _ + 1 = _ + 1
    rw [wellAll_len b]
theorem well_list {P : Params} {h : Heap} {v : Value} {ds : List WData} (x : Well P h v (.list ds)) : ∃ (a : Addr) (vs : List Value), v = .ref a ∧ h.get? a = some { cls := .type "list", data := .seq vs.toArray } ∧ WellAll P h vs ds := by
  cases x with
  | list ho hall => exact ⟨_, _, rfl, ho, hall⟩
theorem well_tuple {P : Params} {h : Heap} {v : Value} {ds : List WData} (x : Well P h v (.tuple ds)) : ∃ (a : Addr) (vs : List Value), v = .ref a ∧ h.get? a = some { cls := .type "tuple", data := .seq vs.toArray } ∧ WellAll P h vs ds := by
  cases x with
  | tuple ho hall => exact ⟨_, _, rfl, ho, hall⟩
theorem well_cons {P : Params} {h : Heap} {us : List Value} {d : WData} {ds : List WData} (x : WellAll P h us (d :: ds)) : ∃ (v : Value) (vs : List Value), us = v :: vs ∧ Well P h v d ∧ WellAll P h vs ds := by
  cases x with
  | cons a b => exact ⟨_, _, rfl, a, b⟩
theorem line_of {n : Nat} (h : n ≤ 1048576) : n ≤ sizeLine := Nat.le_trans h (by decide)
section
variable {P : Params} {h : Heap}
mutual
theorem area_one : ∀ (d : WData) (v : Value), Well P h v d → plW d = true → d.weight ≤ 1048576 → ∃ A : List Addr, OkU A v ∧ ∀ a ∈ A, ArgOb h A a
  | .none, _, x, _, _ => by
    cases x
    exact ⟨[], trivial, fun a m => absurd m (by simp)⟩
  | .bool b, _, x, _, _ => by
    cases x
    exact ⟨[], trivial, fun a m => absurd m (by simp)⟩
  | .int i, _, x, _, _ => by
    cases x
    exact ⟨[], trivial, fun a m => absurd m (by simp)⟩
  | .str s, _, x, _, _ => by
    cases x
    exact ⟨[], trivial, fun a m => absurd m (by simp)⟩
  | .bytes b, _, x, _, _ => by
    cases x
    exact ⟨[], trivial, fun a m => absurd m (by simp)⟩
  | .list ds, _, x, p, z => by
    obtain ⟨a, vs, rfl, ho, hall⟩ := well_list x
    have z2 : WData.weightAll ds ≤ 1048576 := z
    obtain ⟨A, h1, h2⟩ := area_all ds _ hall p fun d hd => Nat.le_trans (weight_mem hd) z2
    have k : ∀ b ∈ A, b ∈ a :: A := fun b hb => List.mem_cons_of_mem _ hb
    refine ⟨a :: A, List.mem_cons_self .., fun b hb => ?_⟩
    rcases List.mem_cons.mp hb with e | m
    · rw [e]
      exact ⟨vs, line_of (by rw [wellAll_len hall]; exact Nat.le_trans (PySem.W.length_le_weightAllW ds) z2), fun u hu => (h1 u hu).mono k, .inl ho⟩
    · exact (h2 b m).mono k
  | .tuple ds, _, x, p, z => by
    obtain ⟨a, vs, rfl, ho, hall⟩ := well_tuple x
    have z2 : WData.weightAll ds ≤ 1048576 := z
    obtain ⟨A, h1, h2⟩ := area_all ds _ hall p fun d hd => Nat.le_trans (weight_mem hd) z2
    have k : ∀ b ∈ A, b ∈ a :: A := fun b hb => List.mem_cons_of_mem _ hb
    refine ⟨a :: A, List.mem_cons_self .., fun b hb => ?_⟩
    rcases List.mem_cons.mp hb with e | m
    · rw [e]
      exact ⟨vs, line_of (by rw [wellAll_len hall]; exact Nat.le_trans (PySem.W.length_le_weightAllW ds) z2), fun u hu => (h1 u hu).mono k, .inr ho⟩
    · exact (h2 b m).mono k
  | .float _, _, _, p, _ => Bool.noConfusion (show false = true from p)
  | .dict _, _, _, p, _ => Bool.noConfusion (show false = true from p)
  | .bytearray _, _, _, p, _ => Bool.noConfusion (show false = true from p)
  | .set _, _, _, p, _ => Bool.noConfusion (show false = true from p)
  | .frozenset _, _, _, p, _ => Bool.noConfusion (show false = true from p)
  | .obj _ _, _, _, p, _ => Bool.noConfusion (show false = true from p)
theorem area_all : ∀ (ds : List WData) (vs : List Value), WellAll P h vs ds → plWs ds = true → (∀ d ∈ ds, d.weight ≤ 1048576) → ∃ A : List Addr, (∀ u ∈ vs, OkU A u) ∧ ∀ a ∈ A, ArgOb h A a
  | [], _, x, _, _ => by
    cases x
    exact ⟨[], fun u m => absurd m (by simp), fun a m => absurd m (by simp)⟩
  | d :: ds, _, x, p, z => by
    obtain ⟨v, vs, rfl, x1, x2⟩ := well_cons x
    have q : plW d = true ∧ plWs ds = true := Bool.and_eq_true_iff.mp p
    obtain ⟨A, a1, a2⟩ := area_one d v x1 q.1 (z d (List.mem_cons_self ..))
    obtain ⟨B, b1, b2⟩ := area_all ds vs x2 q.2 fun e he => z e (List.mem_cons_of_mem _ he)
    have kA : ∀ b ∈ A, b ∈ A ++ B := fun b hb => List.mem_append.mpr (.inl hb)
    have kB : ∀ b ∈ B, b ∈ A ++ B := fun b hb => List.mem_append.mpr (.inr hb)
    refine ⟨A ++ B, fun u hu => ?_, fun b hb => ?_⟩
    · rcases List.mem_cons.mp hu with e | m
      · rw [e]
        exact a1.mono kA
      · exact (b1 u m).mono kB
    · rcases List.mem_append.mp hb with m | m
      · exact (a2 b m).mono kA
      · exact (b2 b m).mono kB
end
end
/-- what is tracked of an argument's object -/
def hoOf (o : Obj) : Option HO := match o.data with
  | .seq vs _ => if (o.cls == Value.type "list") = true then some (.frz o (.lst (vs.toList.map toV))) else some (.frz o (.tup (vs.toList.map toV)))
  | _ => none
def argH (K : PySem.W.Frag) (h : Heap) (A : List Addr) : Hp := fun b => if b ∈ A then (if (K.lookup b).isNone = true then (h.get? b).bind hoOf else none) else none
/-- nothing is tracked but what is known to the object -/
def OnlyF (H : Hp) : Prop := ∀ b, H b = none ∨ ∃ o u, H b = some (.frz o u)
theorem hoOf_lst (vs : List Value) : hoOf { cls := .type "list", data := .seq vs.toArray } = some (.frz { cls := .type "list", data := .seq vs.toArray } (.lst (vs.map toV))) := by
  show (if (Value.type "list" == Value.type "list") = true then some (HO.frz { cls := .type "list", data := .seq vs.toArray } (.lst (vs.toArray.toList.map toV))) else some (HO.frz { cls := .type "list", data := .seq vs.toArray } (.tup (vs.toArray.toList.map toV)))) = _
  rw [if_pos (beq_self_eq_true _)]
theorem hoOf_tup (vs : List Value) : hoOf { cls := .type "tuple", data := .seq vs.toArray } = some (.frz { cls := .type "tuple", data := .seq vs.toArray } (.tup (vs.map toV))) := by
  show (if (Value.type "tuple" == Value.type "list") = true then some (HO.frz { cls := .type "tuple", data := .seq vs.toArray } (.lst (vs.toArray.toList.map toV))) else some (HO.frz { cls := .type "tuple", data := .seq vs.toArray } (.tup (vs.toArray.toList.map toV)))) = _
  rw [if_neg (by decide)]
section
variable {P : Program} {w : World} {K : PySem.W.Frag} {h : Heap} {A : List Addr}
theorem argH_at {b : Addr} {o : Obj} (hb : b ∈ A) (hk : K.lookup b = none) (e : h.get? b = some o) : argH K h A b = hoOf o := by
  unfold argH
  rw [if_pos hb, hk, if_pos (show (none : Option Obj).isNone = true from rfl), e] <;> rfl
theorem of_argH {b : Addr} {u : HO} (q : argH K h A b = some u) : b ∈ A ∧ K.lookup b = none := by
  unfold argH at q
  by_cases hb : b ∈ A
  · rw [if_pos hb] at q
    cases hk : K.lookup b with
    | none => exact ⟨hb, rfl⟩
    | some o =>
      rw [hk, if_neg (by simp)] at q
      cases q
  · rw [if_neg hb] at q
    cases q
/-- what stands tracked -/
theorem argH_is (ar : ∀ a ∈ A, ArgOb h A a) {b : Addr} {u : HO} (q : argH K h A b = some u) : K.lookup b = none ∧ ∃ vs : List Value, vs.length ≤ sizeLine ∧ (∀ u ∈ vs, OkU A u) ∧
    ((h.get? b = some { cls := .type "list", data := .seq vs.toArray } ∧ u = .frz { cls := .type "list", data := .seq vs.toArray } (.lst (vs.map toV))) ∨
     (h.get? b = some { cls := .type "tuple", data := .seq vs.toArray } ∧ u = .frz { cls := .type "tuple", data := .seq vs.toArray } (.tup (vs.map toV)))) := by
  obtain ⟨hb, hk⟩ := of_argH q
  obtain ⟨vs, h1, h2, h3⟩ := ar b hb
  refine ⟨hk, vs, h1, h2, ?_⟩
  rcases h3 with e | e
  · rw [argH_at hb hk e, hoOf_lst] at q
    exact .inl ⟨e, (Option.some.inj q).symm⟩
  · rw [argH_at hb hk e, hoOf_tup] at q
    exact .inr ⟨e, (Option.some.inj q).symm⟩
theorem argH_only (ar : ∀ a ∈ A, ArgOb h A a) : OnlyF (argH K h A) := fun b => by
  cases q : argH K h A b with
  | none => exact .inl rfl
  | some u =>
    obtain ⟨_, vs, _, _, ⟨_, e⟩ | ⟨_, e⟩⟩ := argH_is ar q
    · exact .inr ⟨_, _, by rw [e]⟩
    · exact .inr ⟨_, _, by rw [e]⟩
theorem argH_ok (ar : ∀ a ∈ A, ArgOb h A a) : HOk P w (argH K h A) h := fun b u q => by
  obtain ⟨_, vs, h1, h2, ⟨e, rfl⟩ | ⟨e, rfl⟩⟩ := argH_is ar q
  · exact ⟨e, by rw [List.length_map]; exact h1, vs, _, vals_toV h2, e⟩
  · exact ⟨e, by rw [List.length_map]; exact h1, vs, vals_toV h2, _, e, rfl, _, rfl⟩
theorem seq_inj {c c' : Value} {vs us : List Value} (e : (some { cls := c, data := .seq vs.toArray } : Option Obj) = some { cls := c', data := .seq us.toArray }) : c = c' ∧ vs = us := by
  have e1 := Option.some.inj e
  have e2 : c = c' := congrArg Obj.cls e1
  have e3 : Data.seq vs.toArray = Data.seq us.toArray := congrArg Obj.data e1
  injection e3 with e4
  refine ⟨e2, ?_⟩
  have e5 := congrArg Array.toList e4
  simpa using e5
/-- a list argument -/
theorem argL (KX : K.In h) (ar : ∀ a ∈ A, ArgOb h A a) {a : Addr} {vs : List Value} (ha : a ∈ A) (e : h.get? a = some { cls := .type "list", data := .seq vs.toArray }) : (∀ u ∈ vs, OkU A u) ∧ SqL K (argH K h A) a (vs.map toV) := by
  obtain ⟨us, h1, h2, h3⟩ := ar a ha
  have hu : us = vs := by
    rcases h3 with q | q
    · rw [e] at q
      exact (seq_inj q).2.symm
    · rw [e] at q
      exact absurd (Value.type.inj (seq_inj q).1) (by decide)
  subst hu
  refine ⟨h2, ?_⟩
  cases hk : K.lookup a with
  | none => exact .inl (.inr ⟨_, by rw [argH_at ha hk e, hoOf_lst]⟩)
  | some o =>
    have e2 := KX a o hk
    rw [e] at e2
    obtain rfl := Option.some.inj e2
    exact .inr ⟨_, us.toArray, _, hk, rfl, rfl, rfl, by rw [List.size_toArray]; exact h1, by simpa using vals_toV h2⟩
theorem argT (KX : K.In h) (ar : ∀ a ∈ A, ArgOb h A a) {a : Addr} {vs : List Value} (ha : a ∈ A) (e : h.get? a = some { cls := .type "tuple", data := .seq vs.toArray }) : (∀ u ∈ vs, OkU A u) ∧ SqT K (argH K h A) a (vs.map toV) := by
  obtain ⟨us, h1, h2, h3⟩ := ar a ha
  have hu : us = vs := by
    rcases h3 with q | q
    · rw [e] at q
      exact absurd (Value.type.inj (seq_inj q).1) (by decide)
    · rw [e] at q
      exact (seq_inj q).2.symm
  subst hu
  refine ⟨h2, ?_⟩
  cases hk : K.lookup a with
  | none => exact .inl (.inr ⟨_, by rw [argH_at ha hk e, hoOf_tup]⟩)
  | some o =>
    have e2 := KX a o hk
    rw [e] at e2
    obtain rfl := Option.some.inj e2
    exact .inr ⟨_, us.toArray, _, hk, rfl, rfl, by rw [List.size_toArray]; exact h1, by simpa using vals_toV h2⟩
mutual
theorem dw_one {Pm : Params} (KX : K.In h) (ar : ∀ a ∈ A, ArgOb h A a) : ∀ (d : WData) (v : Value), Well Pm h v d → plW d = true → OkU A v → Dw K (argH K h A) (toV v) d
  | .none, _, x, _, _ => by
    cases x
    exact .non
  | .bool b, _, x, _, _ => by
    cases x
    exact .bl b
  | .int i, _, x, _, _ => by
    cases x
    exact .int i
  | .str s, _, x, _, _ => by
    cases x
    exact .str s
  | .bytes b, _, x, _, _ => by
    cases x
    have z := Dw.byt (K := K) (H := argH K h A) b.toArray
    exact z
  | .list ds, _, x, p, hu => by
    obtain ⟨a, vs, rfl, ho, hall⟩ := well_list x
    obtain ⟨h2, hs⟩ := argL KX ar hu ho
    exact .lst hs (dw_all KX ar ds _ hall p h2)
  | .tuple ds, _, x, p, hu => by
    obtain ⟨a, vs, rfl, ho, hall⟩ := well_tuple x
    obtain ⟨h2, hs⟩ := argT KX ar hu ho
    exact .tup hs (dw_all KX ar ds _ hall p h2)
  | .float _, _, _, p, _ => Bool.noConfusion (show false = true from p)
  | .dict _, _, _, p, _ => Bool.noConfusion (show false = true from p)
  | .bytearray _, _, _, p, _ => Bool.noConfusion (show false = true from p)
  | .set _, _, _, p, _ => Bool.noConfusion (show false = true from p)
  | .frozenset _, _, _, p, _ => Bool.noConfusion (show false = true from p)
  | .obj _ _, _, _, p, _ => Bool.noConfusion (show false = true from p)
theorem dw_all {Pm : Params} (KX : K.In h) (ar : ∀ a ∈ A, ArgOb h A a) : ∀ (ds : List WData) (vs : List Value), WellAll Pm h vs ds → plWs ds = true → (∀ u ∈ vs, OkU A u) → DwAll K (argH K h A) (vs.map toV) ds
  | [], _, x, _, _ => by
    cases x
    exact .nil
  | d :: ds, _, x, p, hu => by
    obtain ⟨v, vs, rfl, x1, x2⟩ := well_cons x
    have q : plW d = true ∧ plWs ds = true := Bool.and_eq_true_iff.mp p
    exact .cons (dw_one KX ar d v x1 q.1 (hu _ (List.mem_cons_self ..))) (dw_all KX ar ds vs x2 q.2 fun u m => hu u (List.mem_cons_of_mem _ m))
end
end
/-! ### the call -/
theorem spec_call {P : Program} {w : World} {K : PySem.W.Frag} {mg mb : Str → Option Value} {CX : CXT} {k : Nat} {fa : Addr} {fd : FuncData} {ps : List Str} {sp : Sp} {s₁ : Shared} {vals : List Value} {ds : List WData} {R : PySem.W.WRecords} {cl : Str → Option Addr} {d0 : WData}
    (KX : K.In s₁.heap) (hns : s₁.heap.Ns mainGlobals mg) (hb : s₁.heap.Ns builtinsNs mb) (hbb : ∀ x : Str, x ≠ "__name__" → mb x = bootBuiltins x) (hlim : s₁.heap.NoLimit) (hg : s₁.gens = #[])
    (hwl : WellAll w.params s₁.heap vals ds) (hpl : plWs ds = true) (hwt : ∀ d ∈ ds, d.weight ≤ 1048576) (hr : Room k callerA)
    (F : ∀ base : Heap, K.In base → base.Ns mainGlobals mg → FnOk P w K mg base CX k fa fd ps sp) (hbind : ∀ (s : Shared) (us : List Value), us.length = ps.length → BindsTo s fd ⟨us, []⟩ (ps.zip us)) (hlen : ds.length = ps.length)
    (hsp : ∀ (H : Hp) (xs : List V), OnlyF H → DwAll K H xs ds → sp xs H (fun v H' => Dw K H' v d0) fun _ _ _ => False)
    (hCX : ∀ H e s', CX [] H s₁ (fun _ _ _ => False) e s' → False) :
    codeAny (model P w) callerA (.call (.ref fa) ⟨vals, []⟩) (fun r s' => ∃ u as, r = .ok (.ret u) ∧ ReadsW R cl s'.heap u d0 as ∧ OldK s₁.heap s'.heap ∧ s'.os = s₁.os ∧ AllBare s'.gens) s₁ := by
  obtain ⟨A, ho, ar⟩ := area_all ds vals hwl hpl hwt
  have hO : OnlyF (argH K s₁.heap A) := argH_only ar
  have hok : HOk P w (argH K s₁.heap A) s₁.heap := argH_ok ar
  have hS := dw_all KX ar ds vals hwl hpl ho
  have hV := vals_toV ho
  have hK : ∀ b u, argH K s₁.heap A b = some u → K.lookup b = none := fun b u q => (argH_is ar q).1
  have noA : ∀ {b : Addr} {o : Obj} {es : Array DictEntry} {ep : Nat}, s₁.heap.get? b = some o → o.data = .dict es ep → argH K s₁.heap A b = none := fun {b o es ep} e d => by
    cases q : argH K s₁.heap A b with
    | none => rfl
    | some u =>
      obtain ⟨_, vs, _, _, ⟨e2, _⟩ | ⟨e2, _⟩⟩ := argH_is ar q
      · rw [e2] at e
        cases e
        have d' : Data.seq vs.toArray _ = Data.dict es ep := d
        cases d'
      · rw [e2] at e
        cases e
        have d' : Data.seq vs.toArray _ = Data.dict es ep := d
        cases d'
  generalize argH K s₁.heap A = H at hO hok hS hK noA
  have base_of : ∀ {b : Addr} {o : Obj}, s₁.heap.get? b = some o → H b = none → (hidT s₁.heap H).get? b = some o := fun e n => hidT_get e n
  have nsK : ∀ {b : Addr} {m : Str → Option Value}, s₁.heap.Ns b m → (hidT s₁.heap H).Ns b m := fun {b m} ⟨o, es, ep, e, d, r⟩ => ⟨o, es, ep, base_of e (noA e d), d, r⟩
  have nK : ∀ b o, K.lookup b = some o → H b = none := fun b o e => by
    cases q : H b with
    | none => rfl
    | some u =>
      rw [hK b u q] at e
      cases e
  have hKb : K.In (hidT s₁.heap H) := fun b o e => base_of (KX b o e) (nK b o e)
  have hM : Mod K mg (hidT s₁.heap H) := ⟨hKb, nsK hns, ⟨mb, nsK hb, hbb⟩, let ⟨mc, h1, h2⟩ := hlim; ⟨mc, nsK h1, h2⟩⟩
  have e0 : Env0 P w K mg (hidT s₁.heap H) callerA [] s₁ H := ⟨rfl, hM, fun b o e => of_hidT e, Nat.le_of_eq (hidT_size _ _), trivial, fun b hb => absurd (show b ∈ ([] : List Addr) from hb) (by simp), hok, .of_eq hg⟩
  have hl : vals.length = ps.length := by rw [wellAll_len hwl]; exact hlen
  refine codeAny_mono ((F _ hKb (nsK hns)).run callerA [] s₁ H ⟨vals, []⟩ vals (vals.map toV) _ _ hr e0 (hbind s₁ vals hl) hV (hsp H _ hO hS)) fun r s' x => ?_
  cases r with
  | error e => exact (hCX H e s' x).elim
  | ok fl =>
    cases fl with
    | next => exact False.elim x
    | brk => exact False.elim x
    | cont => exact False.elim x
    | ret u =>
      obtain ⟨v, H', os, bare, un, hok', r', q⟩ := x
      have kept : ∀ b o, s₁.heap.get? b = some o → s'.heap.get? b = some o := fun b o e => by
        cases q2 : H b with
        | none => exact un.keep b o e q2 (by intro z; exact absurd (show b ∈ ([] : List Addr) from z) (by simp)) (by simp)
        | some u2 =>
          rcases hO b with z | ⟨ob, u3, z⟩
          · rw [q2] at z
            cases z
          · have z2 := un.frzs b ob _ z
            obtain ⟨e1, _⟩ := hok b _ z
            obtain ⟨e2, _⟩ := hok' b _ z2
            rw [e] at e1
            cases e1
            exact e2
      have KX' : K.In s'.heap := fun b o e => kept b o (KX b o e)
      obtain ⟨as, hrd⟩ := Dw.reads (R := R) (cl := cl) hok' KX' d0 v u q r'
      exact ⟨u, as, rfl, hrd, OldK.of_keep kept, os, bare⟩
/-! ### the row -/
theorem layable_weight {ds : List WData} (h : WData.layableAll ds = true) : ∀ d ∈ ds, d.weight ≤ 1048576 := fun d hd =>
  (PySem.W.layableW_iff.mp (List.all_eq_true.mp h d hd)).2.2
theorem encAll_len : ∀ (cs : List Codec) (a : Codec.denoteAll cs), (Codec.encAll cs a).length = cs.length
  | [], _ => rfl
  | c :: cs, a => by
    show (Codec.encAll cs a.2).length + 1 = cs.length + 1
    rw [encAll_len cs a.2]
/-- the goal that k_headS leaves (case hc), from the promise of the row's def: whatever the arguments that the codecs let and the row asks for, the def gives what stands for enc (f ..) -/
theorem walk_spec {r : OpenSpec} {k : Nat} {q : Program} {loose : List Str} {XP : (Str → Option Value) → Heap → Prop} {YP : World → Heap → Prop} {d : DefRec} {K : Params → PySem.W.Frag} {CX : World → CXT} {ps : List Str} {sp : World → Sp}
    (hwell : r.wellSaid = true) (hdf : d.params.defaults = []) (hlen : r.args.length = ps.length) (hr : Room k callerA)
    (hY : ∀ (w : World) (h : Heap), YP w h → (K w.params).In h)
    (F : ∀ (w : World) (mg : Str → Option Value) (fa : Addr) (h : Heap), YP w h → (K w.params).In h → h.Ns mainGlobals mg → mg d.name = some (.ref fa) →
      ∃ fd : FuncData, (∀ (s : Shared) (us : List Value), us.length = ps.length → BindsTo s fd ⟨us, []⟩ (ps.zip us)) ∧
        ∀ base : Heap, (K w.params).In base → base.Ns mainGlobals mg → FnOk r.prog w (K w.params) mg base (CX w) k fa fd ps (sp w))
    (hsp : ∀ (w : World) (H : Hp) (xs : List V) (a : Codec.denoteAll r.args), OnlyF H → Codec.withinAll r.args a = true → Codec.app r.args r.asked a = true → DwAll (K w.params) H xs (Codec.encAll r.args a) →
      sp w xs H (fun v H' => Dw (K w.params) H' v (r.ret.enc (Codec.app r.args r.f a))) fun _ _ _ => False)
    (hCX : ∀ (w : World) (H : Hp) (s : Shared) (e : Value) (s' : Shared), CX w [] H s (fun _ _ _ => False) e s' → False) :
    PySem.W.WalkOS q loose XP YP r d [] (fun f vs => PySem.call f vs) := by
  intro w s_0 s₁ mg mb G Y fa o pm cd doc dV kV ho hd hcd hD hmg hg args vals as hpre hlay hrd hwl hlo
  obtain ⟨a, e1, e2⟩ := PySem.W.os_pre_some hpre
  obtain ⟨e3, hwi⟩ := Codec.encAll_of_decAll r.args args a e1
  subst e3
  have KX := hY w _ Y
  obtain ⟨fd, hb, hF⟩ := F w mg fa _ Y KX G.T.g hmg
  refine PySem.W.enter_call (codeAny_mono (spec_call (R := []) (cl := classAt s_0.heap) (d0 := r.ret.enc (Codec.app r.args r.f a)) KX G.T.g G.T.b G.T.builtins G.T.nolimit hg hwl (pl_encAll _ _) (layable_weight hlay) hr hF hb (by rw [encAll_len]; exact hlen)
    (fun H xs hO hS => hsp w H xs a hO hwi e2 hS) fun H e s' => hCX w H s₁ e s') fun r' s' hq => ?_)
  obtain ⟨u, as', rfl, h1, h2, h3, h4⟩ := hq
  exact ⟨.inl ⟨u, _, as', rfl, fun _ => rfl, h1, (OpenSpec.post_iff hwell hwi _ _).mpr rfl, fun z => Bool.noConfusion (show false = true from z)⟩, h2, h3, h4⟩
/-- the same where the promise hangs on the written part alone -/
theorem walk_specK {r : OpenSpec} {k : Nat} {q : Program} {loose : List Str} {XP : (Str → Option Value) → Heap → Prop} {YP : World → Heap → Prop} {d : DefRec} {K : Params → PySem.W.Frag} {CX : CXT} {ps : List Str} {sp : PySem.W.Frag → Sp}
    (hwell : r.wellSaid = true) (hdf : d.params.defaults = []) (hlen : r.args.length = ps.length) (hr : Room k callerA)
    (hY : ∀ (w : World) (h : Heap), YP w h → (K w.params).In h)
    (F : ∀ (w : World) (mg : Str → Option Value) (fa : Addr) (h : Heap), YP w h → (K w.params).In h → h.Ns mainGlobals mg → mg d.name = some (.ref fa) →
      ∃ fd : FuncData, (∀ (s : Shared) (us : List Value), us.length = ps.length → BindsTo s fd ⟨us, []⟩ (ps.zip us)) ∧
        ∀ base : Heap, (K w.params).In base → base.Ns mainGlobals mg → FnOk r.prog w (K w.params) mg base CX k fa fd ps (sp (K w.params)))
    (hsp : ∀ (K : PySem.W.Frag) (H : Hp) (xs : List V) (a : Codec.denoteAll r.args), OnlyF H → Codec.withinAll r.args a = true → Codec.app r.args r.asked a = true → DwAll K H xs (Codec.encAll r.args a) →
      sp K xs H (fun v H' => Dw K H' v (r.ret.enc (Codec.app r.args r.f a))) fun _ _ _ => False)
    (hCX : ∀ (H : Hp) (s : Shared) (e : Value) (s' : Shared), CX [] H s (fun _ _ _ => False) e s' → False) :
    PySem.W.WalkOS q loose XP YP r d [] (fun f vs => PySem.call f vs) :=
  walk_spec (K := K) (CX := fun _ => CX) (sp := fun w => sp (K w.params)) hwell hdf hlen hr hY F (fun w H xs a h1 h2 h3 h4 => hsp (K w.params) H xs a h1 h2 h3 h4) fun _ H s e s' => hCX H s e s'
end L2
end
set_option linter.all false
namespace Wm
open Ra13
/-! ### rounds that come to rest -/
def Grow {α : Type} (on : α → Bool) (x y : List α) : Prop := x.length = y.length ∧ ∀ (i : Nat) a, x[i]? = some a → on a = true → y[i]? = some a
theorem grow_count {α : Type} (on : α → Bool) (u : ∀ a b, on a = false → on b = false → a = b) : ∀ x y : List α, Grow on x y → x = y ∨ x.countP on < y.countP on
  | [], [], _ => .inl rfl
  | [], _ :: _, h => by have := h.1; simp at this
  | _ :: _, [], h => by have := h.1; simp at this
  | a :: x, b :: y, h => by
    have ht : Grow on x y := ⟨by have := h.1; simpa using this, fun i c e o => by have := h.2 (i + 1) c (by simpa using e) o; simpa using this⟩
    have h0 : on a = true → b = a := fun o => by have := h.2 0 a rfl o; simpa using this
    have ih := grow_count on u x y ht
    cases ea : on a with
    | true =>
      have e := h0 ea
      subst e
      rcases ih with ih | ih
      · exact .inl (by rw [ih])
      · exact .inr (by rw [List.countP_cons, List.countP_cons]; omega)
    | false =>
      cases eb : on b with
      | true =>
        refine .inr ?_
        rw [List.countP_cons, List.countP_cons, ea, eb]
        rcases ih with ih | ih
        · rw [ih]; simp
        · simp; omega
      | false =>
        have e := u a b ea eb
        subst e
        rcases ih with ih | ih
        · exact .inl (by rw [ih])
        · exact .inr (by rw [List.countP_cons, List.countP_cons]; omega)
def iter {α : Type} (f : α → α) : Nat → α → α
  | 0, x => x
  | k + 1, x => f (iter f k x)
theorem iter_in {α : Type} (f : α → α) : ∀ (k : Nat) (x : α), iter f k (f x) = f (iter f k x)
  | 0, _ => rfl
  | k + 1, x => by show f (iter f k (f x)) = f (f (iter f k x)); rw [iter_in f k x]
theorem rounds_iter (f : Yes → Yes) : ∀ (k : Nat) (x : Yes), rounds f k x = iter f k x
  | 0, _ => rfl
  | k + 1, x => by
    show rounds f k (f x) = f (iter f k x)
    rw [rounds_iter f k (f x), iter_in]
theorem iter_len {α : Type} (on : α → Bool) (f : List α → List α) (x : List α) (g : ∀ k, Grow on (iter f k x) (iter f (k + 1) x)) : ∀ k, (iter f k x).length = x.length
  | 0 => rfl
  | k + 1 => by rw [← (g k).1]; exact iter_len on f x g k
theorem iter_stable {α : Type} (on : α → Bool) (u : ∀ a b, on a = false → on b = false → a = b) (f : List α → List α) (x : List α) (g : ∀ k, Grow on (iter f k x) (iter f (k + 1) x)) :
    f (iter f (x.length + 1) x) = iter f (x.length + 1) x := by
  have key : ∀ k, iter f (k + 1) x = iter f k x ∨ k + 1 ≤ (iter f (k + 1) x).countP on := by
    intro k
    induction k with
    | zero =>
      rcases grow_count on u _ _ (g 0) with e | e
      · exact .inl e.symm
      · exact .inr (by omega)
    | succ k ih =>
      rcases ih with e | e
      · refine .inl ?_
        show f (iter f (k + 1) x) = f (iter f k x)
        rw [e]
      · rcases grow_count on u _ _ (g (k + 1)) with e2 | e2
        · exact .inl e2.symm
        · exact .inr (by omega)
  rcases key x.length with e | e
  · show f (iter f (x.length + 1) x) = f (iter f x.length x)
    rw [e]
  · have h1 := iter_len on f x g (x.length + 1)
    have h2 := List.countP_le_length (p := on) (l := iter f (x.length + 1) x)
    omega
/-! ### answers for every state -/
section
variable (g : Abs)
theorem each_len (f : Nat → Bool) : (g.each f).length = g.states := by simp [Abs.each]
theorem is_each (f : Nat → Bool) (a : Nat) : is (g.each f) a = (decide (a < g.states) && f a) := by
  unfold is Abs.each
  by_cases h : a < g.states
  · simp [h, List.getD_eq_getElem?_getD]
  · simp [h, List.getD_eq_getElem?_getD, List.getElem?_eq_none]
theorem is_lt {x : Yes} {a : Nat} (h : is x a = true) : a < x.length := by
  unfold is at h
  rw [List.getD_eq_getElem?_getD] at h
  by_cases c : a < x.length
  · exact c
  · rw [List.getElem?_eq_none (by omega)] at h
    cases h
theorem yes_ext {x y : Yes} (hl : x.length = y.length) (h : ∀ a, a < x.length → is x a = is y a) : x = y := by
  refine List.ext_getElem hl fun i h1 h2 => ?_
  have := h i h1
  unfold is at this
  simpa [List.getD_eq_getElem?_getD, h1, h2] using this
theorem each_ext {f f' : Nat → Bool} (h : ∀ a, a < g.states → f a = f' a) : g.each f = g.each f' := by
  unfold Abs.each
  exact List.map_congr_left fun a ha => h a (List.mem_range.mp ha)
def Le (x y : Yes) : Prop := ∀ a, is x a = true → is y a = true
def Mono (pre : Yes → Nat → Bool) : Prop := ∀ x y a, Le x y → pre x a = true → pre y a = true
def round (pre : Yes → Nat → Bool) (p q : Yes) (x : Yes) : Yes := g.each fun a => is q a || (is p a && pre x a)
def till (pre : Yes → Nat → Bool) (p q : Yes) : Yes := rounds (round g pre p q) (g.states + 1) (g.each fun _ => false)
theorem someTill_eq (p q : Yes) : g.someTill p q = till g g.some_ p q := rfl
theorem allTill_eq (p q : Yes) : g.allTill p q = till g g.all_ p q := rfl
theorem mono_some : Mono g.some_ := fun x y a h e => by
  unfold Abs.some_ at e ⊢
  rw [List.any_eq_true] at e ⊢
  obtain ⟨b, h1, h2⟩ := e
  exact ⟨b, h1, h b h2⟩
theorem mono_all : Mono g.all_ := fun x y a h e => by
  unfold Abs.all_ at e ⊢
  rw [List.all_eq_true] at e ⊢
  exact fun b hb => h b (e b hb)
variable {g}
variable {pre : Yes → Nat → Bool} {p q : Yes}
theorem round_mono (m : Mono pre) {x y : Yes} (h : Le x y) : Le (round g pre p q x) (round g pre p q y) := fun a e => by
  unfold round at e ⊢
  rw [is_each] at e ⊢
  simp only [Bool.and_eq_true, Bool.or_eq_true, decide_eq_true_eq] at e ⊢
  refine ⟨e.1, ?_⟩
  rcases e.2 with e | ⟨e1, e2⟩
  · exact .inl e
  · exact .inr ⟨e1, m x y a h e2⟩
theorem le_none (y : Yes) : Le (g.each fun _ => false) y := fun a e => by rw [is_each] at e; simp at e
theorem iter_up (m : Mono pre) : ∀ k, Le (iter (round g pre p q) k (g.each fun _ => false)) (iter (round g pre p q) (k + 1) (g.each fun _ => false))
  | 0 => le_none _
  | k + 1 => round_mono m (iter_up m k)
theorem iter_rlen : ∀ k, (iter (round g pre p q) k (g.each fun _ => false)).length = g.states
  | 0 => each_len g _
  | _ + 1 => each_len g _
theorem getElem_is {x : Yes} {i : Nat} {a : Bool} (h : x[i]? = some a) : is x i = a := by
  unfold is; rw [List.getD_eq_getElem?_getD, h]; rfl
theorem is_getElem {x : Yes} {i : Nat} (h : i < x.length) : x[i]? = some (is x i) := by
  unfold is
  simp [List.getD_eq_getElem?_getD, h]
theorem till_len : (till g pre p q).length = g.states := by
  unfold till; rw [rounds_iter]; exact iter_rlen _
theorem till_fix (m : Mono pre) : round g pre p q (till g pre p q) = till g pre p q := by
  have h := iter_stable (α := Bool) id (fun a b ha hb => by cases a <;> cases b <;> simp_all) (round g pre p q) (g.each fun _ => false) (fun k => ⟨by rw [iter_rlen, iter_rlen], fun i a e o => by
    have o' : a = true := o
    subst o'
    have h1 := iter_up (g := g) (p := p) (q := q) m k i (getElem_is e)
    rw [is_getElem (is_lt h1), h1]⟩)
  rw [each_len] at h
  unfold till
  rw [rounds_iter]
  exact h
/-- what takes in whatever a round would add -/
def Closed (g : Abs) (pre : Yes → Nat → Bool) (p q Y : Yes) : Prop := ∀ s, s < g.states → (is q s || (is p s && pre Y s)) = true → is Y s = true
theorem till_closed (m : Mono pre) : Closed g pre p q (till g pre p q) := fun s hs e => by
  rw [← till_fix m]
  unfold round
  rw [is_each]
  simp only [hs, decide_true, Bool.true_and]
  exact e
theorem till_least (m : Mono pre) {Y : Yes} (c : Closed g pre p q Y) : Le (till g pre p q) Y := by
  have key : ∀ k, Le (iter (round g pre p q) k (g.each fun _ => false)) Y := by
    intro k
    induction k with
    | zero => exact le_none Y
    | succ k ih =>
      intro a e
      have e' : is (round g pre p q (iter (round g pre p q) k (g.each fun _ => false))) a = true := e
      unfold round at e'
      rw [is_each] at e'
      simp only [Bool.and_eq_true, decide_eq_true_eq] at e'
      refine c a e'.1 ?_
      have e2 := e'.2
      simp only [Bool.or_eq_true, Bool.and_eq_true] at e2 ⊢
      rcases e2 with e2 | ⟨e2, e3⟩
      · exact .inl e2
      · exact .inr ⟨e2, m _ _ a ih e3⟩
  unfold till
  rw [rounds_iter]
  exact key _
theorem till_is (m : Mono pre) {S : Yes} (hl : S.length = g.states) (c : Closed g pre p q S) (snd : ∀ Y, Closed g pre p q Y → Le S Y) : S = till g pre p q := by
  refine yes_ext (by rw [hl, till_len]) fun a ha => ?_
  have h1 := till_least m c a
  have h2 := snd _ (till_closed m) a
  cases e1 : is S a <;> cases e2 : is (till g pre p q) a
  · rfl
  · rw [h1 e2] at e1; cases e1
  · rw [h2 e1] at e2; cases e2
  · rfl
end
end Wm

set_option linter.all false
namespace Wm
open Ra13
/-! ### the list of pending states: what spreads -/
section
variable (g : Abs)
/-- edges lead among the states, each once -/
structure Fit (g : Abs) : Prop where
  marks : g.marks.length = g.states
  nd : g.edges.Nodup
  lt : ∀ e, e ∈ g.edges → e.1 < g.states ∧ e.2 < g.states
def succ (a : Nat) : List Nat := (g.edges.filter fun e => e.1 == a).map fun e => e.2
theorem next_eq (a : Nat) : g.next a = if (succ g a).isEmpty = true then [a] else succ g a := rfl
variable {g}
theorem mem_succ {a b : Nat} : b ∈ succ g a ↔ (a, b) ∈ g.edges := by
  unfold succ
  rw [List.mem_map]
  constructor
  · rintro ⟨e, h, rfl⟩
    rw [List.mem_filter] at h
    have := eq_of_beq h.2
    subst this
    exact h.1
  · intro h
    exact ⟨(a, b), by rw [List.mem_filter]; exact ⟨h, by simp⟩, rfl⟩
theorem succ_nd (F : Fit g) (a : Nat) : (succ g a).Nodup := by
  have h : ∀ l : List (Nat × Nat), l.Nodup → ((l.filter fun e => e.1 == a).map fun e => e.2).Nodup := by
    intro l
    induction l with
    | nil => intro _; simp
    | cons e l ih =>
      intro h
      rw [List.nodup_cons] at h
      rw [List.filter_cons]
      split
      · rename_i c
        have c' := eq_of_beq c
        rw [List.map_cons, List.nodup_cons]
        refine ⟨?_, ih h.2⟩
        intro m
        rw [List.mem_map] at m
        obtain ⟨e', h1, h2⟩ := m
        rw [List.mem_filter] at h1
        have h3 := eq_of_beq h1.2
        have : e' = e := Prod.ext (h3.trans c'.symm) h2
        subst this
        exact h.1 h1.1
      · exact ih h.2
  exact h _ F.nd
theorem succ_lt (F : Fit g) {a b : Nat} (h : b ∈ succ g a) : b < g.states := (F.lt _ (mem_succ.mp h)).2
theorem next_nd (F : Fit g) (a : Nat) : (g.next a).Nodup := by
  rw [next_eq]
  split
  · simp
  · exact succ_nd F a
theorem next_lt (F : Fit g) {a b : Nat} (ha : a < g.states) (h : b ∈ g.next a) : b < g.states := by
  rw [next_eq] at h
  split at h
  · simp at h; omega
  · exact succ_lt F h
theorem next_pos (a : Nat) : 0 < (g.next a).length := by
  rw [next_eq]
  split
  · simp
  · rename_i h
    cases e : succ g a with
    | nil => rw [e] at h; exact absurd rfl h
    | cons x r => simp
variable (g)
/-- on whose ways a state comes second -/
def befo (t : Nat) : List Nat := (List.range g.states).filter fun s => (g.next s).contains t
variable {g}
theorem mem_befo {t s : Nat} : s ∈ befo g t ↔ s < g.states ∧ t ∈ g.next s := by
  unfold befo
  rw [List.mem_filter, List.mem_range, List.contains_iff_mem]
theorem befo_nd (t : Nat) : (befo g t).Nodup := List.Pairwise.filter _ List.nodup_range
variable (g)
def cnt (D : List Nat) (s : Nat) : Nat := (g.next s).countP fun t => decide (t ∈ D)
variable {g}
theorem countP_new {D : List Nat} {t : Nat} (ht : t ∉ D) : ∀ l : List Nat, l.Nodup → l.countP (fun u => decide (u ∈ t :: D)) = l.countP (fun u => decide (u ∈ D)) + (if t ∈ l then 1 else 0)
  | [], _ => by simp
  | u :: l, h => by
    rw [List.nodup_cons] at h
    have ih := countP_new ht l h.2
    rw [List.countP_cons, List.countP_cons, ih]
    by_cases e : u = t
    · subst e
      simp [ht, h.1]
    · have e' : ¬ t = u := fun q => e q.symm
      simp [e, e']
      omega
theorem cnt_new (F : Fit g) {D : List Nat} {t s : Nat} (ht : t ∉ D) (hs : s < g.states) : cnt g (t :: D) s = cnt g D s + (if s ∈ befo g t then 1 else 0) := by
  unfold cnt
  rw [countP_new ht _ (next_nd F s)]
  by_cases h : t ∈ g.next s
  · rw [if_pos h, if_pos (mem_befo.mpr ⟨hs, h⟩)]
  · rw [if_neg h, if_neg fun q => h (mem_befo.mp q).2]
theorem countP_le {f h : Nat → Bool} : ∀ l : List Nat, (∀ x ∈ l, f x = true → h x = true) → l.countP f ≤ l.countP h
  | [], _ => by simp
  | x :: l, k => by
    rw [List.countP_cons, List.countP_cons]
    have ih := countP_le l fun y hy => k y (List.mem_cons_of_mem _ hy)
    have := k x (List.mem_cons_self ..)
    cases e : f x
    · simp; omega
    · rw [this e]; simp; omega
/-- how many of the second states must be yes -/
def Needs (g : Abs) (pre : Yes → Nat → Bool) (need : Nat → Nat) : Prop := ∀ Y s, s < g.states → (pre Y s = true ↔ need s ≤ (g.next s).countP (is Y))
theorem needs_some : Needs g g.some_ (fun _ => 1) := fun Y s _ => by
  unfold Abs.some_
  rw [List.any_eq_true]
  constructor
  · rintro ⟨b, h1, h2⟩
    exact List.countP_pos_iff.mpr ⟨b, h1, h2⟩
  · intro h
    obtain ⟨b, h1, h2⟩ := List.countP_pos_iff.mp h
    exact ⟨b, h1, h2⟩
theorem needs_all : Needs g g.all_ (fun s => (g.next s).length) := fun Y s _ => by
  unfold Abs.all_
  rw [List.all_eq_true]
  constructor
  · intro h
    exact Nat.le_of_eq (List.countP_eq_length.mpr h).symm
  · intro h
    exact List.countP_eq_length.mp (Nat.le_antisymm List.countP_le_length h)
section
variable (g : Abs) (pre : Yes → Nat → Bool) (need : Nat → Nat) (p q : Yes)
structure Spr (found : Yes) (lack : List Int) (pend D : List Nat) : Prop where
  flen : found.length = g.states
  llen : lack.length = g.states
  sub : ∀ u, is found u = true ↔ u ∈ pend ∨ u ∈ D
  nd : (pend ++ D).Nodup
  lk : ∀ s, s < g.states → lack[s]? = some ((need s : Int) - (cnt g D s : Nat))
  hasq : Le q found
  opn : ∀ s, s < g.states → is p s = true → is found s = false → cnt g D s < need s
  snd : ∀ Y, Closed g pre p q Y → Le found Y
/-- within a turn: t is taken, done are those of befo t that are told -/
structure Tur (found : Yes) (lack : List Int) (pend D : List Nat) (t : Nat) (done : List Nat) : Prop where
  flen : found.length = g.states
  llen : lack.length = g.states
  sub : ∀ u, is found u = true ↔ u ∈ pend ∨ u = t ∨ u ∈ D
  nd : (pend ++ t :: D).Nodup
  lk : ∀ s, s < g.states → lack[s]? = some ((need s : Int) - (cnt g D s : Nat) - (if s ∈ done then 1 else 0))
  hasq : Le q found
  opn : ∀ s, s < g.states → is p s = true → is found s = false → cnt g D s + (if s ∈ done then 1 else 0) < need s
  snd : ∀ Y, Closed g pre p q Y → Le found Y
end
variable {pre : Yes → Nat → Bool} {need : Nat → Nat} {p q found : Yes} {lack : List Int} {pend D done : List Nat} {t s : Nat}
theorem cnt_nil (s : Nat) : cnt g [] s = 0 := by unfold cnt; simp
theorem Spr.begin (h1 : ∀ s, s < g.states → 0 < need s) (hq : q.length = g.states) (lack : List Int) (hl : lack.length = g.states) (hk : ∀ s, s < g.states → lack[s]? = some (need s : Int)) (pend : List Nat) (hn : pend.Nodup) (hp : ∀ u, is q u = true ↔ u ∈ pend) :
    Spr g pre need p q q lack pend [] where
  flen := hq
  llen := hl
  sub := fun u => by simp [hp u]
  nd := by simpa using hn
  lk := fun s hs => by rw [hk s hs, cnt_nil]; simp
  hasq := fun _ h => h
  opn := fun s hs _ _ => by rw [cnt_nil]; exact h1 s hs
  snd := fun Y c a e => c a (by rw [← hq]; exact is_lt e) (by rw [e]; rfl)
theorem Spr.take (S : Spr g pre need p q found lack (pend ++ [t]) D) : Tur g pre need p q found lack pend D t [] where
  flen := S.flen
  llen := S.llen
  sub := fun u => by rw [S.sub u]; simp [or_assoc]
  nd := by have := S.nd; simpa using this
  lk := fun s hs => by rw [S.lk s hs]; simp
  hasq := S.hasq
  opn := fun s hs h1 h2 => by simpa using S.opn s hs h1 h2
  snd := S.snd
theorem Tur.close (F : Fit g) (T : Tur g pre need p q found lack pend D t (befo g t)) : Spr g pre need p q found lack pend (t :: D) := by
  have ht : t ∉ D := by
    have := T.nd
    rw [List.nodup_append] at this
    exact (List.nodup_cons.mp this.2.1).1
  exact
  { flen := T.flen
    llen := T.llen
    sub := fun u => by rw [T.sub u]; simp
    nd := T.nd
    lk := fun s hs => by
      rw [T.lk s hs, cnt_new F ht hs]
      split <;> simp <;> omega
    hasq := T.hasq
    opn := fun s hs h1 h2 => by
      have := T.opn s hs h1 h2
      rw [cnt_new F ht hs]
      exact this
    snd := T.snd }
theorem is_set (x : Yes) (i a : Nat) (b : Bool) (h : i < x.length) : is (x.set i b) a = if a = i then b else is x a := by
  unfold is
  rw [List.getD_eq_getElem?_getD, List.getD_eq_getElem?_getD]
  by_cases e : a = i
  · subst e
    simp [h]
  · rw [List.getElem?_set_ne (fun q => e q.symm), if_neg e]
theorem Tur.now (T : Tur g pre need p q found lack pend D t done) (hs : s < g.states) (hd : s ∉ done) : lack[s]? = some ((need s : Int) - (cnt g D s : Nat)) := by
  rw [T.lk s hs, if_neg hd]; simp
/-- a turn of the inner loop that finds nothing new -/
theorem Tur.pass (T : Tur g pre need p q found lack pend D t done) (hs : s < g.states) (hd : s ∉ done) (h : is p s = true → is found s = false → ¬ ((need s : Int) - (cnt g D s : Nat) - 1 ≤ 0)) :
    Tur g pre need p q found (lack.set s ((need s : Int) - (cnt g D s : Nat) - 1)) pend D t (done ++ [s]) where
  flen := T.flen
  llen := by rw [List.length_set]; exact T.llen
  sub := T.sub
  nd := T.nd
  lk := fun u hu => by
    by_cases e : u = s
    · subst e
      rw [List.getElem?_set_self (by rw [T.llen]; exact hs)]
      simp
    · rw [List.getElem?_set_ne (fun q => e q.symm), T.lk u hu]
      simp [e]
  hasq := T.hasq
  opn := fun u hu h1 h2 => by
    have := T.opn u hu h1 h2
    by_cases e : u = s
    · subst e
      have := h h1 h2
      simp
      omega
    · simpa [e] using this
  snd := T.snd
/-- a turn of the inner loop that finds s -/
theorem Tur.find (F : Fit g) (N : Needs g pre need) (T : Tur g pre need p q found lack pend D t done) (hb : s ∈ befo g t) (hd : s ∉ done) (h1 : is p s = true) (h2 : is found s = false) (h3 : (need s : Int) - (cnt g D s : Nat) - 1 ≤ 0) :
    Tur g pre need p q (found.set s true) (lack.set s ((need s : Int) - (cnt g D s : Nat) - 1)) (pend ++ [s]) D t (done ++ [s]) := by
  have hs := (mem_befo.mp hb).1
  have hsl : s < found.length := by rw [T.flen]; exact hs
  have hn : s ∉ pend ∧ s ≠ t ∧ s ∉ D := by
    have := T.sub s
    rw [h2] at this
    simp at this
    exact this
  have nd2 : (s :: (pend ++ t :: D)).Nodup := List.nodup_cons.mpr ⟨by simp [hn.1, hn.2.1, hn.2.2], T.nd⟩
  have ht : t ∉ D := by
    have := T.nd
    rw [List.nodup_append] at this
    exact (List.nodup_cons.mp this.2.1).1
  exact
  { flen := by rw [List.length_set]; exact T.flen
    llen := by rw [List.length_set]; exact T.llen
    sub := fun u => by
      rw [is_set _ _ _ _ hsl]
      by_cases e : u = s
      · subst e; simp
      · rw [if_neg e, T.sub u]; simp [e]
    nd := by
      have e : (pend ++ [s] ++ t :: D).Perm (s :: (pend ++ t :: D)) := by
        rw [List.append_assoc]
        exact List.perm_middle
      exact e.nodup_iff.mpr nd2
    lk := fun u hu => by
      by_cases e : u = s
      · subst e
        rw [List.getElem?_set_self (by rw [T.llen]; exact hs)]
        simp
      · rw [List.getElem?_set_ne (fun q => e q.symm), T.lk u hu]
        simp [e]
    hasq := fun a e => by
      rw [is_set _ _ _ _ hsl]
      split
      · rfl
      · exact T.hasq a e
    opn := fun u hu e1 e2 => by
      rw [is_set _ _ _ _ hsl] at e2
      by_cases e : u = s
      · rw [if_pos e] at e2; cases e2
      · rw [if_neg e] at e2
        simpa [e] using T.opn u hu e1 e2
    snd := fun Y c a e => by
      rw [is_set _ _ _ _ hsl] at e
      by_cases ea : a = s
      · subst ea
        have hF := T.snd Y c
        refine c a hs ?_
        have : pre Y a = true := (N Y a hs).mpr (by
          have e1 : cnt g (t :: D) a = cnt g D a + 1 := by rw [cnt_new F ht hs, if_pos hb]
          have e2 : cnt g (t :: D) a ≤ (g.next a).countP (is Y) := by
            unfold cnt
            refine countP_le _ fun x _ hx => hF x ((T.sub x).mpr ?_)
            have hx' : x ∈ t :: D := by simpa using hx
            rcases List.mem_cons.mp hx' with r | r
            · exact .inr (.inl r)
            · exact .inr (.inr r)
          omega)
        rw [h1, this]
        simp
      · rw [if_neg ea] at e
        exact T.snd Y c a e }
theorem Spr.fin (N : Needs g pre need) (m : Mono pre) (S : Spr g pre need p q found lack [] D) : found = till g pre p q := by
  refine till_is m S.flen (fun s hs e => ?_) S.snd
  cases h : is found s with
  | true => rfl
  | false =>
    exfalso
    rw [Bool.or_eq_true, Bool.and_eq_true] at e
    rcases e with e | ⟨e1, e2⟩
    · rw [S.hasq s e] at h; cases h
    · have h1 := S.opn s hs e1 h
      have h2 := (N _ s hs).mp e2
      have h3 : (g.next s).countP (is found) ≤ cnt g D s := by
        unfold cnt
        refine countP_le _ fun x _ hx => ?_
        have := (S.sub x).mp hx
        simpa using this
      omega
theorem nd_len : ∀ {l m : List Nat}, l.Nodup → (∀ x ∈ l, x ∈ m) → l.length ≤ m.length
  | [], _, _, _ => by simp
  | x :: l, m, h, k => by
    rw [List.nodup_cons] at h
    have hx := k x (List.mem_cons_self ..)
    have ih := nd_len (m := m.erase x) h.2 fun y hy => (List.mem_erase_of_ne (show y ≠ x from fun e => h.1 (by rw [← e]; exact hy))).mpr (k y (List.mem_cons_of_mem _ hy))
    rw [List.length_erase_of_mem hx] at ih
    have := List.length_pos_of_mem hx
    rw [List.length_cons]
    omega
/-- how many states are still to be taken -/
theorem Spr.room (S : Spr g pre need p q found lack pend D) : D.length + pend.length ≤ g.states := by
  have h1 : ∀ x ∈ pend ++ D, x ∈ List.range g.states := fun x hx => by
    rw [List.mem_range, ← S.flen]
    exact is_lt ((S.sub x).mpr (List.mem_append.mp hx))
  have h2 := nd_len S.nd h1
  rw [List.length_append, List.length_range] at h2
  omega
end
end Wm

set_option linter.all false
namespace Wm
open Ra13
/-! ### one round and its contrary -/
section
variable {g : Abs}
theorem is_not (x : Yes) {a : Nat} (h : a < x.length) : is (x.map fun b => !b) a = !is x a := by
  unfold is
  simp [List.getD_eq_getElem?_getD, h]
theorem each_true : (g.each fun _ => true) = List.replicate g.states true := by
  unfold Abs.each
  simp [List.map_const']
theorem any_not {x : Yes} : ∀ l : List Nat, (∀ b ∈ l, b < x.length) → l.any (is (x.map fun b => !b)) = !l.all (is x)
  | [], _ => rfl
  | b :: l, h => by
    rw [List.any_cons, List.all_cons, is_not x (h b (List.mem_cons_self ..)), any_not l fun c hc => h c (List.mem_cons_of_mem _ hc)]
    cases is x b <;> simp
theorem all_not {x : Yes} : ∀ l : List Nat, (∀ b ∈ l, b < x.length) → l.all (is (x.map fun b => !b)) = !l.any (is x)
  | [], _ => rfl
  | b :: l, h => by
    rw [List.any_cons, List.all_cons, is_not x (h b (List.mem_cons_self ..)), all_not l fun c hc => h c (List.mem_cons_of_mem _ hc)]
    cases is x b <;> simp
theorem rounds_not {f f' : Yes → Yes} (hl : ∀ x, (f x).length = g.states) (h : ∀ x : Yes, x.length = g.states → (f x).map (fun b => !b) = f' (x.map fun b => !b)) : ∀ (k : Nat) (x : Yes), x.length = g.states →
    (rounds f k x).map (fun b => !b) = rounds f' k (x.map fun b => !b)
  | 0, _, _ => rfl
  | k + 1, x, hx => by
    show (rounds f k (f x)).map (fun b => !b) = rounds f' k (f' (x.map fun b => !b))
    rw [rounds_not hl h k (f x) (hl x), h x hx]
theorem each_not (f : Nat → Bool) : (g.each f).map (fun b => !b) = g.each fun a => !f a := by
  unfold Abs.each
  simp
theorem stays_some (F : Fit g) {p : Yes} (hp : p.length = g.states) : (g.allTill (g.each fun _ => true) (p.map fun b => !b)).map (fun b => !b) = g.someStays p := by
  unfold Abs.allTill Abs.someStays
  rw [rounds_not (g := g) (f' := fun x => g.each fun a => is p a && g.some_ x a) (fun x => each_len g _) (fun x hx => ?_) _ _ (each_len g _), each_not]
  · rfl
  · rw [each_not]
    refine each_ext g fun a ha => ?_
    rw [is_not p (by rw [hp]; exact ha), is_each]
    unfold Abs.all_ Abs.some_
    rw [any_not _ fun b hb => by rw [hx]; exact next_lt F ha hb]
    cases is p a <;> simp [ha]
theorem stays_all (F : Fit g) {p : Yes} (hp : p.length = g.states) : (g.someTill (g.each fun _ => true) (p.map fun b => !b)).map (fun b => !b) = g.allStays p := by
  unfold Abs.someTill Abs.allStays
  rw [rounds_not (g := g) (f' := fun x => g.each fun a => is p a && g.all_ x a) (fun x => each_len g _) (fun x hx => ?_) _ _ (each_len g _), each_not]
  · rfl
  · rw [each_not]
    refine each_ext g fun a ha => ?_
    rw [is_not p (by rw [hp]; exact ha), is_each]
    unfold Abs.all_ Abs.some_
    rw [all_not _ fun b hb => by rw [hx]; exact next_lt F ha hb]
    cases is p a <;> simp [ha]
theorem someTill_len (p q : Yes) : (g.someTill p q).length = g.states := till_len
theorem allTill_len (p q : Yes) : (g.allTill p q).length = g.states := till_len
theorem not_eq {x : Yes} (hx : x.length = g.states) : (x.map fun b => !b) = g.each fun a => !is x a := by
  refine yes_ext (by rw [List.length_map, each_len, hx]) fun a ha => ?_
  rw [List.length_map] at ha
  rw [is_not x ha, is_each]
  simp [← hx, ha]
/-! ### formulas -/
def taken (c : Nat) : Option Nat := if c ≤ 64 then some 0 else if c ∈ [65, 70, 71, 72, 73, 74, 75] then some 1 else if c ∈ [66, 67, 76, 77] then some 2 else none
def f0 (c : Nat) : Formula := if c = 64 then .yes else .mark c
def f1 (c : Nat) (p : Formula) : Formula := if c = 65 then .no p else if c = 70 then .someNext p else if c = 71 then .allNext p else if c = 72 then .someOnce p else if c = 73 then .allOnce p else if c = 74 then .someEver p else .allEver p
def f2 (c : Nat) (p q : Formula) : Formula := if c = 66 then .both p q else if c = 67 then .one p q else if c = 76 then .someUntil p q else .allUntil p q
theorem byte_0 {c : Nat} (h : taken c = some 0) (r : List Formula) : byte c r = some (f0 c :: r) := by
  unfold taken at h
  by_cases h1 : c ≤ 64
  · unfold byte f0
    by_cases h2 : c < 64
    · rw [if_pos h2, if_neg (by omega)]
    · rw [if_neg h2, if_pos (by omega), if_pos (by omega)]
  · rw [if_neg h1] at h
    split at h
    · cases h
    · split at h <;> cases h
theorem taken_1 {c : Nat} (h : taken c = some 1) : c = 65 ∨ c = 70 ∨ c = 71 ∨ c = 72 ∨ c = 73 ∨ c = 74 ∨ c = 75 := by
  unfold taken at h
  split at h
  · cases h
  · split at h
    · rename_i m; simpa using m
    · split at h <;> cases h
theorem taken_2 {c : Nat} (h : taken c = some 2) : c = 66 ∨ c = 67 ∨ c = 76 ∨ c = 77 := by
  unfold taken at h
  split at h
  · cases h
  · split at h
    · cases h
    · split at h
      · rename_i m; simpa using m
      · cases h
theorem byte_1 {c : Nat} (h : taken c = some 1) (p : Formula) (r : List Formula) : byte c (p :: r) = some (f1 c p :: r) := by
  rcases taken_1 h with rfl | rfl | rfl | rfl | rfl | rfl | rfl <;> rfl
theorem byte_1n {c : Nat} (h : taken c = some 1) : byte c [] = none := by
  rcases taken_1 h with rfl | rfl | rfl | rfl | rfl | rfl | rfl <;> rfl
theorem byte_2 {c : Nat} (h : taken c = some 2) (p q : Formula) (r : List Formula) : byte c (q :: p :: r) = some (f2 c p q :: r) := by
  rcases taken_2 h with rfl | rfl | rfl | rfl <;> rfl
theorem byte_2n {c : Nat} (h : taken c = some 2) {l : List Formula} (hl : l.length < 2) : byte c l = none := by
  match l, hl with
  | [], _ => rcases taken_2 h with rfl | rfl | rfl | rfl <;> rfl
  | [p], _ => rcases taken_2 h with rfl | rfl | rfl | rfl <;> rfl
theorem byte_n {c : Nat} (h : taken c = none) (l : List Formula) : byte c l = none := by
  unfold taken at h
  split at h
  · cases h
  · rename_i h1
    split at h
    · cases h
    · rename_i h2
      split at h
      · cases h
      · rename_i h3
        simp at h2 h3
        unfold byte
        rw [if_neg (by omega), if_neg (by omega)]
        split <;> first | rfl | (exfalso; omega)
theorem taken_le {c k : Nat} (h : taken c = some k) : k = 0 ∨ k = 1 ∨ k = 2 := by
  unfold taken at h
  split at h
  · cases h; exact .inl rfl
  · split at h
    · cases h; exact .inr (.inl rfl)
    · split at h
      · cases h; exact .inr (.inr rfl)
      · cases h
/-- a byte that fits the pile -/
theorem byte_ok {c k : Nat} (h : taken c = some k) {l : List Formula} (hl : k ≤ l.length) : ∃ l', byte c l = some l' ∧ l'.length = l.length - k + 1 := by
  rcases taken_le h with rfl | rfl | rfl
  · exact ⟨_, byte_0 h l, by simp⟩
  · match l, hl with
    | p :: r, _ => exact ⟨_, byte_1 h p r, by simp⟩
  · match l, hl with
    | q :: p :: r, _ => exact ⟨_, byte_2 h p q r, by simp⟩
theorem byte_bad {c k : Nat} (h : taken c = some k) {l : List Formula} (hl : l.length < k) : byte c l = none := by
  rcases taken_le h with rfl | rfl | rfl
  · omega
  · match l, hl with
    | [], _ => exact byte_1n h
  · exact byte_2n h hl
theorem readFrom_app : ∀ (a b : Bytes) (l : List Formula), readFrom l (a ++ b) = (readFrom l a).bind fun m => readFrom m b
  | [], b, l => rfl
  | c :: a, b, l => by
    show (byte c l).bind (fun m => readFrom m (a ++ b)) = ((byte c l).bind fun m => readFrom m a).bind fun m => readFrom m b
    cases byte c l with
    | none => rfl
    | some m => exact readFrom_app a b m
theorem readFrom_snoc (a : Bytes) (c : Nat) (l : List Formula) : readFrom l (a ++ [c]) = (readFrom l a).bind fun m => byte c m := by
  rw [readFrom_app]
  congr
  funext m
  show (byte c m).bind (fun m => some m) = byte c m
  cases byte c m <;> rfl
theorem read_some {b : Bytes} {p : Formula} (h : read b = some p) : readFrom [] b = some [p] := by
  unfold Ra13.read at h
  split at h
  · rename_i q e
    rw [e]
    cases h
    rfl
  · cases h
theorem read_one {b : Bytes} {l : List Formula} (h : readFrom [] b = some l) : (read b).isSome = decide (l.length = 1) := by
  unfold Ra13.read
  rw [h]
  match l with
  | [] => rfl
  | [p] => rfl
  | _ :: _ :: _ => simp
theorem read_bad {b : Bytes} (h : readFrom [] b = none) : read b = none := by
  unfold Ra13.read
  rw [h]
theorem taken_get {l : Bytes} {i c : Nat} (h : l[i]? = some c) : l.take (i + 1) = l.take i ++ [c] := by
  rw [List.take_add_one, h]
  rfl
/-- a formula's parts are all read -/
theorem read_pre {b : Bytes} {p : Formula} (h : read b = some p) (i : Nat) : ∃ l, readFrom [] (b.take i) = some l := by
  have := read_some h
  rw [← List.take_append_drop i b, readFrom_app] at this
  cases e : readFrom [] (b.take i) with
  | none => rw [e] at this; cases this
  | some l => exact ⟨l, rfl⟩
/-! ### the answers of formulas -/
theorem yes_len : ∀ f : Formula, (g.yes f).length = g.states
  | .mark _ => each_len g _
  | .yes => each_len g _
  | .no _ => each_len g _
  | .both _ _ => each_len g _
  | .one _ _ => each_len g _
  | .someNext _ => each_len g _
  | .allNext _ => each_len g _
  | .someOnce _ => till_len
  | .allOnce _ => till_len
  | .someEver _ => by
    show (rounds _ (g.states + 1) (g.each _)).length = _
    exact each_len_rounds _ (fun x => each_len g _) _ _ (each_len g _)
  | .allEver _ => by
    show (rounds _ (g.states + 1) (g.each _)).length = _
    exact each_len_rounds _ (fun x => each_len g _) _ _ (each_len g _)
  | .someUntil _ _ => till_len
  | .allUntil _ _ => till_len
where
  each_len_rounds (f : Yes → Yes) (hf : ∀ x, (f x).length = g.states) : ∀ (k : Nat) (x : Yes), x.length = g.states → (rounds f k x).length = g.states
    | 0, _, h => h
    | k + 1, x, _ => each_len_rounds f hf k (f x) (hf x)
variable (g) in
def of1 (c : Nat) (x : Yes) : Yes :=
  if c = 65 then x.map (fun b => !b) else if c = 70 then g.each (g.some_ x) else if c = 71 then g.each (g.all_ x) else if c = 72 then g.someTill (g.each fun _ => true) x else if c = 73 then g.allTill (g.each fun _ => true) x
  else if c = 74 then (g.allTill (g.each fun _ => true) (x.map fun b => !b)).map (fun b => !b) else (g.someTill (g.each fun _ => true) (x.map fun b => !b)).map (fun b => !b)
variable (g) in
def of2 (c : Nat) (x y : Yes) : Yes :=
  if c = 66 then g.each (fun a => is x a && is y a) else if c = 67 then g.each (fun a => is x a || is y a) else if c = 76 then g.someTill x y else g.allTill x y
theorem yes_f1 (F : Fit g) {c : Nat} (h : taken c = some 1) (p : Formula) : g.yes (f1 c p) = of1 g c (g.yes p) := by
  have hl := yes_len (g := g) p
  rcases taken_1 h with rfl | rfl | rfl | rfl | rfl | rfl | rfl
  · show (g.each fun a => !is (g.yes p) a) = (g.yes p).map fun b => !b
    rw [not_eq hl]
  · rfl
  · rfl
  · rfl
  · rfl
  · exact (stays_some F hl).symm
  · exact (stays_all F hl).symm
theorem yes_f2 {c : Nat} (h : taken c = some 2) (p q : Formula) : g.yes (f2 c p q) = of2 g c (g.yes p) (g.yes q) := by
  rcases taken_2 h with rfl | rfl | rfl | rfl <;> rfl
end
end Wm

set_option linter.all false
namespace Wm
open Ra13
/-! ### how far it is -/
section
def dd (d : Far) (u : Nat) : Option Nat := d.getD u none
def bestF (d : Far) (b : Option Nat) (u : Nat) : Option Nat := match b, dd d u with
  | some x, some y => some (min x (y + 1))
  | none, some y => some (y + 1)
  | b, none => b
theorem best_from (d : Far) : ∀ (l : List Nat) (b : Option Nat), match l.foldl (bestF d) b with
    | none => b = none ∧ ∀ u ∈ l, dd d u = none
    | some m => (b = some m ∨ ∃ u ∈ l, ∃ y, dd d u = some y ∧ m = y + 1) ∧ (∀ x, b = some x → m ≤ x) ∧ ∀ u ∈ l, ∀ y, dd d u = some y → m ≤ y + 1
  | [], b => by
    cases b with
    | none => simp
    | some x => simp
  | u :: l, b => by
    have ih := best_from d l (bestF d b u)
    rw [List.foldl_cons]
    cases e : l.foldl (bestF d) (bestF d b u) with
    | none =>
      rw [e] at ih
      obtain ⟨h1, h2⟩ := ih
      have h3 : b = none ∧ dd d u = none := by
        unfold bestF at h1
        cases hb : b with
        | none =>
          rw [hb] at h1
          cases hd : dd d u with
          | none => exact ⟨rfl, rfl⟩
          | some y => rw [hd] at h1; cases h1
        | some x =>
          rw [hb] at h1
          cases hd : dd d u with
          | none => rw [hd] at h1; cases h1
          | some y => rw [hd] at h1; cases h1
      exact ⟨h3.1, fun v hv => by
        rcases List.mem_cons.mp hv with rfl | hv
        · exact h3.2
        · exact h2 v hv⟩
    | some m =>
      rw [e] at ih
      obtain ⟨h1, h2, h3⟩ := ih
      have k : ∀ v, v ∈ u :: l → ∀ y, dd d v = some y → m ≤ y + 1 := fun v hv y hy => by
        rcases List.mem_cons.mp hv with rfl | hv
        · unfold bestF at h2
          rw [hy] at h2
          cases b with
          | none => exact h2 _ rfl
          | some x => exact Nat.le_trans (h2 _ rfl) (Nat.min_le_right ..)
        · exact h3 v hv y hy
      refine ⟨?_, ?_, k⟩
      · rcases h1 with h1 | ⟨v, hv, y, hy, hm⟩
        · unfold bestF at h1
          cases hb : b with
          | none =>
            rw [hb] at h1
            cases hd : dd d u with
            | none => rw [hd] at h1; cases h1
            | some y =>
              rw [hd] at h1
              exact .inr ⟨u, List.mem_cons_self .., y, hd, (Option.some.inj h1).symm⟩
          | some x =>
            rw [hb] at h1
            cases hd : dd d u with
            | none => rw [hd] at h1; exact .inl h1
            | some y =>
              rw [hd] at h1
              have h1' : min x (y + 1) = m := Option.some.inj h1
              by_cases c : x ≤ y + 1
              · exact .inl (by rw [← h1', Nat.min_eq_left c])
              · exact .inr ⟨u, List.mem_cons_self .., y, hd, by rw [← h1', Nat.min_eq_right (by omega)]⟩
        · exact .inr ⟨v, List.mem_cons_of_mem _ hv, y, hy, hm⟩
      · intro x hx
        subst hx
        unfold bestF at h2
        cases hd : dd d u with
        | none => rw [hd] at h2; exact h2 _ rfl
        | some y => rw [hd] at h2; exact Nat.le_trans (h2 _ rfl) (Nat.min_le_left ..)
variable {g : Abs} {p q : Yes}
def best (d : Far) (l : List Nat) : Option Nat := l.foldl (bestF d) none
theorem best_none {d : Far} {l : List Nat} (h : best d l = none) : ∀ u ∈ l, dd d u = none := by
  have := best_from d l none
  unfold best at h
  rw [h] at this
  exact this.2
theorem best_some {d : Far} {l : List Nat} {m : Nat} (h : best d l = some m) : (∃ u ∈ l, ∃ y, dd d u = some y ∧ m = y + 1) ∧ ∀ u ∈ l, ∀ y, dd d u = some y → m ≤ y + 1 := by
  have := best_from d l none
  unfold best at h
  rw [h] at this
  obtain ⟨h1, h2, h3⟩ := this
  rcases h1 with h1 | h1
  · cases h1
  · exact ⟨h1, h3⟩
theorem best_of {d : Far} {l : List Nat} {u y : Nat} (hu : u ∈ l) (hy : dd d u = some y) : ∃ m, best d l = some m := by
  cases e : best d l with
  | none => rw [best_none e u hu] at hy; cases hy
  | some m => exact ⟨m, rfl⟩
theorem far_len (d : Far) : (g.farRound p q d).length = g.states := by simp [Abs.farRound]
theorem far_at (d : Far) {a : Nat} (ha : a < g.states) : dd (g.farRound p q d) a = if is q a = true then some 0 else if is p a = false then none else best d (succ g a) := by
  unfold dd Abs.farRound
  rw [List.getD_eq_getElem?_getD, List.getElem?_map, List.getElem?_range ha]
  show (if is q a = true then some 0 else if is p a = false then none else _) = _
  unfold best succ
  rw [List.foldl_map]
  rfl
theorem range_iter {α : Type} (f : α → α) (x : α) : ∀ k, (List.range k).foldl (fun d _ => f d) x = iter f k x
  | 0 => rfl
  | k + 1 => by rw [List.range_succ, List.foldl_append, range_iter f x k]; rfl
variable (g p q) in
def fr (k : Nat) : Far := iter (g.farRound p q) k ((List.range g.states).map fun _ => none)
theorem far_eq : g.far p q = fr g p q (g.states + 1) := range_iter _ _ _
theorem fr_len : ∀ k, (fr g p q k).length = g.states
  | 0 => by simp [fr, iter]
  | k + 1 => far_len _
theorem fr_none {a : Nat} : dd (fr g p q 0) a = none := by
  show ((List.range g.states).map fun _ => (none : Option Nat)).getD a none = none
  rw [List.getD_eq_getElem?_getD, List.getElem?_map]
  cases (List.range g.states)[a]? <;> rfl
theorem fr_succ {a : Nat} (k : Nat) (ha : a < g.states) : dd (fr g p q (k + 1)) a = if is q a = true then some 0 else if is p a = false then none else best (fr g p q k) (succ g a) := far_at _ ha
theorem fr_key (F : Fit g) : ∀ k a, a < g.states → (∀ x, dd (fr g p q k) a = some x → x < k ∧ dd (fr g p q (k + 1)) a = some x) ∧ (dd (fr g p q k) a = none → ∀ x, dd (fr g p q (k + 1)) a = some x → x = k)
  | 0, a, ha => by
    refine ⟨fun x h => (by rw [fr_none] at h; cases h), fun _ x h => ?_⟩
    rw [fr_succ 0 ha] at h
    split at h
    · cases h; rfl
    · split at h
      · cases h
      · obtain ⟨⟨u, _, y, hy, _⟩, _⟩ := best_some h
        rw [fr_none] at hy
        cases hy
  | k + 1, a, ha => by
    have ih := fun u (hu : u ∈ succ g a) => fr_key F k u (succ_lt F hu)
    rw [fr_succ k ha, fr_succ (k + 1) ha]
    by_cases hq : is q a = true
    · rw [if_pos hq, if_pos hq]
      refine ⟨fun x h => ?_, fun h => (by cases h)⟩
      cases h
      exact ⟨Nat.succ_pos _, rfl⟩
    · rw [if_neg hq, if_neg hq]
      by_cases hp : is p a = false
      · rw [if_pos hp, if_pos hp]
        exact ⟨fun x h => (by cases h), fun _ x h => (by cases h)⟩
      · rw [if_neg hp, if_neg hp]
        refine ⟨fun x h => ?_, fun h x h2 => ?_⟩
        · obtain ⟨⟨u, hu, y, hy, rfl⟩, least⟩ := best_some h
          obtain ⟨h1, h2⟩ := (ih u hu).1 y hy
          refine ⟨by omega, ?_⟩
          obtain ⟨m, hm⟩ := best_of hu h2
          obtain ⟨⟨v, hv, z, hz, rfl⟩, least2⟩ := best_some hm
          have l2 := least2 u hu y h2
          rw [hm]
          cases e : dd (fr g p q k) v with
          | none =>
            have := (ih v hv).2 e z hz
            omega
          | some z' =>
            have := ((ih v hv).1 z' e).2
            rw [hz] at this
            cases this
            have := least v hv z e
            exact congrArg some (by omega)
        · obtain ⟨⟨v, hv, z, hz, rfl⟩, _⟩ := best_some h2
          have := (ih v hv).2 (best_none h v hv) z hz
          omega
theorem dd_get {d : Far} {i : Nat} {x : Option Nat} (h : d[i]? = some x) : dd d i = x := by
  unfold dd; rw [List.getD_eq_getElem?_getD, h]; rfl
theorem get_dd {d : Far} {i : Nat} (h : i < d.length) : d[i]? = some (dd d i) := by
  unfold dd; simp [List.getD_eq_getElem?_getD, h]
theorem far_fix (F : Fit g) : g.farRound p q (g.far p q) = g.far p q := by
  have h := iter_stable (α := Option Nat) Option.isSome (fun a b ha hb => by cases a <;> cases b <;> simp_all) (g.farRound p q) ((List.range g.states).map fun _ => none) (fun k => ⟨by
      show (fr g p q k).length = (fr g p q (k + 1)).length
      rw [fr_len, fr_len], fun i a e o => by
      have e' : (fr g p q k)[i]? = some a := e
      have hi : i < g.states := by
        have := (List.getElem?_eq_some_iff.mp e').1
        rw [fr_len] at this
        exact this
      cases a with
      | none => cases o
      | some x =>
        have := ((fr_key (p := p) (q := q) F k i hi).1 x (dd_get e')).2
        show (fr g p q (k + 1))[i]? = some (some x)
        rw [get_dd (by rw [fr_len]; exact hi), this]⟩)
  rw [far_eq]
  have e : ((List.range g.states).map fun _ => (none : Option Nat)).length = g.states := by simp
  rw [e] at h
  exact h
variable (g p q) in
/-- how far a state is from one that has q -/
def ds (a : Nat) : Option Nat := dd (g.far p q) a
theorem ds_eq (F : Fit g) {a : Nat} (ha : a < g.states) : ds g p q a = if is q a = true then some 0 else if is p a = false then none else best (g.far p q) (succ g a) := by
  unfold ds
  conv => lhs; rw [← far_fix F]
  exact far_at _ ha
theorem ds_zero (F : Fit g) {a : Nat} (ha : a < g.states) : ds g p q a = some 0 ↔ is q a = true := by
  rw [ds_eq F ha]
  constructor
  · intro h
    split at h
    · assumption
    · split at h
      · cases h
      · obtain ⟨⟨u, _, y, _, e⟩, _⟩ := best_some h
        omega
  · intro h
    rw [if_pos h]
theorem ds_edge (F : Fit g) {a b y : Nat} (ha : a < g.states) (hp : is p a = true) (hb : b ∈ succ g a) (hy : ds g p q b = some y) : ∃ x, ds g p q a = some x ∧ x ≤ y + 1 := by
  rw [ds_eq F ha]
  split
  · exact ⟨0, rfl, Nat.zero_le _⟩
  · rw [if_neg (by rw [hp]; simp)]
    obtain ⟨m, hm⟩ := best_of hb hy
    exact ⟨m, hm, (best_some hm).2 b hb y hy⟩
theorem ds_back (F : Fit g) {a k : Nat} (ha : a < g.states) (h : ds g p q a = some (k + 1)) : is p a = true ∧ is q a = false ∧ ∃ b ∈ succ g a, ds g p q b = some k := by
  rw [ds_eq F ha] at h
  split at h
  · cases h
  · rename_i hq
    split at h
    · cases h
    · rename_i hp
      obtain ⟨⟨u, hu, y, hy, e⟩, _⟩ := best_some h
      have : y = k := by omega
      subst this
      exact ⟨by simpa using hp, by simpa using hq, u, hu, hy⟩
theorem ds_lt (F : Fit g) {a k : Nat} (ha : a < g.states) (h : ds g p q a = some k) : k < g.states + 1 := by
  unfold ds at h
  rw [far_eq] at h
  exact ((fr_key F _ a ha).1 k h).1
/-! ### the row that is told -/
theorem fold_min : ∀ (l : List Nat) (x : Nat), (l.foldl min x = x ∨ l.foldl min x ∈ l) ∧ l.foldl min x ≤ x ∧ ∀ y ∈ l, l.foldl min x ≤ y
  | [], x => by simp
  | z :: l, x => by
    obtain ⟨h1, h2, h3⟩ := fold_min l (min x z)
    rw [List.foldl_cons]
    refine ⟨?_, Nat.le_trans h2 (Nat.min_le_left ..), fun y hy => ?_⟩
    · rcases h1 with h1 | h1
      · rw [h1]
        by_cases c : x ≤ z
        · exact .inl (Nat.min_eq_left c)
        · exact .inr (by rw [Nat.min_eq_right (by omega)]; exact List.mem_cons_self ..)
      · exact .inr (List.mem_cons_of_mem _ h1)
    · rcases List.mem_cons.mp hy with rfl | hy
      · exact Nat.le_trans h2 (Nat.min_le_right ..)
      · exact h3 y hy
theorem least_mem {l : List Nat} {b : Nat} (h : leastOf l = some b) : b ∈ l ∧ ∀ y ∈ l, b ≤ y := by
  cases l with
  | nil => cases h
  | cons x r =>
    have e : r.foldl min x = b := Option.some.inj h
    obtain ⟨h1, h2, h3⟩ := fold_min r x
    rw [e] at h1 h2 h3
    refine ⟨?_, fun y hy => ?_⟩
    · rcases h1 with h1 | h1
      · rw [h1]; exact List.mem_cons_self ..
      · exact List.mem_cons_of_mem _ h1
    · rcases List.mem_cons.mp hy with rfl | hy
      · exact h2
      · exact h3 y hy
theorem least_some {l : List Nat} {b : Nat} (h : b ∈ l) : ∃ m, leastOf l = some m := by
  cases l with
  | nil => cases h
  | cons x r => exact ⟨_, rfl⟩
theorem mem_cand {d : Far} {a b k : Nat} : b ∈ (g.edges.filter fun e => e.1 == a && d.getD e.2 none == some k).map (fun e => e.2) ↔ b ∈ succ g a ∧ dd d b = some k := by
  rw [List.mem_map]
  constructor
  · rintro ⟨e, h, rfl⟩
    rw [List.mem_filter, Bool.and_eq_true] at h
    have h1 := eq_of_beq h.2.1
    have h2 := eq_of_beq h.2.2
    subst h1
    exact ⟨mem_succ.mpr h.1, h2⟩
  · rintro ⟨h1, h2⟩
    refine ⟨(a, b), ?_, rfl⟩
    rw [List.mem_filter]
    exact ⟨mem_succ.mp h1, by show ((a == a) && (d.getD b none == some k)) = true; unfold dd at h2; rw [h2]; simp⟩
/-- one step of the row: the least that is one nearer -/
theorem row_step (F : Fit g) {a k : Nat} (ha : a < g.states) (h : ds g p q a = some (k + 1)) : ∃ b, b ∈ succ g a ∧ ds g p q b = some k ∧ (∀ c ∈ succ g a, ds g p q c = some k → b ≤ c) ∧ g.rowFrom (g.far p q) (k + 1) a = a :: g.rowFrom (g.far p q) k b := by
  obtain ⟨_, _, b0, h1, h2⟩ := ds_back F ha h
  obtain ⟨b, hb⟩ := least_some (mem_cand.mpr ⟨h1, h2⟩ : b0 ∈ (g.edges.filter fun e => e.1 == a && (g.far p q).getD e.2 none == some k).map fun e => e.2)
  obtain ⟨h3, h4⟩ := least_mem hb
  obtain ⟨h5, h6⟩ := mem_cand.mp h3
  refine ⟨b, h5, h6, fun c hc hd => h4 c (mem_cand.mpr ⟨hc, hd⟩), ?_⟩
  show a :: (match leastOf _ with
    | some b => g.rowFrom (g.far p q) k b
    | none => []) = _
  rw [hb]
theorem row_len {d : Far} : ∀ (k a : Nat), (g.rowFrom d k a).length ≤ k + 1
  | 0, _ => by simp [Abs.rowFrom]
  | k + 1, a => by
    show (a :: (match leastOf _ with
      | some b => g.rowFrom d k b
      | none => [])).length ≤ _
    rw [List.length_cons]
    split
    · have := row_len (d := d) k (by assumption)
      omega
    · simp
end
end Wm

set_option linter.all false
namespace Wm
open Ra13
/-! ### layer by layer -/
section
abbrev Came := List (Nat × Option Nat)
def keys (c : Came) : List Nat := c.map (·.1)
def visit (cf : Came × List Nat) (e : Nat × Nat) : Came × List Nat := if e.2 ∈ keys cf.1 then cf else (cf.1 ++ [(e.2, some e.1)], cf.2 ++ [e.2])
variable (g : Abs) in
def srt (a : Nat) : List Nat := (succ g a).mergeSort fun a b => decide (a ≤ b)
variable (g : Abs) in
def pairs (l : List Nat) : List (Nat × Nat) := l.flatMap fun a => (srt g a).map fun b => (a, b)
variable (g : Abs) in
def nextL (c : Came) (l : List Nat) : Came × List Nat := (pairs g l).foldl visit (c, [])
variable {g : Abs} {p q : Yes}
theorem srt_perm (a : Nat) : (srt g a).Perm (succ g a) := List.mergeSort_perm _ _
theorem mem_srt {a b : Nat} : b ∈ srt g a ↔ b ∈ succ g a := (srt_perm a).mem_iff
theorem srt_le (a : Nat) : (srt g a).Pairwise (· ≤ ·) := by
  have := List.pairwise_mergeSort (le := fun a b : Nat => decide (a ≤ b)) (fun a b c h1 h2 => by simp at *; omega) (fun a b => by simp; omega) (succ g a)
  exact this.imp fun h => by simpa using h
theorem srt_nd (F : Fit g) (a : Nat) : (srt g a).Nodup := (srt_perm a).nodup_iff.mpr (succ_nd F a)
/-- sorted in just one way -/
theorem srt_ints {a : Nat} {ns : List Int} (h : ns.Perm ((succ g a).map fun x : Nat => (x : Int))) (hs : ns.Pairwise (· ≤ ·)) : ns = (srt g a).map fun x : Nat => (x : Int) := by
  refine List.Perm.eq_of_pairwise (le := (· ≤ ·)) (fun x y _ _ h1 h2 => Int.le_antisymm h1 h2) hs ?_ (h.trans ((srt_perm a).map _).symm)
  rw [List.pairwise_map]
  exact (srt_le a).imp fun h => by omega
theorem mem_pairs {l : List Nat} {a b : Nat} : (a, b) ∈ pairs g l ↔ a ∈ l ∧ b ∈ succ g a := by
  unfold pairs
  rw [List.mem_flatMap]
  constructor
  · rintro ⟨x, hx, h⟩
    rw [List.mem_map] at h
    obtain ⟨y, hy, e⟩ := h
    cases e
    exact ⟨hx, mem_srt.mp hy⟩
  · rintro ⟨h1, h2⟩
    exact ⟨a, h1, List.mem_map.mpr ⟨b, mem_srt.mpr h2, rfl⟩⟩
theorem keys_app (c d : Came) : keys (c ++ d) = keys c ++ keys d := by simp [keys]
/-- what is visited is only added -/
theorem visit_all : ∀ (es : List (Nat × Nat)) (c : Came) (f : List Nat), (keys c).Nodup → ∃ new : Came, es.foldl visit (c, f) = (c ++ new, f ++ keys new) ∧ (∀ e ∈ new, ∃ a, e.2 = some a ∧ (a, e.1) ∈ es) ∧ (keys (c ++ new)).Nodup
  | [], c, f, h => ⟨[], by simp [keys], fun e he => (by cases he), by simpa using h⟩
  | e :: es, c, f, h => by
    rw [List.foldl_cons]
    by_cases m : e.2 ∈ keys c
    · have ev : visit (c, f) e = (c, f) := if_pos m
      rw [ev]
      obtain ⟨new, h1, h2, h3⟩ := visit_all es c f h
      exact ⟨new, h1, fun x hx => let ⟨a, e1, e2⟩ := h2 x hx; ⟨a, e1, List.mem_cons_of_mem _ e2⟩, h3⟩
    · have ev : visit (c, f) e = (c ++ [(e.2, some e.1)], f ++ [e.2]) := if_neg m
      rw [ev]
      have nd : (keys (c ++ [(e.2, some e.1)])).Nodup := by
        rw [keys_app, List.nodup_append]
        refine ⟨h, by simp [keys], fun x hx y hy => ?_⟩
        simp [keys] at hy
        subst hy
        intro z
        subst z
        exact m hx
      obtain ⟨new, h1, h2, h3⟩ := visit_all es _ (f ++ [e.2]) nd
      refine ⟨(e.2, some e.1) :: new, ?_, fun x hx => ?_, ?_⟩
      · rw [h1]
        simp [keys]
      · rcases List.mem_cons.mp hx with rfl | hx
        · exact ⟨e.1, rfl, List.mem_cons_self ..⟩
        · obtain ⟨a, e1, e2⟩ := h2 x hx
          exact ⟨a, e1, List.mem_cons_of_mem _ e2⟩
      · simpa using h3
def Chain (c : Came) : List Nat → Prop
  | [] => False
  | [x] => (x, none) ∈ c
  | x :: y :: r => (x, some y) ∈ c ∧ Chain c (y :: r)
theorem Chain.mono {c d : Came} (h : ∀ e ∈ c, e ∈ d) : ∀ {l : List Nat}, Chain c l → Chain d l
  | [x], k => h _ k
  | x :: y :: r, k => ⟨h _ k.1, Chain.mono h (l := y :: r) k.2⟩
variable (g p q) in
/-- between two layers: s the first state -/
structure Bf (s : Nat) (came : Came) (layer : List Nat) : Prop where
  nd : (keys came).Nodup
  lt : ∀ u ∈ keys came, u < g.states
  sub : ∀ v ∈ layer, v ∈ keys came
  non : ds g p q s = none → ∀ u ∈ keys came, ds g p q u = none
  way : ∀ k, ds g p q s = some k → ∃ j pre A w C, layer = A ++ w :: C ∧ (∀ u ∈ keys came, ∀ y, ds g p q u = some y → j ≤ y) ∧ (∀ v ∈ A, ds g p q v ≠ some j) ∧ ds g p q w = some j ∧
    Chain came (w :: pre.reverse) ∧ g.rowFrom (g.far p q) k s = pre ++ g.rowFrom (g.far p q) j w
theorem Bf.begin {s : Nat} (hs : s < g.states) : Bf g p q s [(s, none)] [s] where
  nd := by simp [keys]
  lt := fun u hu => by simp [keys] at hu; omega
  sub := fun v hv => by simpa [keys] using hv
  non := fun h u hu => by simp [keys] at hu; rw [hu]; exact h
  way := fun k h => ⟨k, [], [], s, [], rfl, fun u hu y hy => by simp [keys] at hu; rw [hu, h] at hy; cases hy; exact Nat.le_refl _, fun v hv => (by cases hv), h, List.mem_singleton.mpr rfl, rfl⟩
theorem Bf.len {s : Nat} {c : Came} {l : List Nat} (B : Bf g p q s c l) : c.length ≤ g.states := by
  have := nd_len B.nd (m := List.range g.states) fun x hx => List.mem_range.mpr (B.lt x hx)
  simpa [keys] using this
/-- a state of the layer has q -/
theorem Bf.hit (F : Fit g) {s : Nat} {c : Came} {l : List Nat} (B : Bf g p q s c l) {e : Nat} {r : List Nat} (h : l.filter (is q) = e :: r) :
    ∃ k pre, ds g p q s = some k ∧ Chain c (e :: pre.reverse) ∧ g.rowFrom (g.far p q) k s = pre ++ [e] := by
  have he : e ∈ l.filter (is q) := by rw [h]; exact List.mem_cons_self ..
  rw [List.mem_filter] at he
  have lt := B.lt e (B.sub e he.1)
  have z := (ds_zero (p := p) F lt).mpr he.2
  cases hs : ds g p q s with
  | none => rw [B.non hs e (B.sub e he.1)] at z; cases z
  | some k =>
    obtain ⟨j, pre, A, w, C, rfl, h1, h2, h3, h4, h5⟩ := B.way k hs
    have : j = 0 := by have := h1 e (B.sub e he.1) 0 z; omega
    subst this
    have lw := B.lt w (B.sub w (by simp))
    have hw := (ds_zero (p := p) F lw).mp h3
    have hA : A.filter (is q) = [] := List.filter_eq_nil_iff.mpr fun v hv hq => h2 v hv ((ds_zero (p := p) F (B.lt v (B.sub v (by simp [hv])))).mpr hq)
    rw [List.filter_append, hA, List.filter_cons, if_pos hw] at h
    have e1 : w = e := (List.cons.inj h).1
    subst e1
    exact ⟨k, pre, rfl, h4, h5⟩
/-- none has q -/
theorem Bf.miss (F : Fit g) {s : Nat} {c : Came} {l : List Nat} (B : Bf g p q s c l) (h : l.filter (is q) = []) :
    Bf g p q s (nextL g c (l.filter (is p))).1 (nextL g c (l.filter (is p))).2 ∧ (nextL g c (l.filter (is p))).1.length = c.length + (nextL g c (l.filter (is p))).2.length := by
  obtain ⟨new, e1, e2, e3⟩ := visit_all (pairs g (l.filter (is p))) c [] B.nd
  have e1' : nextL g c (l.filter (is p)) = (c ++ new, keys new) := by unfold nextL; rw [e1]; simp
  have from_ : ∀ u, u ∈ keys new → ∃ a, a ∈ l ∧ is p a = true ∧ u ∈ succ g a := fun u hu => by
    unfold keys at hu
    rw [List.mem_map] at hu
    obtain ⟨e, he, rfl⟩ := hu
    obtain ⟨a, _, h2⟩ := e2 e he
    obtain ⟨h3, h4⟩ := mem_pairs.mp h2
    rw [List.mem_filter] at h3
    exact ⟨a, h3.1, h3.2, h4⟩
  rw [e1']
  refine ⟨⟨e3, fun u hu => ?_, fun v hv => by rw [keys_app]; exact List.mem_append_right _ hv, fun hs u hu => ?_, fun k hs => ?_⟩, by simp [keys]⟩
  · rw [keys_app, List.mem_append] at hu
    rcases hu with hu | hu
    · exact B.lt u hu
    · obtain ⟨a, _, _, h3⟩ := from_ u hu
      exact succ_lt F h3
  · rw [keys_app, List.mem_append] at hu
    rcases hu with hu | hu
    · exact B.non hs u hu
    · obtain ⟨a, h1, h2, h3⟩ := from_ u hu
      cases e : ds g p q u with
      | none => rfl
      | some y =>
        obtain ⟨x, hx, _⟩ := ds_edge F (B.lt a (B.sub a h1)) h2 h3 e
        rw [B.non hs a (B.sub a h1)] at hx
        cases hx
  · obtain ⟨j, pre, A, w, C, hl, h1, h2, h3, h4, h5⟩ := B.way k hs
    have wl : w ∈ l := by rw [hl]; simp
    have lw := B.lt w (B.sub w wl)
    cases j with
    | zero =>
      have : w ∈ l.filter (is q) := List.mem_filter.mpr ⟨wl, (ds_zero (p := p) F lw).mp h3⟩
      rw [h] at this
      cases this
    | succ j =>
      obtain ⟨b, b1, b2, b3, b4⟩ := row_step F lw h3
      have pw := (ds_back F lw h3).1
      obtain ⟨S1, S2, hS⟩ := List.append_of_mem (mem_srt.mpr b1)
      have hS1 : ∀ u ∈ S1, ds g p q u ≠ some j := fun u hu hd => by
        have i1 : u ∈ succ g w := mem_srt.mp (by rw [hS]; exact List.mem_append_left _ hu)
        have i2 := b3 u i1 hd
        have i3 := srt_le (g := g) w
        rw [hS, List.pairwise_append] at i3
        have i4 := i3.2.2 u hu b (List.mem_cons_self ..)
        have i5 : u = b := by omega
        have i6 := srt_nd F w
        rw [hS, List.nodup_append] at i6
        exact i6.2.2 u hu b (List.mem_cons_self ..) i5
      have hsplit : pairs g (l.filter (is p)) = (pairs g (A.filter (is p)) ++ S1.map fun u => (w, u)) ++ (w, b) :: ((S2.map fun u => (w, u)) ++ pairs g (C.filter (is p))) := by
        unfold pairs
        rw [hl, List.filter_append, List.filter_cons, if_pos pw, List.flatMap_append, List.flatMap_cons, hS]
        simp
      have hP1 : ∀ e ∈ pairs g (A.filter (is p)) ++ S1.map (fun u => (w, u)), ds g p q e.2 ≠ some j := fun e he => by
        rw [List.mem_append] at he
        rcases he with he | he
        · obtain ⟨a, u⟩ := e
          obtain ⟨i1, i2⟩ := mem_pairs.mp he
          rw [List.mem_filter] at i1
          intro hd
          have ml : a ∈ l := by rw [hl]; exact List.mem_append_left _ i1.1
          obtain ⟨x, hx, hle⟩ := ds_edge F (B.lt a (B.sub a ml)) i1.2 i2 hd
          have i3 := h1 a (B.sub a ml) x hx
          have : x = j + 1 := by omega
          subst this
          exact h2 a i1.1 hx
        · rw [List.mem_map] at he
          obtain ⟨u, hu, rfl⟩ := he
          exact hS1 u hu
      rw [hsplit, List.foldl_append, List.foldl_cons] at e1
      obtain ⟨n1, f1, f2, f3⟩ := visit_all (pairs g (A.filter (is p)) ++ S1.map fun u => (w, u)) c [] B.nd
      rw [f1] at e1
      have bn : b ∉ keys (c ++ n1) := fun m => by
        rw [keys_app, List.mem_append] at m
        rcases m with m | m
        · have := h1 b m j b2
          omega
        · unfold keys at m
          rw [List.mem_map] at m
          obtain ⟨e, he, rfl⟩ := m
          obtain ⟨a, _, i2⟩ := f2 e he
          exact hP1 _ i2 b2
      have ev : visit (c ++ n1, [] ++ keys n1) (w, b) = (c ++ n1 ++ [(b, some w)], [] ++ keys n1 ++ [b]) := if_neg bn
      rw [ev] at e1
      have nd2 : (keys (c ++ n1 ++ [(b, some w)])).Nodup := by
        rw [keys_app, List.nodup_append]
        refine ⟨f3, by simp [keys], fun x hx y hy => ?_⟩
        simp [keys] at hy
        subst hy
        intro z
        subst z
        exact bn hx
      obtain ⟨n2, g1, g2, g3⟩ := visit_all _ (c ++ n1 ++ [(b, some w)]) ([] ++ keys n1 ++ [b]) nd2
      rw [g1] at e1
      have ec : c ++ n1 ++ [(b, some w)] ++ n2 = c ++ new := (Prod.mk.inj e1).1
      have en : n1 ++ [(b, some w)] ++ n2 = new := by
        have : c ++ (n1 ++ [(b, some w)] ++ n2) = c ++ new := by rw [← ec]; simp
        exact List.append_cancel_left this
      have kn : keys new = keys n1 ++ b :: keys n2 := by rw [← en]; simp [keys]
      refine ⟨j, pre ++ [w], keys n1, b, keys n2, kn, fun u hu y hy => ?_, fun v hv hd => ?_, b2, ?_, ?_⟩
      · rw [keys_app, List.mem_append] at hu
        rcases hu with hu | hu
        · have := h1 u hu y hy
          omega
        · obtain ⟨a, i1, i2, i3⟩ := from_ u hu
          obtain ⟨x, hx, hle⟩ := ds_edge F (B.lt a (B.sub a i1)) i2 i3 hy
          have := h1 a (B.sub a i1) x hx
          omega
      · unfold keys at hv
        rw [List.mem_map] at hv
        obtain ⟨e, he, rfl⟩ := hv
        obtain ⟨a, _, i2⟩ := f2 e he
        exact hP1 _ i2 hd
      · rw [List.reverse_append]
        show Chain (c ++ new) (b :: w :: pre.reverse)
        exact ⟨by rw [← ec]; simp, Chain.mono (fun e he => List.mem_append_left _ he) h4⟩
      · rw [h5, b4]
        simp
/-- no layer is left -/
theorem Bf.end_ {s : Nat} {c : Came} (B : Bf g p q s c []) : ds g p q s = none := by
  cases hs : ds g p q s with
  | none => rfl
  | some k =>
    obtain ⟨j, pre, A, w, C, hl, _⟩ := B.way k hs
    cases A <;> cases hl
end
end Wm

set_option linter.all false
namespace Wm
open Ra13
/-! ### calls, one behind another -/
section
open Ra13Neutral (S step start few fewAll asked asked1 many nats callOf)
def ans (y : Ans) : List Int := y.value :: y.out.map fun x : Nat => (x : Int)
theorem bytes_nn {l : List Int} (h : Ra13Neutral.bytes l = true) : ∀ z ∈ l, 0 ≤ z := fun z hz => by
  have := List.all_eq_true.mp h z hz
  unfold Ra13Neutral.natural at this
  simp at this
  exact this.1
/-- what a call that is asked looks like -/
theorem asked_form {cl : List (List Int)} (h : asked1 cl = true) : (∃ k, cl = [[1, k]]) ∨ (∃ a b, cl = [[2, a, b]]) ∨ (∃ a x, cl = [[3, a, x]] ∧ 0 ≤ x ∧ x ≤ 18446744073709551615) ∨
    (∃ n l, cl = [4 :: n :: l] ∧ (∀ z ∈ l, 0 ≤ z) ∧ l.length = many n ∧ l.length ≤ 60) ∨ (∃ n m a r l, cl = [5 :: n :: m :: a :: r :: l] ∧ (∀ z ∈ l, 0 ≤ z) ∧ l.length = many n + many m ∧ many n ≤ 60 ∧ many m ≤ 60) := by
  unfold asked1 at h
  split at h
  · exact .inl ⟨_, rfl⟩
  · exact .inr (.inl ⟨_, _, rfl⟩)
  · refine .inr (.inr (.inl ⟨_, _, rfl, ?_⟩))
    rw [Bool.and_eq_true] at h
    have := h.2
    unfold Ra13Neutral.natural at this
    simp at this
    omega
  · refine .inr (.inr (.inr (.inl ⟨_, _, rfl, ?_⟩)))
    simp only [Bool.and_eq_true, decide_eq_true_eq] at h
    exact ⟨bytes_nn h.2.1, h.2.2.1, h.2.2.2⟩
  · refine .inr (.inr (.inr (.inr ⟨_, _, _, _, _, rfl, ?_⟩)))
    simp only [Bool.and_eq_true, decide_eq_true_eq] at h
    exact ⟨bytes_nn h.2.2.2.2.1, h.2.2.2.2.2.1, h.2.2.2.2.2.2.1, h.2.2.2.2.2.2.2⟩
  · cases h
theorem step_1 (s : S) (k : Int) : step s [[1, k]] = ((does s (.open_ k)).1, ans (does s (.open_ k)).2) := rfl
theorem step_2 (s : S) (a b : Int) : step s [[2, a, b]] = ((does s (.edge a b)).1, ans (does s (.edge a b)).2) := rfl
theorem step_3 (s : S) (a x : Int) : step s [[3, a, x]] = ((does s (.marks a x.toNat)).1, ans (does s (.marks a x.toNat)).2) := rfl
theorem step_4 (s : S) {n : Int} {l : List Int} (h : l.length = many n) : step s [4 :: n :: l] = ((does s (.where_ (nats l) n)).1, ans (does s (.where_ (nats l) n)).2) := by
  have e : callOf [4 :: n :: l] = some (.where_ (nats l) n) := by
    show (if l.length = many n then some (Ra13.Call.where_ (nats l) n) else none) = _
    rw [if_pos h]
  unfold step
  rw [e]
  rfl
theorem step_5 (s : S) {n m a r : Int} {l : List Int} (h : l.length = many n + many m) : step s [5 :: n :: m :: a :: r :: l] =
    ((does s (.way (nats (l.take (many n))) n (nats (l.drop (many n))) m a r)).1, ans (does s (.way (nats (l.take (many n))) n (nats (l.drop (many n))) m a r)).2) := by
  have e : callOf [5 :: n :: m :: a :: r :: l] = some (.way (nats (l.take (many n))) n (nats (l.drop (many n))) m a r) := by
    show (if l.length = many n + many m then some (Ra13.Call.way (nats (l.take (many n))) n (nats (l.drop (many n))) m a r) else none) = _
    rw [if_pos h]
  unfold step
  rw [e]
  rfl
/-- a graph stays one -/
theorem does_some (g : Abs) (c : Ra13.Call) : ∃ t, (does (some g) c).1 = some t := by
  cases c with
  | open_ k =>
    show ∃ t, (if within k 1 4096 = true then (some (opened k.toNat), ({} : Ans)) else (some g, refused)).1 = some t
    split
    · exact ⟨_, rfl⟩
    · exact ⟨_, rfl⟩
  | edge a b =>
    show ∃ t, (if isState g a = false ∨ isState g b = false then (some g, refused)
      else if g.edges.contains (a.toNat, b.toNat) = true then (some g, ({} : Ans))
      else if EDGES ≤ g.edges.length then (some g, { value := -1 }) else (some { g with edges := g.edges ++ [(a.toNat, b.toNat)] }, {})).1 = some t
    split
    · exact ⟨_, rfl⟩
    · split
      · exact ⟨_, rfl⟩
      · split
        · exact ⟨_, rfl⟩
        · exact ⟨_, rfl⟩
  | marks a x =>
    show ∃ t, (if isState g a = true then (some { g with marks := g.marks.set a.toNat x }, ({} : Ans)) else (some g, refused)).1 = some t
    split
    · exact ⟨_, rfl⟩
    · exact ⟨_, rfl⟩
  | where_ b n => exact ⟨g, rfl⟩
  | way b n c m f r => exact ⟨g, rfl⟩
theorem step_some (g : Abs) (c : Ra13Neutral.Call) : ∃ t, (step (some g) c).1 = some t := by
  unfold step
  split
  · exact does_some g _
  · exact ⟨g, rfl⟩
def edgesLe (s : S) : Prop := ∀ g, s = some g → g.edges.length ≤ 32768
theorem does_edges (s : S) (c : Ra13.Call) (h : edgesLe s) : edgesLe (does s c).1 := by
  intro t ht
  cases s with
  | none =>
    cases c with
    | open_ k =>
      have ht' : (if within k 1 4096 = true then (some (opened k.toNat), ({} : Ans)) else (none, refused)).1 = some t := ht
      split at ht'
      · cases ht'; exact Nat.zero_le _
      · cases ht'
    | edge a b => cases ht
    | marks a x => cases ht
    | where_ b n => cases ht
    | way b n c m f r => cases ht
  | some g =>
    have hg := h g rfl
    cases c with
    | open_ k =>
      have ht' : (if within k 1 4096 = true then (some (opened k.toNat), ({} : Ans)) else (some g, refused)).1 = some t := ht
      split at ht'
      · cases ht'; exact Nat.zero_le _
      · cases ht'; exact hg
    | edge a b =>
      have ht' : (if isState g a = false ∨ isState g b = false then (some g, refused)
        else if g.edges.contains (a.toNat, b.toNat) = true then (some g, ({} : Ans))
        else if EDGES ≤ g.edges.length then (some g, { value := -1 }) else (some { g with edges := g.edges ++ [(a.toNat, b.toNat)] }, {})).1 = some t := ht
      split at ht'
      · cases ht'; exact hg
      · split at ht'
        · cases ht'; exact hg
        · split at ht'
          · cases ht'; exact hg
          · rename_i q
            cases ht'
            show (g.edges ++ [(a.toNat, b.toNat)]).length ≤ 32768
            rw [List.length_append]
            unfold EDGES at q
            have : ([(a.toNat, b.toNat)] : List (Nat × Nat)).length = 1 := rfl
            omega
    | marks a x =>
      have ht' : (if isState g a = true then (some { g with marks := g.marks.set a.toNat x }, ({} : Ans)) else (some g, refused)).1 = some t := ht
      split at ht'
      · cases ht'; exact hg
      · cases ht'; exact hg
    | where_ b n => cases ht; exact hg
    | way b n c m f r => cases ht; exact hg
theorem step_edges (s : S) (c : Ra13Neutral.Call) (h : edgesLe s) : edgesLe (step s c).1 := by
  unfold step
  split
  · exact does_edges s _ h
  · exact h
/-- an answer is short -/
theorem does_len {g : Abs} (F : Fit g) (hn : g.states ≤ 40) (c : Ra13.Call) : (ans (does (some g) c).2).length ≤ 50 := by
  unfold ans
  rw [List.length_cons, List.length_map]
  cases c with
  | open_ k =>
    show (if within k 1 4096 = true then (some (opened k.toNat), ({} : Ans)) else (some g, refused)).2.out.length + 1 ≤ 50
    split
    · show 0 + 1 ≤ 50; omega
    · show 0 + 1 ≤ 50; omega
  | edge a b =>
    show (if isState g a = false ∨ isState g b = false then (some g, refused)
      else if g.edges.contains (a.toNat, b.toNat) = true then (some g, ({} : Ans))
      else if EDGES ≤ g.edges.length then (some g, { value := -1 }) else (some { g with edges := g.edges ++ [(a.toNat, b.toNat)] }, {})).2.out.length + 1 ≤ 50
    split
    · show 0 + 1 ≤ 50; omega
    · split
      · show 0 + 1 ≤ 50; omega
      · split
        · show 0 + 1 ≤ 50; omega
        · show 0 + 1 ≤ 50; omega
  | marks a x =>
    show (if isState g a = true then (some { g with marks := g.marks.set a.toNat x }, ({} : Ans)) else (some g, refused)).2.out.length + 1 ≤ 50
    split
    · show 0 + 1 ≤ 50; omega
    · show 0 + 1 ≤ 50; omega
  | where_ b n =>
    show (if within n 1 256 = false then refused else match Ra13.read b with
      | none => { value := -1 }
      | some p => let l := (List.range g.states).filter (is (g.yes p))
        { value := (l.length : Int), out := l }).out.length + 1 ≤ 50
    split
    · show 0 + 1 ≤ 50; omega
    · split
      · show 0 + 1 ≤ 50; omega
      · rename_i p _
        show ((List.range g.states).filter (is (g.yes p))).length + 1 ≤ 50
        have := List.length_filter_le (is (g.yes p)) (List.range g.states)
        rw [List.length_range] at this
        omega
  | way b n c m f r =>
    show (if wayFits g n m f r = false then refused else match Ra13.read b, Ra13.read c with
      | some p, some q => (match g.rowOf p q f.toNat with
        | some l => { value := (l.length : Int), out := l.take r.toNat }
        | none => {})
      | _, _ => { value := -1 }).out.length + 1 ≤ 50
    split
    · show 0 + 1 ≤ 50; omega
    · rename_i hw
      split
      · rename_i p q _ _
        split
        · rename_i l hl
          show (l.take r.toNat).length + 1 ≤ 50
          have hf : f.toNat < g.states := by
            have hw' : wayFits g n m f r = true := by simpa using hw
            unfold wayFits isState within at hw'
            simp at hw'
            omega
          have e : g.rowOf p q f.toNat = (ds g (g.yes p) (g.yes q) f.toNat).map fun k => g.rowFrom (g.far (g.yes p) (g.yes q)) k f.toNat := rfl
          rw [e] at hl
          cases hd : ds g (g.yes p) (g.yes q) f.toNat with
          | none => rw [hd] at hl; cases hl
          | some k =>
            rw [hd] at hl
            have hl' : g.rowFrom (g.far (g.yes p) (g.yes q)) k f.toNat = l := Option.some.inj hl
            have h4 := row_len (g := g) (d := g.far (g.yes p) (g.yes q)) k f.toNat
            have h5 := ds_lt F hf hd
            rw [hl'] at h4
            rw [List.length_take]
            omega
        · show 0 + 1 ≤ 50; omega
      · show 0 + 1 ≤ 50; omega
/-- the calls that need no few states have short answers whatever -/
theorem step_len {g : Abs} (F : Fit g) {c : Ra13Neutral.Call} (ha : asked1 c = true) (hf : few (some g) c = true) : (step (some g) c).2.length ≤ 50 := by
  rcases asked_form ha with ⟨k, rfl⟩ | ⟨a, b, rfl⟩ | ⟨a, x, rfl, _⟩ | ⟨n, l, rfl, _, h, _⟩ | ⟨n, m, a, r, l, rfl, _, h, _⟩
  · rw [step_1]
    show (ans (if within k 1 4096 = true then (some (opened k.toNat), ({} : Ans)) else (some g, refused)).2).length ≤ 50
    split
    · show 1 ≤ 50; omega
    · show 1 ≤ 50; omega
  · rw [step_2]
    show (ans (if isState g a = false ∨ isState g b = false then (some g, refused)
      else if g.edges.contains (a.toNat, b.toNat) = true then (some g, ({} : Ans))
      else if EDGES ≤ g.edges.length then (some g, { value := -1 }) else (some { g with edges := g.edges ++ [(a.toNat, b.toNat)] }, {})).2).length ≤ 50
    split
    · show 1 ≤ 50; omega
    · split
      · show 1 ≤ 50; omega
      · split
        · show 1 ≤ 50; omega
        · show 1 ≤ 50; omega
  · rw [step_3]
    show (ans (if isState g a = true then (some { g with marks := g.marks.set a.toNat x.toNat }, ({} : Ans)) else (some g, refused)).2).length ≤ 50
    split
    · show 1 ≤ 50; omega
    · show 1 ≤ 50; omega
  · have hn : g.states ≤ 40 := by simpa [few] using hf
    rw [step_4 _ h]
    exact does_len F hn _
  · have hn : g.states ≤ 40 := by simpa [few] using hf
    rw [step_5 _ h]
    exact does_len F hn _
/-! ### the line -/
def runS : S → List Ra13Neutral.Call → S
  | s, [] => s
  | s, c :: r => runS (step s c).1 r
theorem played_app : ∀ (a b : List Ra13Neutral.Call) (s : S), PyFlat.played step s (a ++ b) = PyFlat.played step s a ++ PyFlat.played step (runS s a) b
  | [], b, s => rfl
  | c :: a, b, s => by
    show (step s c).2 :: PyFlat.played step (step s c).1 (a ++ b) = _
    rw [played_app a b]
    rfl
theorem runS_app : ∀ (a b : List Ra13Neutral.Call) (s : S), runS s (a ++ b) = runS (runS s a) b
  | [], b, s => rfl
  | c :: a, b, s => runS_app a b _
theorem told_app (a b : List (List Int)) : PyFlat.told (a ++ b) = PyFlat.told a ++ PyFlat.told b := by unfold PyFlat.told; rw [List.flatMap_append]
theorem told_one (a : List Int) : PyFlat.told [a] = (a.length : Int) :: a := by unfold PyFlat.told; simp
theorem few_app : ∀ (a : List Ra13Neutral.Call) {c : Ra13Neutral.Call} {b : List Ra13Neutral.Call} {s : S}, fewAll s (a ++ c :: b) = true → few (runS s a) c = true
  | [], c, b, s, h => by
    have h' : (few s c && fewAll (step s c).1 b) = true := h
    rw [Bool.and_eq_true] at h'
    exact h'.1
  | d :: a, c, b, s, h => by
    have h' : (few s d && fewAll (step s d).1 (a ++ c :: b)) = true := h
    rw [Bool.and_eq_true] at h'
    exact few_app a h'.2
theorem put_app : ∀ a b : List (List (List Int)), PyWide.put (a ++ b) = PyWide.put a ++ PyWide.put b
  | [], b => rfl
  | c :: a, b => by
    show PyWide.put1 c ++ PyWide.put (a ++ b) = (PyWide.put1 c ++ PyWide.put a) ++ PyWide.put b
    rw [put_app a b, List.append_assoc]
theorem put_one (p : Int) (ns : List Int) : PyWide.put1 [p :: ns] = p :: (ns.length : Int) :: (ns ++ [0]) := rfl
theorem put_len (p : Int) (ns : List Int) : (PyWide.put1 [p :: ns]).length = ns.length + 3 := by rw [put_one]; simp
/-- a line may go on: there is a graph, or the first call is to come -/
def Ready (s : S) (rest : List Ra13Neutral.Call) : Prop := s = none → rest = [] ∨ ∃ k r, rest = [[1, k]] :: r ∧ (r = [] ∨ ((step none [[1, k]]).1).isSome = true)
theorem Ready.next {s : S} {c : Ra13Neutral.Call} {r : List Ra13Neutral.Call} (h : Ready s (c :: r)) : Ready (step s c).1 r := by
  intro e
  cases s with
  | some g =>
    obtain ⟨t, ht⟩ := step_some g c
    rw [ht] at e
    cases e
  | none =>
    rcases h rfl with h | ⟨k, r', h1, h2⟩
    · cases h
    · cases h1
      rcases h2 with h2 | h2
      · exact .inl h2
      · rw [e] at h2; cases h2
structure Line (l : List Int) (cs : List Ra13Neutral.Call) : Prop where
  is : l = PyWide.put cs
  ans : PyRa13.answers l = PyFlat.told (PyFlat.played step start cs)
  all : ∀ c ∈ cs, asked1 c = true
  len : cs.length ≤ 120
  few : fewAll start cs = true
  ready : Ready start cs
theorem line_of {l : List Int} (h : PyRa13.answers_asked l = true) : ∃ cs, Line l cs := by
  unfold PyRa13.answers_asked at h
  cases e : PyRa13.calls l with
  | none => rw [e] at h; cases h
  | some cs =>
    rw [e] at h
    have h' : (PyFlat.atMost 120 cs && asked cs) = true := h
    rw [Bool.and_eq_true] at h'
    have h2 := h'.2
    unfold asked at h2
    simp only [Bool.and_eq_true, decide_eq_true_eq] at h2
    obtain ⟨q1, q2, q3, q4⟩ := h2
    refine ⟨cs, (PyWide.put_calls _ _ _ e).1, by unfold PyRa13.answers; rw [e], fun c hc => List.all_eq_true.mp q1 c hc, q2, q4, fun _ => ?_⟩
    split at q3
    · rename_i k r
      refine .inr ⟨k, r, rfl, ?_⟩
      rw [Bool.or_eq_true] at q3
      rcases q3 with q3 | q3
      · exact .inl (by simpa using q3)
      · exact .inr q3
    · cases q3
end
end Wm

set_option Elab.async false
set_option linter.all false
set_option maxRecDepth 100000
set_option maxHeartbeats 2000000
/-! Rules of one's own: list(d), sorted(d) of a dict, list(reversed(xs)). -/
namespace Wr
open PySem PySem.Spec PyProof.Rows L2
theorem vals_ix : ∀ {xs : List V} {us : List Value}, xs.length = us.length → (∀ (i : Nat) x u, xs[i]? = some x → us[i]? = some u → RelV x u) → Vals xs us
  | [], [], _, _ => .nil
  | [], _ :: _, h, _ => by simp at h
  | _ :: _, [], h, _ => by simp at h
  | x :: xs, u :: us, h, k => .cons (k 0 x u rfl rfl) (vals_ix (by simpa using h) fun i x u h1 h2 => k (i + 1) x u (by simpa using h1) (by simpa using h2))
theorem keys_vals {kvs : List (Key × V)} {vs : List (Key × Value)} (rel : KV kvs vs) {us : List Value} (hl : us.length = vs.length) (h : ∀ (j : Nat) u, us[j]? = some u → ∃ k x, vs[j]? = some (k, x) ∧ keyIs k u = true) : Vals (kvs.map fun kv => kV kv.1) us := by
  refine vals_ix (by rw [List.length_map, rel.length, hl]) fun i x u h1 h2 => ?_
  obtain ⟨k, y, e1, e2⟩ := h i u h2
  rw [List.getElem?_map] at h1
  cases e : kvs[i]? with
  | none => rw [e] at h1; cases h1
  | some kv =>
    rw [e] at h1
    have h1' : kV kv.1 = x := Option.some.inj h1
    subst h1'
    obtain ⟨w', e3, _⟩ := kv_get rel (i := i) (k := kv.1) (v := kv.2) e
    rw [e1] at e3
    cases e3
    exact relV_key e2
section
variable {X : Cx}
theorem call_listD (hc : X.calm = true) : CallR X (.type "list") (fun xs H Q => ∃ a kvs, xs = [V.ref a] ∧ H a = some (.dK kvs) ∧ ∀ l, H l = none → Q (.ref l) (upd H l (.lst (kvs.map fun kv => kV kv.1)))) := by
  intro pins s σ H xs us Q I r h
  obtain ⟨a, kvs, rfl, ha, q⟩ := h
  rw [Vals.ref1 r]
  obtain ⟨hz, hs, vs, rel, hd⟩ := dk_of I.hok ha
  obtain ⟨ep, hat⟩ := hd.dictAt
  refine PySem.W.kdl_call (PySem.W.kdl_dict (knd := mixKind X.prog X.w) (kvs := vs) (ep := ep) hs) (I.ok.hd hc) hat (by rw [← rel.length]; exact hz) fun h' tk acc' c' hk hD hacc => ?_
  have hv : Vals (kvs.map fun kv => kV kv.1) acc'.toList := keys_vals rel (by rw [Array.length_toList]; exact hacc.1) fun j u e => hacc.2 j u (by rw [← Array.getElem?_toList]; exact e)
  exact ⟨.ref _, upd H _ (.lst _), I.laid (t' := tk) hk (Nat.le_refl _) ⟨by rw [List.length_map]; exact hz, acc'.toList, c', hv, by simpa using hD⟩, rfl, q _ (I.hok.fresh (Nat.le_refl _))⟩
end
section
variable {prog : Program} {w : World} {A : Around} {E : Value → Shared → Prop} {s : Shared}
theorem iadd_dict {d S : Addr} {vs : List (Key × Value)} {ep : Nat} {R : Result → Shared → Prop} (lo : (d == sysModules) = false) (hh : A.handled = none) (hm : s.heap.DictAt (mixKind prog w) d vs ep) (hz : vs.length ≤ sizeLine) (hSd : S ≠ d) (hS : s.heap.get? S = some { cls := .type "list", data := .seq #[] 0 })
    (hR : ∀ h' tk acc' c', (∀ b o, b ≠ S → s.heap.get? b = some o → h'.get? b = some o) → h'.get? S = some { cls := .type "list", dict := none, data := .seq acc' c', slots := #[] } → ItemsOf (fun i v => ∃ k x, vs[i]? = some (k, x) ∧ (mixKind prog w).is k v = true) acc' vs.length → R (.ok (.ret (.ref S))) { s with heap := h', toks := tk }) :
    codeAny (model prog w) A (.builtin "list.__iadd__" ⟨[.ref S, .ref d], []⟩) R s := by
  refine codeAny_builtin entry_list_iadd' ?_
  rw [Around.under_plainId (by decide +kernel) _]
  exact PySem.W.kdl_extend (PySem.W.kdl_dict (knd := mixKind prog w) (kvs := vs) (ep := ep) lo) hh hm S hSd hSd (.ref S) 0 hS hR hz
theorem collect_dict {d : Addr} {vs : List (Key × Value)} {ep : Nat} {Q : List Value → Shared → Prop} (lo : (d == sysModules) = false) (hh : A.handled = none) (hm : s.heap.DictAt (mixKind prog w) d vs ep) (hz : vs.length ≤ sizeLine)
    (h : ∀ h' tk (us : List Value), s.heap.objs.size < h'.objs.size → (∀ b o, s.heap.get? b = some o → h'.get? b = some o) → us.length = vs.length → (∀ (j : Nat) u, us[j]? = some u → ∃ k x, vs[j]? = some (k, x) ∧ keyIs k u = true) → Q us { s with heap := h', toks := tk }) :
    wpAny (model prog w) A (collect (.ref d)) Q E s := by
  unfold collect
  refine wpAny_bind (wpAny_runValue (codeAny_builtin entry_proto_collect' ?_))
  show wpAny _ _ (do again (.builtin "list.__iadd__" ⟨[← newList [], .ref d], []⟩)) _ _ s
  have hSd : s.heap.objs.size ≠ d := Nat.ne_of_gt hm.lt_size
  refine wpAny_bind (wpAny_newList (wpAny_pure ⟨Code.quiet_builtin _ (by decide +kernel), iadd_dict lo hh (hm.push _) hz hSd (Heap.get?_push_size _ rfl) fun h' tk acc' c' hk hS hacc => ?_⟩))
  show wpAny (model prog w) A (do
      let o ← load s.heap.objs.size
      match o.data with
      | .seq xs _ => pure xs.toList
      | _ => unsupported "internal:collect") Q E { s with heap := h', toks := tk }
  refine wpAny_bind (wpAny_load hS ?_)
  refine wpAny_pure (h h' tk acc'.toList (Heap.lt_size hS) (fun b o e => hk b o (Nat.ne_of_lt (Heap.lt_size e)) (Heap.get?_push_of_some _ e)) (by rw [Array.length_toList]; exact hacc.1) fun j u e => hacc.2 j u (by rw [← Array.getElem?_toList]; exact e))
/-- what a sort leaves of the other objects -/
theorem sortedHeap_old {h : Heap} {a : Addr} {vs : List Value} {out : Array Value} {b : Addr} {o : Obj} (hb : b ≠ a) (e : h.get? b = some o) : (sortedHeap h a vs out).get? b = some o := by
  unfold sortedHeap
  rw [Heap.get?_update_other _ _ (Ne.symm hb)]
  exact Heap.get?_push_of_some _ (Heap.get?_push_of_some _ ((Heap.get?_update_other _ _ (Ne.symm hb)).trans e))
theorem sortedHeap_at {h : Heap} {a : Addr} {vs : List Value} {out : Array Value} {n : Nat} (e : h.get? a = some (seqObj "list" vs.toArray n)) : ∃ ep, (sortedHeap h a vs out).get? a = some (seqObj "list" out ep) := by
  unfold sortedHeap
  have e1 := get?_update_seq e (fun _ => #[])
  have e2 := Heap.get?_push_of_some (seqObj "list" #[] 0) (Heap.get?_push_of_some (seqObj "tuple" vs.toArray 0) e1)
  exact ⟨_, get?_update_seq e2 fun _ => out⟩
theorem sorted_dict {d : Addr} {vs : List (Key × Value)} {ep : Nat} {ns : List Int} {Q : Value → Shared → Prop} (lo : (d == sysModules) = false) (hh : A.handled = none) (hm : s.heap.DictAt (mixKind prog w) d vs ep) (h64 : vs.length < 64) (hk : vs.map (·.1) = ns.map Sum.inl)
    (h : ∀ (p : Addr) (h' : Heap) (tk ep : Nat) (out : List Value) (ns' : List Int), s.heap.objs.size ≤ p → (∀ b o, s.heap.get? b = some o → h'.get? b = some o) → h'.get? p = some (seqObj "list" out.toArray ep) → IntsAre out ns' → ns'.Perm ns → ns'.Pairwise (· ≤ ·) → Q (.ref p) { s with heap := h', toks := tk }) :
    wpAny (model prog w) A (call (.builtin "sorted") [.ref d]) Q E s := by
  refine Calls.call_function_entry kind_sorted plain_sorted entry_sorted (args_sorted1 _) ?_
  unfold Builtin.«sorted»
  refine wpAny_bind (m := checkCount "sorted" 1 1 _) (wpAny_pure ?_)
  refine wpAny_bind (collect_dict lo hh hm (small64 h64) fun h1 tk us hsz hk1 hlen hus => ?_)
  have hI : IntsAre us ns := by
    have hv : Vals (ns.map V.int) us := by
      refine vals_ix (by rw [List.length_map, hlen, ← List.length_map (f := (·.1)) (as := vs), hk, List.length_map]) fun i x u e1 e2 => ?_
      obtain ⟨k, y, e3, e4⟩ := hus i u e2
      have e5 : (vs.map (·.1))[i]? = some k := by rw [List.getElem?_map, e3]; rfl
      rw [hk, List.getElem?_map] at e5
      rw [List.getElem?_map] at e1
      cases e : ns[i]? with
      | none => rw [e] at e1; cases e1
      | some z =>
        rw [e] at e1 e5
        have e1' : V.int z = x := Option.some.inj e1
        have e5' : Sum.inl z = k := Option.some.inj e5
        subst e1' e5'
        exact relV_key e4
    exact hv.ints
  refine wpAny_bind (wpAny_newList ?_)
  have hoL : (h1.push (seqObj "list" us.toArray 0)).get? h1.objs.size = some (seqObj "list" us.toArray 0) := Heap.get?_push_size _ rfl
  refine wpAny_bind (wpAny_holding (wpAny_call_entry slot_list_sort ⟨_, hoL, rfl⟩ entry_list_sort (list_sort_tree hoL hI (by rw [hlen]; exact h64) fun out ns' a1 a2 a3 => ⟨_, rfl, ?_⟩) (args_list_sort _)))
  obtain ⟨ep', e'⟩ := sortedHeap_at (out := out) hoL
  exact wpAny_pure ⟨_, rfl, h h1.objs.size _ tk ep' out.toList ns' (Nat.le_of_lt hsz) (fun b o e => sortedHeap_old (Nat.ne_of_lt (Heap.lt_size (hk1 b o e))) (Heap.get?_push_of_some _ (hk1 b o e))) (by simpa using e') a1 a2 a3⟩
end
section
variable {X : Cx}
/-- sorted(d) of a dict whose keys are ints -/
theorem call_sortedD (hc : X.calm = true) : CallR X (.builtin "sorted") (fun xs H Q => ∃ a kvs ns, xs = [V.ref a] ∧ H a = some (.dK kvs) ∧ kvs.map (·.1) = ns.map Sum.inl ∧ ns.length < 64 ∧
    ∀ (ns' : List Int) (p : Addr), ns'.Perm ns → ns'.Pairwise (· ≤ ·) → H p = none → Q (.ref p) (upd H p (.lst (ns'.map V.int)))) := by
  intro pins s σ H xs us Q I r h
  obtain ⟨a, kvs, ns, rfl, ha, hk, h64, q⟩ := h
  rw [Vals.ref1 r]
  obtain ⟨hz, hs, vs, rel, hd⟩ := dk_of I.hok ha
  obtain ⟨ep, hat⟩ := hd.dictAt
  have hlen : vs.length = ns.length := by
    have := congrArg List.length hk
    rw [List.length_map, List.length_map] at this
    rw [← rel.length]; exact this
  refine sorted_dict (ns := ns) hs (I.ok.hd hc) hat (by rw [hlen]; exact h64) (by rw [← rel.keys]; exact hk) fun p h' tk ep' out ns' h1 h2 h3 h4 h5 h6 => ?_
  exact ⟨.ref p, upd H p (.lst (ns'.map V.int)), I.laid (t' := tk) h2 h1 ⟨by rw [List.length_map, h5.length_eq]; exact small64 h64, out, ep', vals_of_ints h4, h3⟩, rfl, q ns' p h5 h6 (I.hok.fresh h1)⟩
end
/-! ### reversed -/
theorem lri_no_len : typeLookup (.type "list_reverseiterator") "__len__" = pure none := by rw [typeLookup_type, builtinLookup_eq_fast]; kernel_rfl
theorem lri_hint : typeLookup (.type "list_reverseiterator") "__length_hint__" = pure (some (.builtin "list_reverseiterator.__length_hint__")) := by rw [typeLookup_type, builtinLookup_eq_fast]; kernel_rfl
section
variable {prog : Program} {w : World} {A : Around} {E : Value → Shared → Prop} {s : Shared}
theorem hint_rev {r : Addr} {Q : Bool → Shared → Prop} (hT : s.TypeIs (.ref r) "list_reverseiterator") (h : Q false s) : wpAny (model prog w) A (Builtin.List.listLengthHint (.ref r)) Q E s := by
  unfold Builtin.List.listLengthHint
  refine wpAny_bind (wpAny_specialOf hT lri_no_len ?_)
  show wpAny _ A (specialOf (Value.ref r) (Str.ofString "__length_hint__") >>= _) _ _ _
  refine wpAny_bind (wpAny_specialOf hT lri_hint ?_)
  generalize hid : ("list_reverseiterator.__length_hint__" : String) = id0
  wp_delta
  rw [show splitId id0 = some ("list_reverseiterator", "__length_hint__") from by subst hid; decide +kernel]
  subst hid
  refine wpAny_bind (wpAny_isInstance (T := "list_reverseiterator") (b := true) hT (by rw [isSubtype_type]; kernel_rfl) ?_)
  refine wpAny_ite_split (fun hab => absurd hab (by decide)) (fun _ => ?_)
  refine wpAny_ite_split (fun _ => ?_) (fun hab => absurd (by decide +kernel) hab)
  refine wpAny_ite_split (fun hab => absurd hab (by decide +kernel)) (fun _ => ?_)
  exact wpAny_pure h
theorem extend_rev {R : Result → Shared → Prop} {it l S : Addr} {items : Array Value} {res : Value} {c₀ : Nat} (hh : A.handled = none) (hit : s.heap.IsRevIter it l ((items.size : Int) - 1)) (hl : s.heap.IsList l items) (hz : items.size ≤ sizeLine) (hli : l ≠ it) (hSi : S ≠ it) (hSl : S ≠ l)
    (hS : s.heap.get? S = some { cls := .type "list", data := .seq #[] c₀ })
    (hR : ∀ h' tk acc' c', (∀ b o, b ≠ S → b ≠ it → s.heap.get? b = some o → h'.get? b = some o) → h'.get? S = some { cls := .type "list", dict := none, data := .seq acc' c', slots := #[] } → ItemsOf (fun i v => items[items.size - 1 - i]? = some v) acc' items.size → R (.ok (.ret res)) { s with heap := h', toks := tk }) :
    wpAny (model prog w) A.in1 (Builtin.List.listExtendWith (.ref S) (.ref it) res)
      (fun fin s' => match fin with | .done f => R (.ok f) s' | .again c' => c'.quiet = true ∧ codeAny (model prog w) A c' R s') (fun e s' => R (.error e) s') s := by
  have hSf : S ∉ [it, l] := by simp only [List.mem_cons, List.not_mem_nil, or_false, not_or]; exact ⟨hSi, hSl⟩
  have W := (Walks.listRev (prog := prog) (w := w) (A := A.in1) hh it l hli items).toS
  unfold Builtin.List.listExtendWith
  refine wpAny_bind (wpAny_typeOf (T := "list_reverseiterator") hit.typeIs ?_)
  have h1 : Builtin.List.listSameRef (.ref S) (.ref it) = false := by simp [Builtin.List.listSameRef, hSi]
  have h2 : (Value.type "list_reverseiterator" == Value.type "list") = false := by decide
  have h3 : (Value.type "list_reverseiterator" == Value.type "tuple") = false := by decide
  simp only [h1, h2, h3, Bool.or_false, Bool.false_eq_true, if_false]
  refine wpAny_bind (wpAny_pyIter_revIter hit ?_)
  refine wpAny_bind (wpAny_holding (hint_rev hit.typeIs ?_))
  have key : ∀ (h : Heap) (c₁ : Nat), (∀ b o, b ≠ S → s.heap.get? b = some o → h.get? b = some o) → h.get? S = some { cls := .type "list", data := .seq #[] c₁ } → codeAny (model prog w) A (.builtin "list.extend.loop" ⟨[.ref S, .ref it, res], []⟩) R { s with heap := h } := by
    intro h c₁ hk hS₁
    have st : (0 : Nat) ≤ items.size ∧ h.IsRevIter it l ((items.size : Int) - 1 - ((0 : Nat) : Int)) ∧ h.IsList l items := ⟨Nat.zero_le _, by simpa using hit.at fun o e => hk it o (Ne.symm hSi) e, hl.at fun o e => hk l o (Ne.symm hSl) e⟩
    refine codeAny_extend_loopS W hz S hSf res items.size 0 _ #[] c₁ rfl (Nat.zero_le _) st hS₁ (ItemsOf.nil _) fun s' acc' c' hm hS' hacc => ?_
    rw [Moved.eq_with hm]
    refine hR s'.heap s'.toks acc' c' (fun b o hb hb2 e => hm.heap b o (fun hmem => ?_) (hk b o hb e)) hS' hacc
    rcases List.mem_cons.mp hmem with e' | hmem
    · exact hb e'
    · exact hb2 (List.mem_singleton.mp hmem)
  refine wpAny_ite_split (fun _ => ?_) (fun _ => wpAny_pure ⟨plainId_quiet PySem.F.plain_extend_loop _, key _ c₀ (fun b o _ e => e) hS⟩)
  refine wpAny_bind (wpAny_rule ?_)
  refine wpAny_bind ?_
  show wpAny _ _ (updateSeq S (·.push .none) >>= fun _ => updateSeq S (·.pop)) _ _ _
  refine wpAny_bind (wpAny_updateSeq hS rfl ?_)
  have hS₂ := Heap.get?_update_self (Obj.mapSeq (·.push Value.none)) hS rfl
  refine wpAny_updateSeq (hz := by seq_fits) hS₂ rfl ?_
  have hS₃ := Heap.get?_update_self (Obj.mapSeq (·.pop)) hS₂ rfl
  refine wpAny_pure ⟨plainId_quiet PySem.F.plain_extend_loop _, key _ _ (fun b o hb e => ?_) hS₃⟩
  exact (Heap.get?_update_other _ _ (Ne.symm hb)).trans ((Heap.get?_update_other _ _ (Ne.symm hb)).trans e)
theorem init_rev {R : Result → Shared → Prop} {it l S : Addr} {items : Array Value} (hh : A.handled = none) (hit : s.heap.IsRevIter it l ((items.size : Int) - 1)) (hl : s.heap.IsList l items) (hz : items.size ≤ sizeLine) (hli : l ≠ it) (hSi : S ≠ it) (hSl : S ≠ l)
    (hS : s.heap.get? S = some { cls := .type "list", data := .seq #[] })
    (hR : ∀ h' tk acc' c', (∀ b o, b ≠ S → b ≠ it → s.heap.get? b = some o → h'.get? b = some o) → h'.get? S = some { cls := .type "list", dict := none, data := .seq acc' c', slots := #[] } → ItemsOf (fun i v => items[items.size - 1 - i]? = some v) acc' items.size → R (.ok (.ret .none)) { s with heap := h', toks := tk }) :
    wpAny (model prog w) A.in1 (Builtin.«list.__init__» ⟨[.ref S, .ref it], []⟩)
      (fun fin s' => match fin with | .done f => R (.ok f) s' | .again c' => c'.quiet = true ∧ codeAny (model prog w) A c' R s') (fun e s' => R (.error e) s') s := by
  show wpAny _ _ (do let old ← Builtin.List.listItems (.ref S); Builtin.List.listUpdate (.ref S) (fun _ => #[]); letGo old.toList.reverse; Builtin.List.listExtendWith (.ref S) (.ref it) .none) _ _ s
  refine wpAny_bind ?_
  unfold Builtin.List.listItems
  refine wpAny_bind (wpAny_seqItems hS rfl (wpAny_pure ?_))
  show wpAny _ _ (updateSeq S (fun _ => #[]) >>= fun _ => letGo (#[] : Array Value).toList.reverse >>= fun _ => Builtin.List.listExtendWith (.ref S) (.ref it) .none) _ _ s
  refine wpAny_bind (wpAny_updateSeq hS rfl ?_)
  have hS₂ := Heap.get?_update_self (Obj.mapSeq (fun _ => (#[] : Array Value))) hS rfl
  have oth : ∀ b o, b ≠ S → s.heap.get? b = some o → (s.heap.update S (Obj.mapSeq (fun _ => (#[] : Array Value)))).get? b = some o :=
    fun b o hb e => (Heap.get?_update_other _ _ (Ne.symm hb)).trans e
  refine wpAny_bind (wpAny_letGo ?_)
  exact extend_rev hh (hit.at fun o e => oth it o (Ne.symm hSi) e) (hl.at fun o e => oth l o (Ne.symm hSl) e) hz hli hSi hSl hS₂ fun h' tk acc' c' hk hS' hacc => hR h' tk acc' c' (fun b o hb hb2 e => hk b o hb hb2 (oth b o hb e)) hS' hacc
theorem call_list_rev {Q : Value → Shared → Prop} {it l : Addr} {items : Array Value} (hh : A.handled = none) (hit : s.heap.IsRevIter it l ((items.size : Int) - 1)) (hl : s.heap.IsList l items) (hz : items.size ≤ sizeLine) (hli : l ≠ it)
    (hQ : ∀ h' tk acc' c', (∀ b o, b ≠ it → s.heap.get? b = some o → h'.get? b = some o) → h'.get? s.heap.objs.size = some { cls := .type "list", dict := none, data := .seq acc' c', slots := #[] } → ItemsOf (fun i v => items[items.size - 1 - i]? = some v) acc' items.size → Q (.ref s.heap.objs.size) { s with heap := h', toks := tk }) :
    wpAny (model prog w) A (call (.type "list") [.ref it]) Q E s := by
  refine callType_codes (Q₁ := fun obj s₁ => obj = .ref s.heap.objs.size ∧ s₁ = { s with heap := s.heap.push { cls := .type "list", data := .seq #[] } }) PySem.F.called_list (PySem.F.typeCall_list_1 _) PySem.F.entry_list_init
    (code_list_new _ ⟨rfl, rfl⟩) fun obj s₁ h₁ => ?_
  obtain ⟨rfl, rfl⟩ := h₁
  have hS : (s.heap.push { cls := .type "list", data := .seq #[] }).get? s.heap.objs.size = some { cls := .type "list", data := .seq #[] } := Heap.get?_push_size _ rfl
  have lt1 : it < s.heap.objs.size := let ⟨_, ho, _⟩ := hit; Heap.lt_size ho
  have lt2 : l < s.heap.objs.size := let ⟨_, ho, _⟩ := hl; Heap.lt_size ho
  refine ⟨⟨_, hS, rfl⟩, PySem.F.args_list_init_2 _ _, init_rev (A := A.in1) hh (hit.at fun o e => Heap.get?_push_of_some _ e) (hl.at fun o e => Heap.get?_push_of_some _ e) hz hli (Nat.ne_of_gt lt1) (Nat.ne_of_gt lt2) hS fun h' tk acc' c' hk hS' hacc => ?_⟩
  exact ⟨rfl, hQ h' tk acc' c' (fun b o hb e => hk b o (Nat.ne_of_lt (Heap.lt_size e)) hb (Heap.get?_push_of_some _ e)) hS' hacc⟩
end
section
variable {X : Cx} {e : Expr} {te : TE} {p p2 pos pos2 : Pos}
/-- list(reversed(e)), e a list -/
theorem pe_listrev (hc : X.calm = true) (hgl : Gl X "list") (hml : X.mg "list" = none) (hgr : Gl X "reversed") (hmr : X.mg "reversed" = none) (he : PE X e te)
    (hs1 : starEach [.Call (.Name "reversed" p2) [e] [] pos2] X.env = [(false, eval (.Call (.Name "reversed" p2) [e] [] pos2) X.env)] := by rfl) (hs2 : starEach [e] X.env = [(false, eval e X.env)] := by rfl) :
    PE X (.Call (.Name "list" p) [.Call (.Name "reversed" p2) [e] [] pos2] [] pos) (fun σ H Q => te σ H fun x H1 => ∃ a xs, x = .ref a ∧ SqL X.K H1 a xs ∧ ∀ l, H1 l = none → Q (.ref l) (upd H1 l (.lst xs.reverse))) := by
  intro pins s σ H Q I h
  refine wpAny_Call_Name_kw (ld_blt I hgl hml PyProof.Rows.boot_list ?_)
  refine PyProof.Rows.callWith_type1 ?_ hs1 rfl
  rw [hs1]
  refine Calls.spliced_cons ?_
  refine wpAny_Call_Name_kw (ld_blt I hgr hmr boot_reversed5 ?_)
  refine PyProof.Rows.callWith_type1 ?_ hs2 rfl
  rw [hs2]
  refine Calls.spliced_cons (thn (he pins s σ H _ I h) fun u s1 ⟨x, H1, I1, r1, q1⟩ => Calls.spliced_nil ?_)
  obtain ⟨a, xs, rfl, hq, q⟩ := q1
  cases r1
  obtain ⟨its, rv, pl, hz⟩ := I1.list hq
  have hl := rv.length
  refine call_reversed_list pl.isList (Calls.spliced_nil ?_)
  have hg : (s1.heap.push (revObj a ((its.toArray.size : Int) - 1))).get? s1.heap.objs.size = some (revObj a ((its.toArray.size : Int) - 1)) := Heap.get?_push_size _ rfl
  have la : a < s1.heap.objs.size := let ⟨_, ho, _⟩ := pl.isList; Heap.lt_size ho
  refine call_list_rev (it := s1.heap.objs.size) (l := a) (items := its.toArray) (I1.ok.hd hc) ⟨_, hg, rfl, rfl⟩ (pl.isList.at fun o e => Heap.get?_push_of_some _ e) (by simp only [List.size_toArray]; omega) (Nat.ne_of_lt la) fun h' tk acc' c' hk hD hacc => ?_
  have hv : Vals xs.reverse acc'.toList := by
    have rr := rv.reverse
    have : acc'.toList = its.reverse := by
      refine List.ext_getElem? fun i => ?_
      by_cases c : i < its.length
      · have h1 : acc'.size = its.length := by rw [hacc.1]; simp
        have h2 : acc'[i]? = some (acc'[i]'(by omega)) := Array.getElem?_eq_getElem (by omega)
        have h3 := hacc.2 i _ h2
        rw [Array.getElem?_toList, h2, List.getElem?_reverse c]
        have h4 : its.toArray.size = its.length := by simp
        rw [h4] at h3
        rw [← h3]
        simp
      · rw [List.getElem?_eq_none (by rw [Array.length_toList, hacc.1]; simp; omega), List.getElem?_eq_none (by rw [List.length_reverse]; omega)]
    rw [this]
    exact rr
  have hsz : s1.heap.objs.size ≤ (s1.heap.push (revObj a ((its.toArray.size : Int) - 1))).objs.size := by rw [size_push']; exact Nat.le_succ _
  refine ⟨.ref _, upd H1 _ (.lst xs.reverse), I1.laid (t' := tk) (fun b o e => hk b o (Nat.ne_of_lt (Heap.lt_size e)) (Heap.get?_push_of_some _ e)) hsz ⟨by rw [List.length_reverse]; exact hz, acc'.toList, c', hv, by simpa using hD⟩, rfl, q _ (I1.hok.fresh hsz)⟩
end
end Wr

set_option Elab.async false
set_option linter.all false
set_option maxRecDepth 100000
set_option maxHeartbeats 2000000
namespace Wp
open PySem PySem.Spec PyProof.Rows L2 Wr
/-! ### the text by its places -/
def top (i : Nat) : Stmt := PySem.Challenge.pw_waysask_s01_answers.main.body.getD i (.Pass ⟨0, 0, 0, 0⟩)
abbrev sWInit : Stmt := inClass (top 1) 0
abbrev sSome2 : Stmt := inClass (top 1) 1
abbrev sEvery2 : Stmt := inClass (top 1) 2
abbrev sSomeU : Stmt := inClass (top 1) 3
abbrev sEveryU : Stmt := inClass (top 1) 4
abbrev sSpread : Stmt := inClass (top 1) 5
abbrev sTaken : Stmt := top 15
abbrev sRight : Stmt := top 16
abbrev sWhere : Stmt := top 17
abbrev sNone : Stmt := top 18
abbrev sOne : Stmt := top 19
abbrev sTwo : Stmt := top 20
abbrev sOpp : Stmt := top 21
abbrev sGInit : Stmt := inClass (top 28) 0
abbrev sHas : Stmt := inClass (top 28) 1
abbrev sOpen : Stmt := inClass (top 28) 2
abbrev sEdge : Stmt := inClass (top 28) 3
abbrev sMarks : Stmt := inClass (top 28) 4
abbrev sFew : Stmt := top 30
abbrev sNextL : Stmt := top 31
abbrev sRowTo : Stmt := top 32
abbrev sAns : Stmt := top 41
abbrev sCall : Stmt := top 42
abbrev sIsLen : Stmt := top 43
abbrev sAWhere : Stmt := top 44
abbrev sAWay : Stmt := top 45
/-! ### what is called, in one word -/
/-- a def of the module that keeps its promise -/
def Callee (P : Program) (w : World) (K : PySem.W.Frag) (mg : Str → Option Value) (base : Heap) (k : Nat) (x : Str) (ps : List Str) (sp : Sp) : Prop :=
  ∃ f fd, mg x = some (.ref f) ∧ PySem.W.keepIn K (.ref f) = true ∧ Binds K fd ps [] ∧ FnOk P w K mg base CX0 k f fd ps sp
/-- a method of the class at C -/
def MethC (P : Program) (w : World) (K : PySem.W.Frag) (mg : Str → Option Value) (base : Heap) (k : Nat) (C : Addr) (m : Str) (ps : List Str) (sp : Sp) : Prop :=
  ∃ f fd, Meth K C m f ∧ Binds K fd ps [] ∧ FnOk P w K mg base CX0 k f fd ps sp
/-- the making of an instance -/
def MakeC (P : Program) (w : World) (K : PySem.W.Frag) (mg : Str → Option Value) (base : Heap) (k : Nat) (C : Addr) (x : Str) (ps : List Str) (sp : Sp) : Prop :=
  ∃ f fd, Mk K C f ∧ mg x = some (.ref C) ∧ Binds K fd ps [] ∧ FnOk P w K mg base CX0 k f fd ps sp
section
variable {X : Cx} {k j : Nat} {C : Addr} {ps : List Str} {sp : Sp} {x m : Str} {p pos apos : Pos} {e o : Expr} {es : List Expr} {ta : TE} {t : TA}
theorem pe_callee (F : Callee X.prog X.w X.K X.mg X.base k x ps sp) (hr : Room j X.A) (hk : k ≤ j) (hg : Gl X x) (ha : PA X (e :: es) t) (hdb : (x == ("__debug__" : Str)) = false := by decide)
    (he : starEach (e :: es) X.env = (false, eval e X.env) :: starEach es X.env := by rfl) (hpl : (backTo pos (starEach es X.env)).any (·.1) = false := by rfl) :
    PE X (.Call (.Name x p) (e :: es) [] pos) (tCall sp [] E0 t) := by
  obtain ⟨f, fd, h1, h2, h3, h4⟩ := F
  exact pe_call h4 (hr.mono hk) hg h1 h2 h3 .nil pass0 ha hdb he hpl
theorem pe_mcallee {pl : Sem Bool} (F : MethC X.prog X.w X.K X.mg X.base k C m ps sp) (hr : Room j X.A) (hk : k ≤ j) (he : PE X o ta) (c : Cls X.K C) (ha : PA X (e :: es) t)
    (hst : starEach (e :: es) X.env = (false, eval e X.env) :: starEach es X.env := by rfl) (hpl : (backTo pos (starEach es X.env)).any (·.1) = false := by rfl)
    (ht : eval (.Call (.Attribute o m apos) (e :: es) [] pos) X.env = (do
      let ov ← eval o X.env
      standAt apos.atName
      let (f, first) ← holding [ov] (getMethod ov m pl)
      callWith pos f first (backTo pos (starEach (e :: es) X.env)) (backToKw pos (keywordEach [] X.env))) := by rfl) :
    PE X (.Call (.Attribute o m apos) (e :: es) [] pos) (tMeth C m sp [] E0 ta t) := by
  obtain ⟨f, fd, h1, h3, h4⟩ := F
  exact pe_meth he c h1 h4 (hr.mono hk) h3 .nil pass0 ha hst hpl ht
theorem pe_makee (F : MakeC X.prog X.w X.K X.mg X.base k C x ps sp) (hr : Room j X.A) (hk : k + 1 ≤ j) (hg : Gl X x) (ha : PA X (e :: es) t) (hdb : (x == ("__debug__" : Str)) = false := by decide)
    (he : starEach (e :: es) X.env = (false, eval e X.env) :: starEach es X.env := by rfl) (hpl : (backTo pos (starEach es X.env)).any (·.1) = false := by rfl) :
    PE X (.Call (.Name x p) (e :: es) [] pos) (tMake C sp [] E0 t) := by
  obtain ⟨f, fd, h1, h2, h3, h4⟩ := F
  exact pe_make h1 h4 (hr.mono hk) hg h2 h3 .nil pass0 ha hdb he hpl
theorem pe_makee0 (F : MakeC X.prog X.w X.K X.mg X.base k C x ps sp) (hr : Room j X.A) (hk : k + 1 ≤ j) (hg : Gl X x) (hdb : (x == ("__debug__" : Str)) = false := by decide) :
    PE X (.Call (.Name x p) [] [] pos) (tMake C sp [] E0 tNil) := by
  obtain ⟨f, fd, h1, h2, h3, h4⟩ := F
  exact pe_make0 h1 h4 (hr.mono hk) hg h2 h3 .nil pass0 hdb
end
/-! ### the module's constants -/
def GI (mg : Str → Option Value) (x : Str) (i : Int) : Prop := ∃ t, mg x = some (.int i t)
def GT (K : PySem.W.Frag) (mg : Str → Option Value) (x : Str) (ns : List Int) : Prop := ∃ a, mg x = some (.ref a) ∧ ∀ H, SqT K H a (ns.map V.int)
section
variable {X : Cx} {x : Str} {pos : Pos}
theorem pe_gint {i : Int} (h : GI X.mg x i) (hg : Gl X x := by rfl) (hd : (x == ("__debug__" : Str)) = false := by decide) : PE X (.Name x pos) (tC (.int i)) := by
  obtain ⟨t, h⟩ := h
  exact pe_glob hg h ⟨t, rfl⟩ hd
/-- a tuple of the module -/
def tGT (K : PySem.W.Frag) (ns : List Int) : TE := fun _ H Q => ∀ a, (∀ H, SqT K H a (ns.map V.int)) → Q (.ref a) H
theorem pe_gtup {ns : List Int} (h : GT X.K X.mg x ns) (hg : Gl X x := by rfl) (hd : (x == ("__debug__" : Str)) = false := by decide) : PE X (.Name x pos) (tGT X.K ns) := by
  obtain ⟨a, h1, h2⟩ := h
  intro pins s σ H Q I k
  exact pe_glob (v := .ref a) hg h1 rfl hd pins s σ H Q I (k a h2)
end
/-- what the text must have -/
structure Txt (K : PySem.W.Frag) (mg : Str → Option Value) (G W : Addr) : Prop where
  gcl : Cls K G
  wcl : Cls K W
  gS : NoAttr K G "state_count"
  gE : NoAttr K G "edge_count"
  gM : NoAttr K G "marks_of"
  gF : NoAttr K G "following"
  wA : NoAttr K W "after"
  wB : NoAttr K W "before"
  i64 : GI mg "EVERYWHERE" 64
  i65 : GI mg "IS_NOT" 65
  i66 : GI mg "BOTH" 66
  i67 : GI mg "ONE_AT_LEAST" 67
  i70 : GI mg "SOME_SECOND" 70
  i71 : GI mg "EVERY_SECOND" 71
  i72 : GI mg "SOME_COMES" 72
  i73 : GI mg "EVERY_COMES" 73
  i74 : GI mg "SOME_KEEPS" 74
  i76 : GI mg "SOME_UNTIL" 76
  of1 : GT K mg "OF_ONE" [65, 70, 71, 72, 73, 74, 75]
  of2 : GT K mg "OF_TWO" [66, 67, 76, 77]
  oor : GI mg "OUT_OF_RANGE" (-2)
  ref : GI mg "REFUSED" (-1)
  mst : GI mg "MOST_STATES" 4096
  med : GI mg "MOST_EDGES" 32768
  mmk : GI mg "MOST_MARKS" 18446744073709551615
  c1 : GI mg "OPEN_GRAPH" 1
  c2 : GI mg "EDGE" 2
  c3 : GI mg "MARKS" 3
  c4 : GI mg "WHERE" 4
  mnu : GI mg "MOST_NUMBERS" 256
  ah1 : GI mg "AHEAD_OF_FORMULA" 1
  ah4 : GI mg "AHEAD_OF_FORMULAS" 4
  range : mg "range" = none
  len : mg "len" = none
  list : mg "list" = none
  enum : mg "enumerate" = none
  zip : mg "zip" = none
  any : mg "any" = none
  all : mg "all" = none
  srt : mg "sorted" = none
  rev : mg "reversed" = none
/-! ### heaps -/
/-- what was tracked stays, but for fp -/
def Keep (fp : List Addr) (H H' : Hp) : Prop := ∀ b o, H b = some o → b ∉ fp → H' b = some o
theorem Same.keep {H H' : Hp} (s : Same H H') (fp : List Addr) : Keep fp H H' := fun b o h _ => s b o h
theorem Keep.same {H H' : Hp} (s : Keep [] H H') : Same H H' := fun b o h => s b o h (by simp)
theorem same_new {H : Hp} {a : Addr} (o : HO) (h : H a = none) : Same H (upd H a o) := fun b u e => by
  rw [upd_ne (ne_of_none e h)]
  exact e
theorem same_upd {H H' : Hp} {a : Addr} (o : HO) (s : Same H H') (h : H a = none) : Same H (upd H' a o) := fun b u e => by
  rw [upd_ne (ne_of_none e h)]
  exact s b u e
theorem seq_upd {K : PySem.W.Frag} {H : Hp} {a l : Addr} {xs : List V} {o : HO} (h : H l = none) (s : SqL K H a xs) : SqL K (upd H l o) a xs := Same.seq (same_new o h) s
/-- small numbers -/
theorem sz {n : Nat} (h : n ≤ 100000) : n ≤ sizeLine := by rw [sizeLine_eq]; omega
theorem szl {n : Nat} (h : n ≤ 100000) : n < sizeLine := by rw [sizeLine_eq]; omega
def nums (l : List Nat) : List V := l.map fun x : Nat => V.int (x : Int)
def bls (l : List Bool) : List V := l.map V.bl
theorem nums_get {l : List Nat} {i x : Nat} (h : l[i]? = some x) : (nums l)[i]? = some (V.int (x : Int)) := by unfold nums; rw [List.getElem?_map, h]; rfl
theorem bls_get {l : List Bool} {i : Nat} {x : Bool} (h : l[i]? = some x) : (bls l)[i]? = some (V.bl x) := by unfold bls; rw [List.getElem?_map, h]; rfl
theorem nums_len (l : List Nat) : (nums l).length = l.length := List.length_map ..
theorem bls_len (l : List Bool) : (bls l).length = l.length := List.length_map ..
theorem of_nums {l : List Nat} {i : Nat} {y : V} (h : (nums l)[i]? = some y) : ∃ x, l[i]? = some x ∧ y = V.int (x : Int) := by
  unfold nums at h
  rw [List.getElem?_map] at h
  cases e : l[i]? with
  | none => rw [e] at h; cases h
  | some x => rw [e] at h; exact ⟨x, rfl, (Option.some.inj h).symm⟩
theorem of_bls {l : List Bool} {i : Nat} {y : V} (h : (bls l)[i]? = some y) : ∃ x, l[i]? = some x ∧ y = V.bl x := by
  unfold bls at h
  rw [List.getElem?_map] at h
  cases e : l[i]? with
  | none => rw [e] at h; cases h
  | some x => rw [e] at h; exact ⟨x, rfl, (Option.some.inj h).symm⟩
theorem nums_snoc {l : List Nat} {i x : Nat} (h : l[i]? = some x) : nums (l.take (i + 1)) = nums (l.take i) ++ [V.int (x : Int)] := by
  rw [List.take_add_one, h]; simp [nums]
theorem bls_snoc {l : List Bool} {i : Nat} {x : Bool} (h : l[i]? = some x) : bls (l.take (i + 1)) = bls (l.take i) ++ [V.bl x] := by
  rw [List.take_add_one, h]; simp [bls]
theorem is_at {x : Ra13.Yes} {a : Nat} (h : a < x.length) : atI (bls x) (a : Int) = some (V.bl (Ra13.is x a)) := atI_nat (bls_get (Wm.is_getElem h))
end Wp

set_option Elab.async false
set_option linter.all false
set_option maxRecDepth 100000
set_option maxHeartbeats 2000000
namespace Wp
open PySem PySem.Spec PyProof.Rows L2 Wr
theorem iteD {c A B : Prop} [Decidable c] (h1 : c → A) (h2 : ¬ c → B) : if decide c = true then A else B := by
  by_cases h : c
  · rw [if_pos (by simpa using h)]; exact h1 h
  · rw [if_neg (by simpa using h)]; exact h2 h
theorem ifY {c A B : Prop} [Decidable c] (hc : c) (h : A) : if decide c = true then A else B := by rw [if_pos (by simpa using hc)]; exact h
theorem ifN {c A B : Prop} [Decidable c] (hc : ¬ c) (h : B) : if decide c = true then A else B := by rw [if_neg (by simpa using hc)]; exact h
theorem ifB {b : Bool} {A B : Prop} (h1 : b = true → A) (h2 : b = false → B) : if b = true then A else B := by
  cases b
  · rw [if_neg (by simp)]; exact h2 rfl
  · rw [if_pos rfl]; exact h1 rfl
theorem ifBT {b : Bool} {A B : Prop} (hb : b = true) (h : A) : if b = true then A else B := by rw [if_pos hb]; exact h
theorem ifBF {b : Bool} {A B : Prop} (hb : b = false) (h : B) : if b = true then A else B := by rw [if_neg (by rw [hb]; simp)]; exact h
theorem inV_int (c : Int) : ∀ ns : List Int, inV (.int c) (ns.map V.int) = decide (c ∈ ns)
  | [] => rfl
  | n :: ns => by
    have ih := inV_int c ns
    unfold inV at ih ⊢
    rw [List.map_cons, List.any_cons, ih]
    show ((n == c) || decide (c ∈ ns)) = decide (c ∈ n :: ns)
    by_cases h : n = c
    · subst h; simp
    · have h' : ¬ c = n := fun q => h q.symm
      simp [h, h']
theorem flat_ints : ∀ ns : List Int, (ns.map V.int).all flatV = true
  | [] => rfl
  | n :: ns => by rw [List.map_cons, List.all_cons, flat_ints ns]; rfl
section
variable {P : Program} {w : World} {K : PySem.W.Frag} {mg : Str → Option Value} {base : Heap} {G W : Addr}
/-! ### how_many_taken -/
def tkV (c : Nat) : V := match Wm.taken c with
  | some k => .int (k : Int)
  | none => .non
def spTaken : Sp := fun vs H Q _ => ∃ c : Nat, vs = [.int (c : Int)] ∧ Q (tkV c) H
theorem scTaken : FnScope ["number"] ["number"] (defScope sTaken) := ⟨rfl, rfl, rfl, by decide +kernel, rfl, by decide +kernel, by decide +kernel⟩
theorem ok_taken {f : Addr} {fd : FuncData} (F : Fun K "how_many_taken" "how_many_taken" sTaken f fd) (T : Txt K mg G W) : FnOk P w K mg base CX0 1 f fd ["number"] spTaken := by
  refine F.ok scTaken (fun vs H Q E h => ?_) (fun cdv A outer s H vs Q E hr h => ?_)
  · obtain ⟨c, rfl, _⟩ := h
    rfl
  · obtain ⟨c, rfl, k⟩ := h
    refine ⟨_, pss_cons (ps_if (pt_chain op_le op_le pe_int (pv 0) (pe_gint T.i64)) (pss_one (ps_ret pe_int)) pss_nil)
      (pss_cons (ps_if (pt_cmpR op_in_seq (pv 0) (pe_gtup T.of1) (by with_unfolding_all rfl)) (pss_one (ps_ret pe_int)) pss_nil)
      (pss_cons (ps_if (pt_cmpR op_in_seq (pv 0) (pe_gtup T.of2) (by with_unfolding_all rfl)) (pss_one (ps_ret pe_int)) pss_nil)
      (pss_one (ps_ret pe_non)))), ?_⟩
    refine ⟨_, rfl, _, _, rfl, rfl, _, rfl, ?_⟩
    refine ifY (Int.natCast_nonneg c) ⟨_, _, rfl, rfl, _, rfl, iteD (fun h64 => ?_) (fun h64 => ?_)⟩
    · have e : Wm.taken c = some 0 := by unfold Wm.taken; rw [if_pos (by omega)]
      have : tkV c = V.int 0 := by unfold tkV; rw [e]; rfl
      rw [this] at k
      exact k
    refine ⟨_, rfl, fun a ha => ⟨a, _, rfl, .inr (ha _), rfl, flat_ints _, _, rfl, ?_⟩⟩
    rw [if_neg (by simp), inV_int]
    refine iteD (fun h1 => ?_) (fun h1 => ?_)
    · have e : Wm.taken c = some 1 := by
        unfold Wm.taken
        rw [if_neg (by omega), if_pos (by simp at h1 ⊢; omega)]
      have : tkV c = V.int 1 := by unfold tkV; rw [e]; rfl
      rw [this] at k
      exact k
    refine ⟨_, rfl, fun a ha => ⟨a, _, rfl, .inr (ha _), rfl, flat_ints _, _, rfl, ?_⟩⟩
    rw [if_neg (by simp), inV_int]
    refine iteD (fun h2 => ?_) (fun h2 => ?_)
    · have e : Wm.taken c = some 2 := by
        unfold Wm.taken
        rw [if_neg (by omega), if_neg (by simp at h1 ⊢; omega), if_pos (by simp at h2 ⊢; omega)]
      have : tkV c = V.int 2 := by unfold tkV; rw [e]; rfl
      rw [this] at k
      exact k
    · have e : Wm.taken c = none := by
        unfold Wm.taken
        rw [if_neg (by omega), if_neg (by simp at h1 ⊢; omega), if_neg (by simp at h2 ⊢; omega)]
      have : tkV c = V.non := by unfold tkV; rw [e]
      rw [this] at k
      exact k
/-! ### is_right -/
def spRight (K : PySem.W.Frag) : Sp := fun vs H Q _ => ∃ (a : Addr) (b : List Nat), vs = [.ref a] ∧ SqL K H a (nums b) ∧ Q (.bl (Ra13.read b).isSome) H
theorem scRight : FnScope ["formula", "height", "number", "taken"] ["formula"] (defScope sRight) := ⟨rfl, rfl, rfl, by decide +kernel, rfl, by decide +kernel, by decide +kernel⟩
theorem ok_right {f : Addr} {fd : FuncData} (F : Fun K "is_right" "is_right" sRight f fd) (T : Txt K mg G W) (FT : Callee P w K mg base 1 "how_many_taken" ["number"] spTaken) : FnOk P w K mg base CX0 3 f fd ["formula"] (spRight K) := by
  refine F.ok scRight (fun vs H Q E h => ?_) (fun cdv A outer s H vs Q E hr h => ?_)
  · obtain ⟨a, b, rfl, _⟩ := h
    rfl
  · obtain ⟨a, b, rfl, hS, k⟩ := h
    refine ⟨_, pss_cons (ps_set (i := 1) scRight.nd rfl (Or.inl rfl) pe_int)
      (pss_cons (ps_for PassesOwn.never rfl (pi_list (pv 0)) (pg_name (i := 2) scRight.nd rfl (Or.inl rfl))
        (pss_cons (ps_set (i := 3) scRight.nd rfl (Or.inl rfl) (pe_callee FT hr (by decide) rfl (pa_cons (pv 2) pa_nil)))
        (pss_cons (ps_if (pw_or (pt_cmp (pc_isN (pv 3))) (pw_or1 (pt_cmpR op_gt (pv 3) (pv 1) (nomark _)))).pt (pss_one (ps_ret pe_bl)) pss_nil)
        (pss_one (ps_set (i := 1) scRight.nd rfl (Or.inl rfl) (pe_op op_add (pe_op op_sub (pv 1) (pv 3)) pe_int))))))
      (pss_one (ps_ret (pe_cmpR op_eq (pv 1) pe_int (nomark _))))), ?_⟩
    refine ⟨_, rfl, a, rfl, ⟨_, hS⟩, for_list (K := K) (a := a) (xs := nums b) (fun i σ H' => ∃ (v2 v3 : Option V) (l : List Ra13.Formula), σ = [some (.ref a), some (.int (l.length : Int)), v2, v3] ∧ H' = H ∧ Ra13.readFrom [] (b.take i) = some l)
      ⟨none, none, [], rfl, rfl, rfl⟩ (fun i σ H' _ ⟨_, _, _, _, e, _⟩ => by rw [e]; exact hS) ?_ ?_⟩
    · rintro i y σ H' hi ⟨v2, v3, l, rfl, rfl, hl⟩
      obtain ⟨c, hc, rfl⟩ := of_nums hi
      refine ⟨_, rfl, c, rfl, ?_⟩
      cases e : Wm.taken c with
      | none =>
        have hv : tkV c = V.non := by unfold tkV; rw [e]
        rw [hv]
        refine ⟨_, rfl, _, rfl, ifY rfl (iteT ?_)⟩
        have : Ra13.read b = none := by
          refine Wm.read_bad ?_
          rw [← List.take_append_drop (i + 1) b, Wm.readFrom_app, Wm.taken_get hc, Wm.readFrom_snoc, hl]
          show (Ra13.byte c l).bind _ = none
          rw [Wm.byte_n e l]
          rfl
        rw [this] at k
        exact k
      | some m =>
        have hv : tkV c = V.int (m : Int) := by unfold tkV; rw [e]
        rw [hv]
        refine ⟨_, rfl, _, rfl, ifN (by simp) ⟨_, rfl, _, rfl, _, _, rfl, rfl, _, rfl, iteD (fun hm => ?_) (fun hm => ?_)⟩⟩
        · have : Ra13.read b = none := by
            refine Wm.read_bad ?_
            rw [← List.take_append_drop (i + 1) b, Wm.readFrom_app, Wm.taken_get hc, Wm.readFrom_snoc, hl]
            show (Ra13.byte c l).bind _ = none
            rw [Wm.byte_bad e (l := l) (by omega)]
            rfl
          rw [this] at k
          exact k
        · obtain ⟨l', h1, h2⟩ := Wm.byte_ok e (l := l) (by omega)
          refine ⟨_, rfl, _, rfl, _, _, rfl, rfl, _, _, rfl, rfl, some (V.int (c : Int)), some (V.int (m : Int)), l', ?_, rfl, ?_⟩
          · have : ((l.length : Int) - (m : Int) + 1) = (l'.length : Int) := by rw [h2]; omega
            rw [← this]
            rfl
          · rw [Wm.taken_get hc, Wm.readFrom_snoc, hl]
            exact h1
    · rintro σ H' ⟨v2, v3, l, rfl, rfl, hl⟩
      rw [nums_len, List.take_length] at hl
      refine ⟨_, rfl, rfl, ?_⟩
      rw [Wm.read_one hl] at k
      have : decide (V.int (l.length : Int) = V.int 1) = decide (l.length = 1) := by
        rw [dec_int]
        by_cases h : l.length = 1
        · simp [h]
        · have : ¬ (l.length : Int) = 1 := by omega
          simp [h, this]
      rw [this]
      exact k
/-! ### opposite -/
def nots (x : List Bool) : List Bool := x.map fun b => !b
def spOpp (K : PySem.W.Frag) : Sp := fun vs H Q _ => ∃ (a : Addr) (x : List Bool), vs = [.ref a] ∧ H a = some (.lst (bls x)) ∧ x.length ≤ 4096 ∧ ∀ (H' : Hp) (r : Addr), Same H H' → H r = none → H' r = some (.lst (bls (nots x))) → Q (.ref r) H'
theorem scOpp : FnScope ["p", "yes"] ["p"] (defScope sOpp) := ⟨rfl, rfl, rfl, by decide +kernel, rfl, by decide +kernel, by decide +kernel⟩
theorem ok_opp {f : Addr} {fd : FuncData} (F : Fun K "opposite" "opposite" sOpp f fd) (T : Txt K mg G W) : FnOk P w K mg base CX0 1 f fd ["p"] (spOpp K) := by
  refine F.ok scOpp (fun vs H Q E h => ?_) (fun cdv A outer s H vs Q E hr h => ?_)
  · obtain ⟨a, x, rfl, _⟩ := h
    rfl
  · obtain ⟨a, x, rfl, ha, hx, k⟩ := h
    refine ⟨_, pss_one (ps_ret (pe_lc rfl scOpp.nd (pi_list (pv 0)) (blkOk_by (show blkC ["p", "yes"] (defScope sOpp) _ [("yes", 1)] = true from by decide +kernel)) (fun _ _ _ _ _ => pg_name (i := 1) scOpp.nd rfl (Or.inl rfl)) (fun _ _ _ _ _ => pts_nil) (fun _ _ _ _ _ => pe_not (pv 1)))), ?_⟩
    refine ⟨_, rfl, a, rfl, ⟨_, SqL.of ha⟩, fun D hD => lc_list (K := K) (a := a) (xs := bls x) (fun i H' => H' = upd H D (.lst (bls ((nots x).take i)))) rfl (fun i H' _ e => by rw [e]; exact seq_upd hD (SqL.of ha)) ?_ ?_⟩
    · rintro i y H' hi rfl
      obtain ⟨b, hb, rfl⟩ := of_bls hi
      have hn : (nots x)[i]? = some (!b) := by unfold nots; rw [List.getElem?_map, hb]; rfl
      refine ⟨rfl, _, rfl, _, rfl, _, upd_same, ?_, ?_⟩
      · rw [bls_len, List.length_take]
        exact szl (by have : (nots x).length = x.length := List.length_map ..; omega)
      · rw [upd_upd, bls_snoc hn]
    · rintro H' rfl
      rw [bls_len, List.take_of_length_le (by unfold nots; rw [List.length_map]; exact Nat.le_refl _)]
      exact k _ D (same_new _ hD) hD upd_same
end
end Wp

set_option Elab.async false
set_option linter.all false
set_option maxRecDepth 100000
set_option maxHeartbeats 2000000
namespace Wp
open PySem PySem.Spec PyProof.Rows L2 Wr
/-! ### the graph as it lies in the heap -/
def gf (n ec : Int) (lm lf : Addr) : List (Str × V) := [("state_count", .int n), ("edge_count", .int ec), ("marks_of", .ref lm), ("following", .ref lf)]
section
variable (n ec z : Int) (lm lf l : Addr)
theorem gf_s : (gf n ec lm lf).lookup ("state_count" : Str) = some (.int n) := rfl
theorem gf_e : (gf n ec lm lf).lookup ("edge_count" : Str) = some (.int ec) := rfl
theorem gf_m : (gf n ec lm lf).lookup ("marks_of" : Str) = some (.ref lm) := rfl
theorem gf_f : (gf n ec lm lf).lookup ("following" : Str) = some (.ref lf) := rfl
theorem gf_ps : putF "state_count" (.int z) (gf n ec lm lf) = gf z ec lm lf := rfl
theorem gf_pe : putF "edge_count" (.int z) (gf n ec lm lf) = gf n z lm lf := rfl
theorem gf_pm : putF "marks_of" (.ref l) (gf n ec lm lf) = gf n ec l lf := rfl
theorem gf_pf : putF "following" (.ref l) (gf n ec lm lf) = gf n ec lm l := rfl
theorem gf_h : (gf n ec lm lf).lookup ("has_state" : Str) = none := rfl
theorem gf_o : (gf n ec lm lf).lookup ("open_graph" : Str) = none := rfl
theorem gf_a : (gf n ec lm lf).lookup ("add_edge" : Str) = none := rfl
theorem gf_k : (gf n ec lm lf).lookup ("set_marks" : Str) = none := rfl
theorem gf_init : putF "following" (.ref lf) (putF "marks_of" (.ref lm) (putF "edge_count" (.int ec) (putF "state_count" (.int n) []))) = gf n ec lm lf := rfl
end
def kvOf (g : Ra13.Abs) (j : Nat) : List (Key × V) := (Wm.succ g j).map fun b : Nat => ((Sum.inl (b : Int) : Key), V.bl true)
structure GrAt (C : Addr) (H : Hp) (p : Addr) (g : Ra13.Abs) (dx lm lf : Addr) (ds : List Addr) : Prop where
  ins : H p = some (.ins C dx (gf (g.states : Int) (g.edges.length : Int) lm lf))
  mrk : H lm = some (.lst (nums g.marks))
  fo : H lf = some (.lst (ds.map V.ref))
  mf : lm ≠ lf
  len : ds.length = g.states
  nd : ds.Nodup
  at_ : ∀ (j : Nat) a, ds[j]? = some a → H a = some (.dK (kvOf g j))
  fit : Wm.Fit g
theorem GrAt.same {C p dx lm lf : Addr} {H H' : Hp} {g : Ra13.Abs} {ds : List Addr} (R : GrAt C H p g dx lm lf ds) (s : Same H H') : GrAt C H' p g dx lm lf ds :=
  ⟨s _ _ R.ins, s _ _ R.mrk, s _ _ R.fo, R.mf, R.len, R.nd, fun j a h => s _ _ (R.at_ j a h), R.fit⟩
def G0 : Ra13.Abs := ⟨0, [], []⟩
theorem fit0 : Wm.Fit G0 := ⟨rfl, List.nodup_nil, fun e h => by cases h⟩
section
variable {P : Program} {w : World} {K : PySem.W.Frag} {mg : Str → Option Value} {base : Heap} {G W : Addr}
/-! ### Graph.__init__ -/
def spGInit (C : Addr) : Sp := fun vs H Q _ => ∃ (p dx : Addr), vs = [.ref p] ∧ H p = some (.ins C dx []) ∧ ∀ (H' : Hp) (lm lf : Addr), GrAt C H' p G0 dx lm lf [] → (∀ b o, H b = some o → b ≠ p → H' b = some o) → H lm = none → H lf = none → Q .non H'
theorem scGInit : FnScope ["self"] ["self"] (defScope sGInit) := ⟨rfl, rfl, rfl, by decide +kernel, rfl, by decide +kernel, by decide +kernel⟩
theorem ok_ginit {f : Addr} {fd : FuncData} (F : Fun K "__init__" "Graph.__init__" sGInit f fd) (T : Txt K mg G W) : FnOk P w K mg base CX0 1 f fd ["self"] (spGInit G) := by
  refine F.ok scGInit (fun vs H Q E h => ?_) (fun cdv A outer s H vs Q E hr h => ?_)
  · obtain ⟨p, dx, rfl, _⟩ := h
    rfl
  · obtain ⟨p, dx, rfl, hp, k⟩ := h
    refine ⟨_, pss_cons (ps_fld (pv 0) pe_int rfl) (pss_cons (ps_fld (pv 0) pe_int rfl) (pss_cons (ps_fld (pv 0) (pe_lst pa_nil) rfl) (pss_one (ps_fld (pv 0) (pe_lst pa_nil) rfl)))), ?_⟩
    refine ⟨_, rfl, p, G, dx, [], rfl, hp, T.gcl, T.gS, (by decide), _, rfl, p, G, dx, _, rfl, upd_same, T.gcl, T.gE, (by decide), (by decide), fun lm hlm => ?_⟩
    have npm : p ≠ lm := by rintro rfl; rw [upd_same] at hlm; cases hlm
    refine ⟨_, rfl, p, G, dx, _, rfl, by rw [upd_ne npm]; exact upd_same, T.gcl, T.gM, (by decide), (by decide), fun lf hlf => ?_⟩
    have npf : p ≠ lf := by rintro rfl; rw [upd_same] at hlf; cases hlf
    have nmf : lm ≠ lf := by rintro rfl; rw [upd_ne (Ne.symm npm), upd_same] at hlf; cases hlf
    refine ⟨_, rfl, p, G, dx, _, rfl, by rw [upd_ne npf]; exact upd_same, T.gcl, T.gF, (by show 3 < 1000; decide), ?_⟩
    rw [upd_ne (Ne.symm npm), upd_ne (Ne.symm npm)] at hlm
    have hlm' : H lm = none := by
      first | exact hlm | (rw [upd_ne (Ne.symm npm)] at hlm; exact hlm)
    have hlf' : H lf = none := by
      rw [upd_ne (Ne.symm npf), upd_ne (Ne.symm nmf), upd_ne (Ne.symm npf), upd_ne (Ne.symm npf)] at hlf
      exact hlf
    refine k _ lm lf ⟨upd_same, ?_, ?_, nmf, rfl, List.nodup_nil, fun j a h => by simp at h, fit0⟩ (fun b o e hb => ?_) hlm' hlf'
    · rw [upd_ne (Ne.symm npm), upd_ne nmf, upd_ne (Ne.symm npm), upd_same]
      rfl
    · rw [upd_ne (Ne.symm npf), upd_same]
      rfl
    · rw [upd_ne hb, upd_ne (ne_of_none e hlf'), upd_ne hb, upd_ne (ne_of_none e hlm'), upd_ne hb, upd_ne hb]
      exact e
/-! ### Graph.has_state -/
def hasB (z n : Int) : Bool := decide (0 ≤ z) && decide (z < n)
def spHas (C : Addr) : Sp := fun vs H Q _ => ∃ (p dx : Addr) (n ec z : Int) (lm lf : Addr), vs = [.ref p, .int z] ∧ H p = some (.ins C dx (gf n ec lm lf)) ∧ Q (.bl (hasB z n)) H
theorem scHas : FnScope ["self", "state"] ["self", "state"] (defScope sHas) := ⟨rfl, rfl, rfl, by decide +kernel, rfl, by decide +kernel, by decide +kernel⟩
theorem ok_has {f : Addr} {fd : FuncData} (F : Fun K "has_state" "Graph.has_state" sHas f fd) (T : Txt K mg G W) : FnOk P w K mg base CX0 1 f fd ["self", "state"] (spHas G) := by
  refine F.ok scHas (fun vs H Q E h => ?_) (fun cdv A outer s H vs Q E hr h => ?_)
  · obtain ⟨p, dx, n, ec, z, lm, lf, rfl, _⟩ := h
    rfl
  · obtain ⟨p, dx, n, ec, z, lm, lf, rfl, hp, k⟩ := h
    refine ⟨_, pss_one (ps_ret (pe_chain op_le op_lt pe_int (pv 1) (pe_fld (pv 0) rfl))), ?_⟩
    refine ⟨_, rfl, _, _, rfl, rfl, _, rfl, iteD (fun h0 => ?_) (fun h0 => ?_)⟩
    · refine ⟨_, rfl, p, G, dx, _, _, rfl, hp, T.gcl, T.gS, gf_s _ _ _ _, _, _, rfl, rfl, ?_⟩
      have : hasB z n = decide (z < n) := by unfold hasB; simp [h0]
      rw [this] at k
      exact k
    · have : hasB z n = false := by unfold hasB; simp; omega
      rw [this] at k
      exact k
end
end Wp

set_option Elab.async false
set_option linter.all false
set_option maxRecDepth 100000
set_option maxHeartbeats 2000000
namespace Wp
open PySem PySem.Spec PyProof.Rows L2 Wr
section
variable {P : Program} {w : World} {K : PySem.W.Frag} {mg : Str → Option Value} {base : Heap} {G W : Addr}
/-! ### Graph.open_graph -/
def spOpen (C : Addr) : Sp := fun vs H Q _ => ∃ (p dx lm lf : Addr) (ds : List Addr) (g : Ra13.Abs) (z : Int), vs = [.ref p, .int z] ∧ GrAt C H p g dx lm lf ds ∧ (¬ (1 ≤ z ∧ z ≤ 4096) → Q (.int (-2)) H) ∧
  (1 ≤ z ∧ z ≤ 4096 → ∀ (H' : Hp) (lm' lf' : Addr) (ds' : List Addr), GrAt C H' p (Ra13.opened z.toNat) dx lm' lf' ds' → Keep [p] H H' → H lm' = none → H lf' = none → (∀ a ∈ ds', H a = none) → Q (.int 0) H')
theorem scOpen : FnScope ["self", "states", "state"] ["self", "states"] (defScope sOpen) := ⟨rfl, rfl, rfl, by decide +kernel, rfl, by decide +kernel, by decide +kernel⟩
theorem fitO (n : Nat) : Wm.Fit (Ra13.opened n) := ⟨by simp [Ra13.opened], List.nodup_nil, fun e h => by cases h⟩
theorem rep_flat (k : Nat) : (List.replicate k [V.int 0]).flatten = nums (List.replicate k 0) := by
  induction k with
  | zero => rfl
  | succ k ih => rw [List.replicate_succ, List.flatten_cons, ih]; rfl
theorem ok_open {f : Addr} {fd : FuncData} (F : Fun K "open_graph" "Graph.open_graph" sOpen f fd) (T : Txt K mg G W) : FnOk P w K mg base CX0 1 f fd ["self", "states"] (spOpen G) := by
  refine F.ok scOpen (fun vs H Q E h => ?_) (fun cdv A outer s H vs Q E hr h => ?_)
  · obtain ⟨p, dx, lm, lf, ds, g, z, rfl, _⟩ := h
    rfl
  · obtain ⟨p, dx, lm, lf, ds, g, z, rfl, R, kb, ko⟩ := h
    refine ⟨_, pss_cons (ps_if (pw_or (pt_cmpR op_lt (pv 1) pe_int (nomark _)) (pw_or1 (pt_cmpR op_gt (pv 1) (pe_gint T.mst) (nomark _)))).pt (pss_one (ps_ret (pe_gint T.oor))) pss_nil)
      (pss_cons (ps_fld (pv 0) (pv 1) rfl)
      (pss_cons (ps_fld (pv 0) pe_int rfl)
      (pss_cons (ps_fld (pv 0) (pe_op op_rep (pe_lst (pa_cons pe_int pa_nil)) (pv 1)) rfl)
      (pss_cons (ps_fld (pv 0) (pe_lc rfl scOpen.nd (pi_range1 rfl T.range (pa_cons (pv 1) pa_nil)) (blkOk_by (show blkC ["self", "states", "state"] (defScope sOpen) _ [("state", 2)] = true from by decide +kernel))
          (fun _ _ _ _ _ => pg_name (i := 2) scOpen.nd rfl (Or.inl rfl)) (fun _ _ _ _ _ => pts_nil) (fun _ _ _ _ _ => pe_dnewK)) rfl)
      (pss_one (ps_ret pe_int)))))), ?_⟩
    refine ⟨_, rfl, _, _, rfl, rfl, _, rfl, iteD (fun h1 => kb (by omega)) (fun h1 => ?_)⟩
    refine ⟨_, rfl, _, _, rfl, rfl, _, rfl, iteD (fun h2 => kb (by omega)) (fun h2 => ?_)⟩
    have hz : 1 ≤ z ∧ z ≤ 4096 := by omega
    -- self.state_count = states; self.edge_count = 0
    refine ⟨_, rfl, _, rfl, p, G, dx, _, rfl, R.ins, T.gcl, T.gS, (by show 4 < 1000; decide), ?_⟩
    refine ⟨_, rfl, p, G, dx, _, rfl, upd_same, T.gcl, T.gE, (by show 4 < 1000; decide), ?_⟩
    rw [gf_ps, gf_pe, upd_upd]
    -- self.marks_of = [0] * states
    refine ⟨sz (by decide), fun l0 hl0 => ?_⟩
    refine ⟨_, rfl, l0, z, _, rfl, rfl, upd_same, by omega, by omega, sz (by show 1 * z.toNat ≤ _; omega), fun lm' hlm' => ?_⟩
    have np0 : p ≠ l0 := by rintro rfl; rw [upd_same] at hl0; cases hl0
    have hl0' : H l0 = none := by rw [upd_ne (Ne.symm np0)] at hl0; exact hl0
    have n0m : l0 ≠ lm' := by rintro rfl; rw [upd_same] at hlm'; cases hlm'
    have npm : p ≠ lm' := by rintro rfl; rw [upd_ne np0, upd_same] at hlm'; cases hlm'
    have hm' : H lm' = none := by rw [upd_ne (Ne.symm n0m), upd_ne (Ne.symm npm)] at hlm'; exact hlm'
    refine ⟨_, rfl, p, G, dx, _, rfl, by rw [upd_ne npm, upd_ne np0]; exact upd_same, T.gcl, T.gM, (by show 4 < 1000; decide), ?_⟩
    rw [gf_pm, rep_flat]
    have c1 : Keep [p] H (upd (upd (upd (upd H p (.ins G dx (gf z 0 lm lf))) l0 (.lst [V.int 0])) lm' (.lst (nums (List.replicate z.toNat 0)))) p (.ins G dx (gf z 0 lm' lf))) := fun b o e hb => by
      have hb' : b ≠ p := by simpa using hb
      rw [upd_ne hb', upd_ne (ne_of_none e hm'), upd_ne (ne_of_none e hl0'), upd_ne hb']
      exact e
    have c2 : (upd (upd (upd (upd H p (.ins G dx (gf z 0 lm lf))) l0 (.lst [V.int 0])) lm' (.lst (nums (List.replicate z.toNat 0)))) p (.ins G dx (gf z 0 lm' lf))) p = some (.ins G dx (gf z 0 lm' lf)) := upd_same
    have c3 : (upd (upd (upd (upd H p (.ins G dx (gf z 0 lm lf))) l0 (.lst [V.int 0])) lm' (.lst (nums (List.replicate z.toNat 0)))) p (.ins G dx (gf z 0 lm' lf))) lm' = some (.lst (nums (List.replicate z.toNat 0))) := by rw [upd_ne (Ne.symm npm)]; exact upd_same
    generalize (upd (upd (upd (upd H p (.ins G dx (gf z 0 lm lf))) l0 (.lst [V.int 0])) lm' (.lst (nums (List.replicate z.toNat 0)))) p (.ins G dx (gf z 0 lm' lf))) = H1 at c1 c2 c3 ⊢
    -- self.following = [{} for state in range(states)]
    have fr : ∀ b, H1 b = none → H b = none := fun b hb => by
      cases e : H b with
      | none => rfl
      | some o =>
        by_cases q : b = p
        · subst q; rw [c2] at hb; cases hb
        · rw [c1 b o e (by simpa using q)] at hb; cases hb
    refine ⟨_, rfl, z, rfl, by omega, by omega, fun D hD => lc_range (fun i H' => ∃ as : List Addr, H' D = some (.lst (as.map V.ref)) ∧ as.length = i ∧ as.Nodup ∧ D ∉ as ∧ (∀ a ∈ as, H1 a = none ∧ H' a = some (.dK [])) ∧ Same H1 H')
      ⟨[], upd_same, rfl, List.nodup_nil, by simp, fun a ha => by simp at ha, same_new _ hD⟩ ?_ ?_⟩
    · rintro i H' hi ⟨as, a1, a2, a3, a4, a5, a6⟩
      refine ⟨rfl, fun d hd => ⟨as.map V.ref, ?_, ?_, as ++ [d], ?_, ?_, ?_, ?_, ?_, ?_⟩⟩
      · rw [upd_ne (ne_of_none a1 hd)]; exact a1
      · rw [List.length_map, a2]; exact szl (by omega)
      · rw [upd_same, List.map_append]; rfl
      · rw [List.length_append, a2]; rfl
      · exact nd_snoc a3 fun m => by rw [(a5 d m).2] at hd; cases hd
      · intro m
        rcases List.mem_append.mp m with m | m
        · exact a4 m
        · have : D = d := by simpa using m
          rw [this] at a1; rw [a1] at hd; cases hd
      · intro a m
        have nDd : d ≠ D := fun q => by rw [q, a1] at hd; cases hd
        rcases List.mem_append.mp m with m | m
        · have nad : a ≠ D := fun q => a4 (q ▸ m)
          rw [upd_ne nad, upd_ne (ne_of_none (a5 a m).2 hd)]
          exact a5 a m
        · have : a = d := by simpa using m
          subst this
          rw [upd_ne nDd, upd_same]
          exact ⟨a6.free hd, rfl⟩
      · intro b o e
        rw [upd_ne (ne_of_none e hD), upd_ne (ne_of_none (a6 b o e) hd)]
        exact a6 b o e
    · rintro H' ⟨as, a1, a2, a3, a4, a5, a6⟩
      refine ⟨_, rfl, p, G, dx, _, rfl, a6 _ _ c2, T.gcl, T.gF, (by show 4 < 1000; decide), ?_⟩
      rw [gf_pf]
      have npD : p ≠ D := ne_of_none c2 hD
      refine ko hz _ lm' D as ⟨?_, ?_, ?_, ne_of_none c3 hD, ?_, a3, ?_, fitO _⟩ (fun b o e hb => ?_) hm' (fr D hD) (fun a ha => fr a (a5 a ha).1)
      · have e1 : ((Ra13.opened z.toNat).states : Int) = z := by show ((z.toNat : Nat) : Int) = z; omega
        rw [e1]
        exact upd_same
      · rw [upd_ne (Ne.symm npm)]; exact a6 _ _ c3
      · rw [upd_ne (Ne.symm npD)]; exact a1
      · exact a2
      · intro j a h
        have m := List.mem_of_getElem? h
        have nap : a ≠ p := fun q => by rw [q] at m; have := (a5 p m).1; rw [c2] at this; cases this
        rw [upd_ne nap]
        exact (a5 a m).2
      · have hb' : b ≠ p := by simpa using hb
        rw [upd_ne hb']
        exact a6 _ _ (c1 b o e hb)
/-! ### Graph.set_marks -/
def does1 (g : Ra13.Abs) (c : Ra13.Call) : Ra13.Abs := ((Ra13.does (some g) c).1).getD g
def doesV (g : Ra13.Abs) (c : Ra13.Call) : Int := (Ra13.does (some g) c).2.value
theorem isState_eq (g : Ra13.Abs) (z : Int) : Ra13.isState g z = hasB z (g.states : Int) := by
  unfold Ra13.isState Ra13.within hasB
  have : decide (z ≤ (g.states : Int) - 1) = decide (z < (g.states : Int)) := by
    by_cases h : z < (g.states : Int)
    · rw [decide_eq_true h, decide_eq_true (by omega)]
    · rw [decide_eq_false h, decide_eq_false (by omega)]
  rw [this]
theorem does_marks_f {g : Ra13.Abs} {a : Int} {x : Nat} (h : hasB a (g.states : Int) = false) : Ra13.does (some g) (.marks a x) = (some g, Ra13.refused) := by
  show (if Ra13.isState g a = true then (some { g with marks := g.marks.set a.toNat x }, ({} : Ra13.Ans)) else (some g, Ra13.refused)) = _
  rw [isState_eq, h]; rfl
theorem does_marks_t {g : Ra13.Abs} {a : Int} {x : Nat} (h : hasB a (g.states : Int) = true) : Ra13.does (some g) (.marks a x) = (some { g with marks := g.marks.set a.toNat x }, {}) := by
  show (if Ra13.isState g a = true then (some { g with marks := g.marks.set a.toNat x }, ({} : Ra13.Ans)) else (some g, Ra13.refused)) = _
  rw [isState_eq, h]; rfl
def spMarks (C : Addr) : Sp := fun vs H Q _ => ∃ (p dx lm lf : Addr) (ds : List Addr) (g : Ra13.Abs) (a x : Int), vs = [.ref p, .int a, .int x] ∧ GrAt C H p g dx lm lf ds ∧ 0 ≤ x ∧ x ≤ 18446744073709551615 ∧
  ∀ H' : Hp, GrAt C H' p (does1 g (.marks a x.toNat)) dx lm lf ds → Keep [lm] H H' → Q (.int (doesV g (.marks a x.toNat))) H'
theorem scMarks : FnScope ["self", "state", "marks"] ["self", "state", "marks"] (defScope sMarks) := ⟨rfl, rfl, rfl, by decide +kernel, rfl, by decide +kernel, by decide +kernel⟩
theorem nums_set (l : List Nat) (i x : Nat) : nums (l.set i x) = (nums l).set i (V.int (x : Int)) := by unfold nums; rw [List.map_set]
theorem hasB_iff {z n : Int} : hasB z n = true ↔ 0 ≤ z ∧ z < n := by unfold hasB; simp
theorem ok_marks {f : Addr} {fd : FuncData} (F : Fun K "set_marks" "Graph.set_marks" sMarks f fd) (T : Txt K mg G W) (FH : MethC P w K mg base 1 G "has_state" ["self", "state"] (spHas G)) : FnOk P w K mg base CX0 3 f fd ["self", "state", "marks"] (spMarks G) := by
  refine F.ok scMarks (fun vs H Q E h => ?_) (fun cdv A outer s H vs Q E hr h => ?_)
  · obtain ⟨p, dx, lm, lf, ds, g, a, x, rfl, _⟩ := h
    rfl
  · obtain ⟨p, dx, lm, lf, ds, g, a, x, rfl, R, x0, x1, k⟩ := h
    refine ⟨_, pss_cons (ps_if (pw_or (pt_not (pt_val (pe_mcallee FH hr (by decide) (pv 0) T.gcl (pa_cons (pv 1) pa_nil)))) (pw_or (pt_cmpR op_lt (pv 2) pe_int (nomark _)) (pw_or1 (pt_cmpR op_gt (pv 2) (pe_gint T.mmk) (nomark _))))).pt (pss_one (ps_ret (pe_gint T.oor))) pss_nil)
      (pss_cons (ps_asg (pv 2) (pg_sub (pe_fld (pv 0) rfl) (pv 1) set_list)) (pss_one (ps_ret pe_int))), ?_⟩
    refine ⟨_, rfl, p, dx, _, rfl, R.ins, gf_h _ _ _ _, _, rfl, p, dx, _, _, a, lm, lf, rfl, R.ins, _, rfl, ?_⟩
    cases hb : hasB a (g.states : Int) with
    | false =>
      refine iteT ?_
      have e1 : does1 g (.marks a x.toNat) = g := by unfold does1; rw [does_marks_f hb]; rfl
      have e2 : doesV g (.marks a x.toNat) = -2 := by unfold doesV; rw [does_marks_f hb]; rfl
      have := k H (by rw [e1]; exact R) (fun b o e _ => e)
      rw [e2] at this
      exact this
    | true =>
      refine iteF ⟨_, rfl, _, _, rfl, rfl, _, rfl, ifN (by omega) ⟨_, rfl, _, _, rfl, rfl, _, rfl, ifN (by omega) ?_⟩⟩
      obtain ⟨h0, h1⟩ := hasB_iff.mp hb
      have hlen : (nums g.marks).length = g.states := by rw [nums_len]; exact R.fit.marks
      refine ⟨_, rfl, _, rfl, p, G, dx, _, _, rfl, R.ins, T.gcl, T.gM, gf_m _ _ _ _, _, rfl, lm, _, a, a.toNat, rfl, rfl, R.mrk, ?_, ?_⟩
      · unfold ixN
        rw [if_pos h0, hlen, if_pos h1]
      · have e1 : does1 g (.marks a x.toNat) = { g with marks := g.marks.set a.toNat x.toNat } := by unfold does1; rw [does_marks_t hb]; rfl
        have e2 : doesV g (.marks a x.toNat) = 0 := by unfold doesV; rw [does_marks_t hb]
        have npm : p ≠ lm := ne_of R.ins R.mrk (by intro q; cases q)
        have ex : V.int x = V.int ((x.toNat : Nat) : Int) := by congr 1; omega
        have := k (upd H lm (.lst ((nums g.marks).set a.toNat (V.int x)))) (by
          rw [e1]
          refine ⟨?_, ?_, ?_, R.mf, R.len, R.nd, ?_, ⟨?_, R.fit.nd, R.fit.lt⟩⟩
          · rw [upd_ne npm]; exact R.ins
          · rw [upd_same, nums_set, ex]
          · rw [upd_ne (Ne.symm R.mf)]; exact R.fo
          · intro j d hd
            rw [upd_ne (ne_of (R.at_ j d hd) R.mrk (by intro q; cases q))]
            exact R.at_ j d hd
          · show (g.marks.set a.toNat x.toNat).length = g.states
            rw [List.length_set]; exact R.fit.marks) (fun b o e hb => by
          have hb' : b ≠ lm := by simpa using hb
          rw [upd_ne hb']; exact e)
        rw [e2] at this
        exact this
/-! ### Graph.add_edge -/
def spEdge (C : Addr) : Sp := fun vs H Q _ => ∃ (p dx lm lf : Addr) (ds : List Addr) (g : Ra13.Abs) (a b : Int), vs = [.ref p, .int a, .int b] ∧ GrAt C H p g dx lm lf ds ∧ g.edges.length ≤ 40000 ∧
  ∀ H' : Hp, GrAt C H' p (does1 g (.edge a b)) dx lm lf ds → Keep (p :: ds) H H' → Q (.int (doesV g (.edge a b))) H'
theorem scEdge : FnScope ["self", "a", "b"] ["self", "a", "b"] (defScope sEdge) := ⟨rfl, rfl, rfl, by decide +kernel, rfl, by decide +kernel, by decide +kernel⟩
theorem does_edge_f {g : Ra13.Abs} {a b : Int} (h : hasB a (g.states : Int) = false ∨ hasB b (g.states : Int) = false) : Ra13.does (some g) (.edge a b) = (some g, Ra13.refused) := by
  show (if Ra13.isState g a = false ∨ Ra13.isState g b = false then (some g, Ra13.refused) else _) = _
  rw [isState_eq, isState_eq, if_pos h]
theorem does_edge_t {g : Ra13.Abs} {a b : Int} (h1 : hasB a (g.states : Int) = true) (h2 : hasB b (g.states : Int) = true) : Ra13.does (some g) (.edge a b) = if g.edges.contains (a.toNat, b.toNat) = true then (some g, {})
    else if Ra13.EDGES ≤ g.edges.length then (some g, { value := -1 }) else (some { g with edges := g.edges ++ [(a.toNat, b.toNat)] }, {}) := by
  show (if Ra13.isState g a = false ∨ Ra13.isState g b = false then (some g, Ra13.refused) else _) = _
  rw [isState_eq, isState_eq, h1, h2, if_neg (by simp)]
theorem val_kv (l : List Nat) (b : Nat) : valV (l.map fun b : Nat => ((Sum.inl (b : Int) : Key), V.bl true)) (Sum.inl (b : Int)) = if b ∈ l then some (V.bl true) else none := by
  induction l with
  | nil => rfl
  | cons x l ih =>
    rw [List.map_cons]
    by_cases h : x = b
    · subst h
      rw [valV_pos rfl, if_pos (List.mem_cons_self ..)]
    · have h' : ¬ b = x := fun q => h q.symm
      rw [valV_neg (by intro q; exact h (by have := Sum.inl.inj q; omega)), ih]
      simp [h']
theorem succ_snoc (g : Ra13.Abs) (a b j : Nat) : Wm.succ { g with edges := g.edges ++ [(a, b)] } j = Wm.succ g j ++ (if j = a then [b] else []) := by
  unfold Wm.succ
  show ((g.edges ++ [(a, b)]).filter _).map _ = _
  rw [List.filter_append, List.map_append, List.filter_cons]
  by_cases h : j = a
  · subst h; simp
  · have h' : ¬ a = j := fun q => h q.symm
    simp [h, h']
theorem contains_succ (g : Ra13.Abs) (a b : Nat) : g.edges.contains (a, b) = decide (b ∈ Wm.succ g a) := by
  by_cases h : (a, b) ∈ g.edges
  · rw [List.contains_iff_mem.mpr h, decide_eq_true (Wm.mem_succ.mpr h)]
  · have h' : ¬ b ∈ Wm.succ g a := fun q => h (Wm.mem_succ.mp q)
    rw [decide_eq_false h']
    cases e : g.edges.contains (a, b) with
    | false => rfl
    | true => exact absurd (List.contains_iff_mem.mp e) h
theorem succ_le (g : Ra13.Abs) (a : Nat) : (Wm.succ g a).length ≤ g.edges.length := by
  unfold Wm.succ
  rw [List.length_map]
  exact List.length_filter_le ..
theorem ok_edge {f : Addr} {fd : FuncData} (F : Fun K "add_edge" "Graph.add_edge" sEdge f fd) (T : Txt K mg G W) (FH : MethC P w K mg base 1 G "has_state" ["self", "state"] (spHas G)) : FnOk P w K mg base CX0 3 f fd ["self", "a", "b"] (spEdge G) := by
  refine F.ok scEdge (fun vs H Q E h => ?_) (fun cdv A outer s H vs Q E hr h => ?_)
  · obtain ⟨p, dx, lm, lf, ds, g, a, b, rfl, _⟩ := h
    rfl
  · obtain ⟨p, dx, lm, lf, ds, g, a, b, rfl, R, hlen, k⟩ := h
    have hu := hu_of hr
    refine ⟨_, pss_cons (ps_if (pw_or (pt_not (pt_val (pe_mcallee FH hr (by decide) (pv 0) T.gcl (pa_cons (pv 1) pa_nil)))) (pw_or1 (pt_not (pt_val (pe_mcallee FH hr (by decide) (pv 0) T.gcl (pa_cons (pv 2) pa_nil)))))).pt (pss_one (ps_ret (pe_gint T.oor))) pss_nil)
      (pss_cons (ps_if (pt_cmp (pc_din hu (pv 2) (pe_ix ix_list (pe_fld (pv 0) rfl) (pv 1) (fun _ _ => rfl)))) (pss_one (ps_ret pe_int)) pss_nil)
      (pss_cons (ps_if (pt_cmpR op_ge (pe_fld (pv 0) rfl) (pe_gint T.med) (nomark _)) (pss_one (ps_ret (pe_gint T.ref))) pss_nil)
      (pss_cons (ps_dput hu (pe_ix ix_list (pe_fld (pv 0) rfl) (pv 1) (fun _ _ => rfl)) (pv 2) pe_bl rfl)
      (pss_cons (ps_fldaug (pv 0) pe_int in_add)
      (pss_one (ps_ret pe_int)))))), ?_⟩
    have bad : (hasB a (g.states : Int) = false ∨ hasB b (g.states : Int) = false) → Q (.int (-2)) H := fun h => by
      have e1 : does1 g (.edge a b) = g := by unfold does1; rw [does_edge_f h]; rfl
      have e2 : doesV g (.edge a b) = -2 := by unfold doesV; rw [does_edge_f h]; rfl
      have := k H (by rw [e1]; exact R) (fun b o e _ => e)
      rw [e2] at this
      exact this
    refine ⟨_, rfl, p, dx, _, rfl, R.ins, gf_h _ _ _ _, _, rfl, p, dx, _, _, a, lm, lf, rfl, R.ins, _, rfl, ?_⟩
    cases ha : hasB a (g.states : Int) with
    | false => exact iteT (bad (.inl ha))
    | true =>
      refine iteF ⟨_, rfl, p, dx, _, rfl, R.ins, gf_h _ _ _ _, _, rfl, p, dx, _, _, b, lm, lf, rfl, R.ins, _, rfl, ?_⟩
      cases hb : hasB b (g.states : Int) with
      | false => exact iteT (bad (.inr hb))
      | true =>
        refine iteF ?_
        obtain ⟨a0, a1⟩ := hasB_iff.mp ha
        obtain ⟨b0, b1⟩ := hasB_iff.mp hb
        have ea : a = ((a.toNat : Nat) : Int) := by omega
        have eb : b = ((b.toNat : Nat) : Int) := by omega
        obtain ⟨d, hd⟩ : ∃ d, ds[a.toNat]? = some d := ⟨_, List.getElem?_eq_getElem (by rw [R.len]; omega)⟩
        have hdk := R.at_ a.toNat d hd
        have hix : atI (ds.map V.ref) a = some (V.ref d) := at_of ea (by rw [List.getElem?_map, hd]; rfl)
        have dt := does_edge_t ha hb
        rw [contains_succ] at dt
        have hval := val_kv (Wm.succ g a.toNat) b.toNat
        rw [← eb] at hval
        refine ⟨_, rfl, _, rfl, p, G, dx, _, _, rfl, R.ins, T.gcl, T.gF, gf_f _ _ _ _, _, rfl, lf, _, a, _, rfl, rfl, SqL.of R.fo, hix, d, _, rfl, DGet.k (k := Sum.inl b) hdk, _, rfl, ?_⟩
        unfold kvOf
        rw [hval]
        by_cases hm : b.toNat ∈ Wm.succ g a.toNat
        · rw [if_pos hm]
          rw [decide_eq_true hm, if_pos rfl] at dt
          refine iteT ?_
          have e1 : does1 g (.edge a b) = g := by unfold does1; rw [dt]; rfl
          have e2 : doesV g (.edge a b) = 0 := by unfold doesV; rw [dt]
          have := k H (by rw [e1]; exact R) (fun b o e _ => e)
          rw [e2] at this
          exact this
        · rw [if_neg hm]
          rw [decide_eq_false hm, if_neg (by simp)] at dt
          refine iteF ⟨_, rfl, p, G, dx, _, _, rfl, R.ins, T.gcl, T.gE, gf_e _ _ _ _, _, _, rfl, rfl, _, rfl, iteD (fun h1 => ?_) (fun h1 => ?_)⟩
          · rw [if_pos (by unfold Ra13.EDGES; omega)] at dt
            have e1 : does1 g (.edge a b) = g := by unfold does1; rw [dt]; rfl
            have e2 : doesV g (.edge a b) = -1 := by unfold doesV; rw [dt]
            have := k H (by rw [e1]; exact R) (fun b o e _ => e)
            rw [e2] at this
            exact this
          · rw [if_neg (by unfold Ra13.EDGES; omega)] at dt
            have e1 : does1 g (.edge a b) = { g with edges := g.edges ++ [(a.toNat, b.toNat)] } := by unfold does1; rw [dt]; rfl
            have e2 : doesV g (.edge a b) = 0 := by unfold doesV; rw [dt]
            refine ⟨_, rfl, p, G, dx, _, _, rfl, R.ins, T.gcl, T.gF, gf_f _ _ _ _, _, rfl, lf, _, a, _, rfl, rfl, SqL.of R.fo, hix, _, rfl, d, _, rfl, DPut.k (k := Sum.inl b) hdk ?_, ?_⟩
            · unfold kvOf
              rw [List.length_map]
              exact szl (by have := succ_le g a.toNat; omega)
            · have npd : p ≠ d := ne_of R.ins hdk (by intro q; cases q)
              refine ⟨_, rfl, p, G, dx, _, _, rfl, by rw [upd_ne npd]; exact R.ins, T.gcl, T.gE, gf_e _ _ _ _, _, _, rfl, rfl, dx, _, by rw [upd_ne npd]; exact R.ins, (by show 4 < 1000; decide), ?_⟩
              rw [gf_pe]
              have hput : putK (kvOf g a.toNat) (Sum.inl b : Key) (V.bl true) = kvOf { g with edges := g.edges ++ [(a.toNat, b.toNat)] } a.toNat := by
                rw [putK_new _ (by unfold kvOf; rw [hval, if_neg hm])]
                unfold kvOf
                rw [succ_snoc, if_pos rfl, List.map_append, eb]
                rfl
              have := k (upd (upd H d (.dK (putK (kvOf g a.toNat) (Sum.inl b : Key) (V.bl true)))) p (.ins G dx (gf (g.states : Int) ((g.edges.length : Int) + 1) lm lf))) (by
                rw [e1]
                refine ⟨?_, ?_, ?_, R.mf, R.len, R.nd, ?_, ⟨R.fit.marks, ?_, ?_⟩⟩
                · have : (({ g with edges := g.edges ++ [(a.toNat, b.toNat)] } : Ra13.Abs).edges.length : Int) = (g.edges.length : Int) + 1 := by
                    show ((g.edges ++ [(a.toNat, b.toNat)]).length : Int) = _
                    rw [List.length_append]; rfl
                  rw [this]
                  exact upd_same
                · rw [upd_ne (ne_of R.mrk R.ins (by intro q; cases q)), upd_ne (ne_of R.mrk hdk (by intro q; cases q))]; exact R.mrk
                · rw [upd_ne (ne_of R.fo R.ins (by intro q; cases q)), upd_ne (ne_of R.fo hdk (by intro q; cases q))]; exact R.fo
                · intro j d' hd'
                  have hdk' := R.at_ j d' hd'
                  rw [upd_ne (ne_of hdk' R.ins (by intro q; cases q))]
                  by_cases hj : d' = d
                  · subst hj
                    have : j = a.toNat := nd_ix R.nd hd' hd
                    subst this
                    rw [upd_same, hput]
                  · rw [upd_ne hj, hdk']
                    have nj : ¬ j = a.toNat := fun q => hj (by rw [q] at hd'; rw [hd'] at hd; exact Option.some.inj hd)
                    unfold kvOf
                    rw [succ_snoc, if_neg nj, List.append_nil]
                · show (g.edges ++ [(a.toNat, b.toNat)]).Nodup
                  exact nd_snoc R.fit.nd fun q => hm (Wm.mem_succ.mpr q)
                · intro e he
                  rcases List.mem_append.mp (show e ∈ g.edges ++ [(a.toNat, b.toNat)] from he) with q | q
                  · exact R.fit.lt e q
                  · have : e = (a.toNat, b.toNat) := by simpa using q
                    subst this
                    exact ⟨by show a.toNat < g.states; omega, by show b.toNat < g.states; omega⟩) (fun c o e hc => by
                have c1 : c ≠ p := fun q => hc (by rw [q]; exact List.mem_cons_self ..)
                have c2 : c ≠ d := fun q => hc (by rw [q]; exact List.mem_cons_of_mem _ (List.mem_of_getElem? hd))
                rw [upd_ne c1, upd_ne c2]
                exact e)
              rw [e2] at this
              exact this
end
end Wp

set_option Elab.async false
set_option linter.all false
set_option maxRecDepth 100000
set_option maxHeartbeats 2000000
namespace Wp
open PySem PySem.Spec PyProof.Rows L2 Wr
/-! ### the ways as they lie in the heap -/
def wf (la lb : Addr) : List (Str × V) := [("after", .ref la), ("before", .ref lb)]
theorem wf_a (la lb : Addr) : (wf la lb).lookup ("after" : Str) = some (.ref la) := rfl
theorem wf_b (la lb : Addr) : (wf la lb).lookup ("before" : Str) = some (.ref lb) := rfl
theorem wf_0 (la : Addr) : ([("after", .ref la)] : List (Str × V)).lookup ("after" : Str) = some (.ref la) := rfl
theorem wf_init (la lb : Addr) : putF "before" (.ref lb) (putF "after" (.ref la) []) = wf la lb := rfl
structure WaAt (C : Addr) (H : Hp) (v : Addr) (g : Ra13.Abs) (dx la lb : Addr) (as bs : List Addr) : Prop where
  ins : H v = some (.ins C dx (wf la lb))
  laa : H la = some (.lst (as.map V.ref))
  lba : H lb = some (.lst (bs.map V.ref))
  alen : as.length = g.states
  blen : bs.length = g.states
  aat : ∀ (j : Nat) a, as[j]? = some a → H a = some (.lst (nums (g.next j)))
  bat : ∀ (j : Nat) a, bs[j]? = some a → H a = some (.lst (nums (Wm.befo g j)))
  fit : Wm.Fit g
theorem WaAt.same {C v dx la lb : Addr} {H H' : Hp} {g : Ra13.Abs} {as bs : List Addr} (R : WaAt C H v g dx la lb as bs) (s : Same H H') : WaAt C H' v g dx la lb as bs :=
  ⟨s _ _ R.ins, s _ _ R.laa, s _ _ R.lba, R.alen, R.blen, fun j a h => s _ _ (R.aat j a h), fun j a h => s _ _ (R.bat j a h), R.fit⟩
/-- while they are made -/
structure Wi (C : Addr) (H H' : Hp) (v : Addr) (g : Ra13.Abs) (dx la lb : Addr) (as bs : List Addr) (bc : Nat → List Nat) : Prop where
  ins : H' v = some (.ins C dx (wf la lb))
  laa : H' la = some (.lst (as.map V.ref))
  lba : H' lb = some (.lst (bs.map V.ref))
  blen : bs.length = g.states
  aat : ∀ (j : Nat) a, as[j]? = some a → H' a = some (.lst (nums (g.next j)))
  bat : ∀ (j : Nat) a, bs[j]? = some a → H' a = some (.lst (nums (bc j)))
  nd : (la :: lb :: (bs ++ as)).Nodup
  new : ∀ a ∈ la :: lb :: (bs ++ as), H a = none
  kp : ∀ b o, H b = some o → b ≠ v → H' b = some o
theorem ne_mem {a b : Addr} {l : List Addr} (h : a ∈ l) (k : b ∉ l) : a ≠ b := fun q => k (by rw [← q]; exact h)
section
variable {C v dx la lb : Addr} {H H' H2 : Hp} {g : Ra13.Abs} {as bs : List Addr} {bc : Nat → List Nat}
theorem Wi.same (R : Wi C H H' v g dx la lb as bs bc) (s : Same H' H2) : Wi C H H2 v g dx la lb as bs bc :=
  ⟨s _ _ R.ins, s _ _ R.laa, s _ _ R.lba, R.blen, fun j a h => s _ _ (R.aat j a h), fun j a h => s _ _ (R.bat j a h), R.nd, R.new, fun b o e h => s _ _ (R.kp b o e h)⟩
theorem Wi.there (R : Wi C H H' v g dx la lb as bs bc) {a : Addr} (h : a ∈ la :: lb :: (bs ++ as)) : ∃ xs, H' a = some (.lst xs) := by
  rcases List.mem_cons.mp h with rfl | h
  · exact ⟨_, R.laa⟩
  rcases List.mem_cons.mp h with rfl | h
  · exact ⟨_, R.lba⟩
  rcases List.mem_append.mp h with h | h
  · obtain ⟨j, hj⟩ := List.getElem?_of_mem h
    exact ⟨_, R.bat j a hj⟩
  · obtain ⟨j, hj⟩ := List.getElem?_of_mem h
    exact ⟨_, R.aat j a hj⟩
theorem Wi.apart (R : Wi C H H' v g dx la lb as bs bc) : la ≠ lb ∧ la ∉ bs ∧ la ∉ as ∧ lb ∉ bs ∧ lb ∉ as ∧ bs.Nodup ∧ ∀ a ∈ bs, a ∉ as := by
  have h := R.nd
  rw [List.nodup_cons, List.nodup_cons, List.nodup_append] at h
  obtain ⟨h1, h2, h3, h4, h5⟩ := h
  simp only [List.mem_cons, List.mem_append, not_or] at h1 h2
  exact ⟨h1.1, h1.2.1, h1.2.2, h2.1, h2.2, h3, fun a ha hb => h5 a ha a hb rfl⟩
/-- self.after.append(seconds) -/
theorem Wi.addA (R : Wi C H H' v g dx la lb as bs bc) {l : Addr} (hl : H' l = some (.lst (nums (g.next as.length)))) (hn : l ∉ la :: lb :: (bs ++ as)) (hH : H l = none) :
    Wi C H (upd H' la (.lst (as.map V.ref ++ [V.ref l]))) v g dx la lb (as ++ [l]) bs bc := by
  obtain ⟨n1, n2, n3, n4, n5, n6, n7⟩ := R.apart
  refine ⟨?_, ?_, ?_, R.blen, fun j a h => ?_, fun j a h => ?_, ?_, fun a h => ?_, fun b o e hb => ?_⟩
  · rw [upd_ne (ne_of R.ins R.laa (by intro q; cases q))]; exact R.ins
  · rw [upd_same, List.map_append]; rfl
  · rw [upd_ne (Ne.symm n1)]; exact R.lba
  · rw [List.getElem?_append] at h
    split at h
    · have m := List.mem_of_getElem? h
      rw [upd_ne (ne_mem m n3)]
      exact R.aat j a h
    · rename_i hj
      have hj2 : j - as.length = 0 ∧ a = l := by
        cases e : j - as.length with
        | zero => rw [e] at h; exact ⟨rfl, (by simpa using h.symm)⟩
        | succ k => rw [e] at h; simp at h
      have : j = as.length := by omega
      rw [hj2.2, this]
      have : l ≠ la := fun q => hn (by rw [q]; exact List.mem_cons_self ..)
      rw [upd_ne this]
      exact hl
  · have m := List.mem_of_getElem? h
    rw [upd_ne (ne_mem m n2)]
    exact R.bat j a h
  · have e : la :: lb :: (bs ++ (as ++ [l])) = (la :: lb :: (bs ++ as)) ++ [l] := by simp
    rw [e]
    exact nd_snoc R.nd hn
  · have e : la :: lb :: (bs ++ (as ++ [l])) = (la :: lb :: (bs ++ as)) ++ [l] := by simp
    rw [e] at h
    rcases List.mem_append.mp h with h | h
    · exact R.new a h
    · have : a = l := by simpa using h
      rw [this]; exact hH
  · rw [upd_ne (ne_of_none e (R.new la (List.mem_cons_self ..)))]
    exact R.kp b o e hb
/-- self.before[second].append(state) -/
theorem Wi.addB (R : Wi C H H' v g dx la lb as bs bc) {t i : Nat} {c : Addr} (hc : bs[t]? = some c) :
    Wi C H (upd H' c (.lst (nums (bc t) ++ [V.int (i : Int)]))) v g dx la lb as bs (fun u => if u = t then bc u ++ [i] else bc u) := by
  obtain ⟨n1, n2, n3, n4, n5, n6, n7⟩ := R.apart
  have mc := List.mem_of_getElem? hc
  have hcc := R.bat t c hc
  have mm : c ∈ la :: lb :: (bs ++ as) := List.mem_cons_of_mem _ (List.mem_cons_of_mem _ (List.mem_append_left _ mc))
  refine ⟨?_, ?_, ?_, R.blen, fun j a h => ?_, fun j a h => ?_, R.nd, R.new, fun b o e hb => ?_⟩
  · rw [upd_ne (ne_of R.ins hcc (by intro q; cases q))]; exact R.ins
  · rw [upd_ne (Ne.symm (ne_mem mc n2))]; exact R.laa
  · rw [upd_ne (Ne.symm (ne_mem mc n4))]; exact R.lba
  · rw [upd_ne (ne_mem (List.mem_of_getElem? h) (n7 c mc))]; exact R.aat j a h
  · by_cases hj : j = t
    · subst hj
      have : a = c := by rw [hc] at h; exact (Option.some.inj h).symm
      rw [this, upd_same, if_pos rfl]
      simp [nums]
    · have : a ≠ c := fun q => hj (nd_ix n6 h (by rw [q]; exact hc))
      rw [upd_ne this, if_neg hj]
      exact R.bat j a h
  · rw [upd_ne (ne_of_none e (R.new c mm))]
    exact R.kp b o e hb
end
/-- of the states below i: those on whose ways t comes second -/
def bef (g : Ra13.Abs) (i t : Nat) : List Nat := (List.range i).filter fun s => (g.next s).contains t
theorem bef_all (g : Ra13.Abs) (t : Nat) : bef g g.states t = Wm.befo g t := rfl
theorem bef_succ (g : Ra13.Abs) (i t : Nat) : bef g (i + 1) t = if t ∈ g.next i then bef g i t ++ [i] else bef g i t := by
  unfold bef
  rw [List.range_succ, List.filter_append, List.filter_cons]
  by_cases h : t ∈ g.next i
  · rw [if_pos (List.contains_iff_mem.mpr h), if_pos h]; rfl
  · rw [if_neg (fun q => h (List.contains_iff_mem.mp q)), if_neg h]; simp
theorem bef_len (g : Ra13.Abs) (i t : Nat) : (bef g i t).length ≤ i := by
  unfold bef
  have := List.length_filter_le (fun s => (g.next s).contains t) (List.range i)
  rw [List.length_range] at this
  exact this
theorem keys_kv (g : Ra13.Abs) (j : Nat) : (kvOf g j).map (fun kv => kV kv.1) = nums (Wm.succ g j) := by
  unfold kvOf nums
  rw [List.map_map]
  rfl
section
variable {P : Program} {w : World} {K : PySem.W.Frag} {mg : Str → Option Value} {base : Heap} {G W : Addr}
/-! ### Ways.__init__ -/
def spWInit (G W : Addr) : Sp := fun vs H Q _ => ∃ (v dv p dx lm lf : Addr) (ds : List Addr) (g : Ra13.Abs), vs = [.ref v, .ref p] ∧ H v = some (.ins W dv []) ∧ GrAt G H p g dx lm lf ds ∧ g.states ≤ 4096 ∧
  ∀ (H' : Hp) (la lb : Addr) (as bs : List Addr), WaAt W H' v g dv la lb as bs → (∀ b o, H b = some o → b ≠ v → H' b = some o) → Q .non H'
theorem scWInit : FnScope ["self", "graph", "state", "seconds", "second"] ["self", "graph"] (defScope sWInit) := ⟨rfl, rfl, rfl, by decide +kernel, rfl, by decide +kernel, by decide +kernel⟩
theorem ok_winit {f : Addr} {fd : FuncData} (F : Fun K "__init__" "Ways.__init__" sWInit f fd) (T : Txt K mg G W) : FnOk P w K mg base CX0 1 f fd ["self", "graph"] (spWInit G W) := by
  refine F.ok scWInit (fun vs H Q E h => ?_) (fun cdv A outer s H vs Q E hr h => ?_)
  · obtain ⟨v, dv, p, dx, lm, lf, ds, g, rfl, _⟩ := h
    rfl
  · obtain ⟨v, dv, p, dx, lm, lf, ds, g, rfl, hv, R, hn, k⟩ := h
    refine ⟨_, pss_cons (ps_fld (pv 0) (pe_lst pa_nil) rfl)
      (pss_cons (ps_fld (pv 0) (pe_lc rfl scWInit.nd (pi_range1 rfl T.range (pa_cons (pe_fld (pv 1) rfl) pa_nil)) (blkOk_by (show blkC ["self", "graph", "state", "seconds", "second"] (defScope sWInit) _ [("state", 2)] = true from by decide +kernel))
          (fun _ _ _ _ _ => pg_name (i := 2) scWInit.nd rfl (Or.inl rfl)) (fun _ _ _ _ _ => pts_nil) (fun _ _ _ _ _ => pe_lst pa_nil)) rfl)
      (pss_one (ps_for PassesOwn.never rfl (pi_range1 rfl T.range (pa_cons (pe_fld (pv 1) rfl) pa_nil)) (pg_name (i := 2) scWInit.nd rfl (Or.inl rfl))
        (pss_cons (ps_set (i := 3) scWInit.nd rfl (Or.inl rfl) (pe_callTy (call_listD rfl) rfl T.list PyProof.Rows.boot_list (pa_cons (pe_ix ix_list (pe_fld (pv 1) rfl) (pv 2) (fun _ _ => rfl)) pa_nil)))
        (pss_cons (ps_if (pt_cmpR op_eq (pe_callB call_len_seq rfl T.len PySem.boot_len (pa_cons (pv 3) pa_nil)) pe_int (nomark _)) (pss_one (ps_set (i := 3) scWInit.nd rfl (Or.inl rfl) (pe_lst (pa_cons (pv 2) pa_nil)))) pss_nil)
        (pss_cons (ps_expr (pe_bm PySem.F.plainAttrs_list PySem.F.slot_list_append PySem.F.type_list_append mt_append (pe_fld (pv 0) rfl) (pa_cons (pv 3) pa_nil)))
        (pss_one (ps_for PassesOwn.never rfl (pi_list (pv 3)) (pg_name (i := 4) scWInit.nd rfl (Or.inl rfl))
          (pss_one (ps_expr (pe_bm PySem.F.plainAttrs_list PySem.F.slot_list_append PySem.F.type_list_append mt_append (pe_ix ix_list (pe_fld (pv 0) rfl) (pv 4) (fun _ _ => rfl)) (pa_cons (pv 2) pa_nil)))))))))))), ?_⟩
    -- self.after = []
    refine ⟨sz (by decide), fun la hla => ⟨_, rfl, v, W, dv, [], rfl, by rw [upd_ne (ne_of_none hv hla)]; exact hv, T.wcl, T.wA, (by decide), ?_⟩⟩
    have nvl : v ≠ la := ne_of_none hv hla
    have nvp : p ≠ v := ne_of R.ins hv (by intro q; cases q)
    have c1 : ∀ b o, H b = some o → b ≠ v → (upd (upd H la (.lst [])) v (.ins W dv [("after", .ref la)])) b = some o := fun b o e hb => by rw [upd_ne hb, upd_ne (ne_of_none e hla)]; exact e
    have c2 : (upd (upd H la (.lst [])) v (.ins W dv [("after", .ref la)])) v = some (.ins W dv [("after", .ref la)]) := upd_same
    have c3 : (upd (upd H la (.lst [])) v (.ins W dv [("after", .ref la)])) la = some (.lst []) := by rw [upd_ne (Ne.symm nvl)]; exact upd_same
    show tSeq _ _ _ _ (upd (upd H la (.lst [])) v (.ins W dv [("after", .ref la)]))
    generalize (upd (upd H la (.lst [])) v (.ins W dv [("after", .ref la)])) = H1 at c1 c2 c3 ⊢
    have fr : ∀ b, H1 b = none → H b = none := fun b hb => by
      cases e : H b with
      | none => rfl
      | some o =>
        by_cases q : b = v
        · subst q; rw [c2] at hb; cases hb
        · rw [c1 b o e q] at hb; cases hb
    have hp1 := c1 p _ R.ins nvp
    -- self.before = [[] for state in range(graph.state_count)]
    refine ⟨_, rfl, p, G, dx, _, _, rfl, hp1, T.gcl, T.gS, gf_s _ _ _ _, (g.states : Int), rfl, by omega, by omega, fun D hD => lc_range (fun i H' => ∃ bs : List Addr, H' D = some (.lst (bs.map V.ref)) ∧ bs.length = i ∧ bs.Nodup ∧ D ∉ bs ∧ (∀ a ∈ bs, H1 a = none ∧ H' a = some (.lst [])) ∧ Same H1 H')
      ⟨[], upd_same, rfl, List.nodup_nil, by simp, fun a ha => by simp at ha, same_new _ hD⟩ ?_ ?_⟩
    · rintro i H' hi ⟨as, a1, a2, a3, a4, a5, a6⟩
      refine ⟨rfl, sz (by decide), fun d hd => ⟨as.map V.ref, ?_, ?_, as ++ [d], ?_, ?_, ?_, ?_, ?_, ?_⟩⟩
      · rw [upd_ne (ne_of_none a1 hd)]; exact a1
      · rw [List.length_map, a2]; exact szl (by omega)
      · rw [upd_same, List.map_append]; rfl
      · rw [List.length_append, a2]; rfl
      · exact nd_snoc a3 fun m => by rw [(a5 d m).2] at hd; cases hd
      · intro m
        rcases List.mem_append.mp m with m | m
        · exact a4 m
        · have : D = d := by simpa using m
          rw [this] at a1; rw [a1] at hd; cases hd
      · intro a m
        have nDd : d ≠ D := fun q => by rw [q, a1] at hd; cases hd
        rcases List.mem_append.mp m with m | m
        · have nad : a ≠ D := ne_mem m a4
          rw [upd_ne nad, upd_ne (ne_of_none (a5 a m).2 hd)]
          exact a5 a m
        · have : a = d := by simpa using m
          subst this
          rw [upd_ne nDd, upd_same]
          exact ⟨a6.free hd, rfl⟩
      · intro b o e
        rw [upd_ne (ne_of_none e hD), upd_ne (ne_of_none (a6 b o e) hd)]
        exact a6 b o e
    · rintro H' ⟨bs, a1, a2, a3, a4, a5, a6⟩
      refine ⟨_, rfl, v, W, dv, _, rfl, a6 _ _ c2, T.wcl, T.wB, (by show 1 < 1000; decide), ?_⟩
      have nvD : v ≠ D := ne_of_none c2 hD
      have W0 : Wi W H (upd H' v (.ins W dv (wf la D))) v g dv la D [] bs (bef g 0) := by
        refine ⟨upd_same, ?_, ?_, a2, fun j a h => by simp at h, fun j a h => ?_, ?_, fun a h => ?_, fun b o e hb => ?_⟩
        · rw [upd_ne (Ne.symm nvl)]; exact a6 _ _ c3
        · rw [upd_ne (Ne.symm nvD)]; exact a1
        · have m := List.mem_of_getElem? h
          have : a ≠ v := fun q => by rw [q] at m; have := (a5 v m).1; rw [c2] at this; cases this
          rw [upd_ne this]
          exact (a5 a m).2
        · rw [List.append_nil, List.nodup_cons, List.nodup_cons]
          refine ⟨?_, a4, a3⟩
          rw [List.mem_cons, not_or]
          exact ⟨ne_of_none c3 hD, fun m => by have := (a5 la m).1; rw [c3] at this; cases this⟩
        · rw [List.append_nil] at h
          rcases List.mem_cons.mp h with rfl | h
          · exact hla
          rcases List.mem_cons.mp h with rfl | h
          · exact fr _ hD
          · exact fr _ (a5 a h).1
        · rw [upd_ne hb]
          exact a6 _ _ (c1 b o e hb)
      rw [show putF "before" (V.ref D) ([("after", V.ref la)] : List (Str × V)) = wf la D from rfl]
      generalize upd H' v (.ins W dv (wf la D)) = H3 at W0 ⊢
      have hp3 : ∀ {as' bs' bc' H4}, Wi W H H4 v g dv la D as' bs' bc' → GrAt G H4 p g dx lm lf ds := fun Z =>
        ⟨Z.kp _ _ R.ins nvp, Z.kp _ _ R.mrk (ne_of R.mrk hv (by intro q; cases q)), Z.kp _ _ R.fo (ne_of R.fo hv (by intro q; cases q)), R.mf, R.len, R.nd, fun j a h => Z.kp _ _ (R.at_ j a h) (ne_of (R.at_ j a h) hv (by intro q; cases q)), R.fit⟩
      refine ⟨_, rfl, p, G, dx, _, _, rfl, (hp3 W0).ins, T.gcl, T.gS, gf_s _ _ _ _, (g.states : Int), rfl, by omega, by omega, for_range (fun i σ H4 => ∃ (v2 v3 v4 : Option V) (as : List Addr), σ = [some (.ref v), some (.ref p), v2, v3, v4] ∧ as.length = i ∧ Wi W H H4 v g dv la D as bs (bef g i))
        ⟨none, none, none, [], rfl, rfl, W0⟩ ?_ ?_⟩
      · rintro i σ H4 hi ⟨v2, v3, v4, as, rfl, has, Z⟩
        rw [Int.zero_add]
        have hig : i < g.states := by omega
        have R4 := hp3 Z
        obtain ⟨d, hd⟩ : ∃ d, ds[i]? = some d := ⟨_, List.getElem?_eq_getElem (by rw [R.len]; exact hig)⟩
        have hdk := R4.at_ i d hd
        refine ⟨_, rfl, p, G, dx, _, _, rfl, R4.ins, T.gcl, T.gF, gf_f _ _ _ _, _, rfl, lf, _, _, _, rfl, rfl, SqL.of R4.fo, atI_nat (by rw [List.getElem?_map, hd]; rfl), d, _, rfl, hdk, fun l hl => ?_⟩
        rw [keys_kv]
        have hsl : (Wm.succ g i).length ≤ 4096 := by
          have := Wm.nd_len (Wm.succ_nd R.fit i) (m := List.range g.states) fun x hx => List.mem_range.mpr (Wm.succ_lt R.fit hx)
          rw [List.length_range] at this; omega
        have hnl : (g.next i).length ≤ 4096 := by rw [Wm.next_eq]; split; (show 1 ≤ 4096; decide); exact hsl
        have Z0 := Z.same (same_new (.lst (nums (Wm.succ g i))) hl)
        have nl0 : l ∉ la :: D :: (bs ++ as) := fun m => by obtain ⟨xs, e⟩ := Z.there m; rw [e] at hl; cases hl
        have hl0 : H l = none := by
          cases e : H l with
          | none => rfl
          | some o =>
            by_cases q : l = v
            · rw [q, Z.ins] at hl; cases hl
            · rw [Z.kp l o e q] at hl; cases hl
        refine ⟨_, rfl, l, _, rfl, .inl (SqL.of upd_same), rfl, _, rfl, ?_⟩
        have turn : ∀ (l : Addr) (H5 : Hp), Wi W H H5 v g dv la D as bs (bef g i) → H5 l = some (.lst (nums (g.next i))) → l ∉ la :: D :: (bs ++ as) → H l = none →
            tSeq (tDrop (tBM K "list" rAppend (tFld K (tVar 0) "after") (tCons (tVar 3) tNil))) (tFor (iList K (tVar 3)) (gName 4) (tDrop (tBM K "list" rAppend (tOp (rIxL K) (tFld K (tVar 0) "before") (tVar 4)) (tCons (tVar 2) tNil))))
              { nx := fun σ H4 => ∃ (v2 v3 v4 : Option V) (as : List Addr), σ = [some (.ref v), some (.ref p), v2, v3, v4] ∧ as.length = i + 1 ∧ Wi W H H4 v g dv la D as bs (bef g (i + 1)), rt := Q, bk := fun _ H' => Q .non H',
                ct := fun σ H4 => ∃ (v2 v3 v4 : Option V) (as : List Addr), σ = [some (.ref v), some (.ref p), v2, v3, v4] ∧ as.length = i + 1 ∧ Wi W H H4 v g dv la D as bs (bef g (i + 1)) }
              [some (.ref v), some (.ref p), some (.int (i : Int)), some (.ref l), v4] H5 := by
          intro l H5 Z5 hc hm hHl
          refine ⟨_, rfl, v, W, dv, _, _, rfl, Z5.ins, T.wcl, T.wA, wf_a _ _, .inl ⟨rfl, _, SqL.of Z5.laa⟩, _, rfl, la, _, _, rfl, rfl, Z5.laa, (by rw [List.length_map, has]; exact szl (by omega)), ?_⟩
          have Z6 := Z5.addA (by rw [has]; exact hc) hm hHl
          have hc6 : (upd H5 la (.lst (as.map V.ref ++ [V.ref l]))) l = some (.lst (nums (g.next i))) := by
            rw [upd_ne (fun q => hm (by rw [q]; exact List.mem_cons_self ..))]; exact hc
          generalize upd H5 la (.lst (as.map V.ref ++ [V.ref l])) = H6 at Z6 hc6 ⊢
          refine ⟨_, rfl, l, rfl, ⟨_, SqL.of hc6⟩, for_list (K := K) (a := l) (xs := nums (g.next i)) (fun j σ H7 => ∃ v4 : Option V, σ = [some (.ref v), some (.ref p), some (.int (i : Int)), some (.ref l), v4] ∧ Wi W H H7 v g dv la D (as ++ [l]) bs (fun u => if u ∈ (g.next i).take j then bef g i u ++ [i] else bef g i u))
            ⟨_, rfl, by simpa using Z6⟩ (fun j σ H7 _ ⟨_, _, Z7⟩ => SqL.of (Z7.aat i l (by rw [List.getElem?_append_right (by omega), has, Nat.sub_self]; rfl))) ?_ ?_⟩
          · rintro j y σ H7 hj ⟨v4', rfl, Z7⟩
            obtain ⟨t, ht, rfl⟩ := of_nums hj
            have mt : t ∈ g.next i := List.mem_of_getElem? ht
            have htg : t < g.states := Wm.next_lt R.fit hig mt
            obtain ⟨c, hc⟩ : ∃ c, bs[t]? = some c := ⟨_, List.getElem?_eq_getElem (by rw [Z7.blen]; exact htg)⟩
            have nt : t ∉ (g.next i).take j := fun m => by
              have nd := Wm.next_nd R.fit i
              obtain ⟨j', hj'⟩ := List.getElem?_of_mem m
              rw [List.getElem?_take] at hj'
              split at hj'
              · have := nd_ix nd hj' ht
                omega
              · cases hj'
            refine ⟨_, rfl, v, W, dv, _, _, rfl, Z7.ins, T.wcl, T.wB, wf_b _ _, _, rfl, D, _, _, V.ref c, rfl, rfl, SqL.of Z7.lba, atI_nat (by rw [List.getElem?_map, hc]; rfl), .inl ⟨rfl, _, SqL.of (Z7.bat t c hc)⟩, _, rfl, c, _, _, rfl, rfl, Z7.bat t c hc, ?_, ?_⟩
            · rw [nums_len, if_neg nt]
              exact szl (by have := bef_len g i t; omega)
            · refine ⟨_, rfl, ?_⟩
              have Z8 := Z7.addB (i := i) hc
              have e : (fun u => if u = t then (fun u => if u ∈ (g.next i).take j then bef g i u ++ [i] else bef g i u) u ++ [i] else (fun u => if u ∈ (g.next i).take j then bef g i u ++ [i] else bef g i u) u) =
                  fun u => if u ∈ (g.next i).take (j + 1) then bef g i u ++ [i] else bef g i u := by
                funext u
                have hmem : u ∈ (g.next i).take (j + 1) ↔ u ∈ (g.next i).take j ∨ u = t := by
                  rw [Wm.taken_get ht, List.mem_append, List.mem_singleton]
                by_cases hu : u = t
                · subst hu
                  rw [if_pos rfl, if_pos (hmem.mpr (.inr rfl))]
                  show (if u ∈ (g.next i).take j then _ else _) ++ [i] = _
                  rw [if_neg nt]
                · rw [if_neg hu]
                  show (if u ∈ (g.next i).take j then _ else _) = _
                  by_cases hm : u ∈ (g.next i).take j
                  · rw [if_pos hm, if_pos (hmem.mpr (.inl hm))]
                  · rw [if_neg hm, if_neg (fun q => (hmem.mp q).elim hm hu)]
              rw [e] at Z8
              exact Z8
          · rintro σ H7 ⟨v4', rfl, Z7⟩
            refine ⟨_, _, _, as ++ [l], rfl, by rw [List.length_append, has]; rfl, ?_⟩
            have e : (fun u => if u ∈ (g.next i).take (nums (g.next i)).length then bef g i u ++ [i] else bef g i u) = bef g (i + 1) := by
              funext u
              rw [nums_len, List.take_length, bef_succ]
            rw [e] at Z7
            exact Z7
        refine iteD (fun hz => ?_) (fun hz => ?_)
        · -- seconds = [state]
          have hz' : Wm.succ g i = [] := by
            have := V.int.inj hz
            rw [nums_len] at this
            exact List.eq_nil_of_length_eq_zero (by omega)
          refine ⟨_, rfl, sz (by show 1 ≤ 100000; decide), fun l' hl' => ?_⟩
          have Z1 := Z0.same (same_new (.lst [V.int (i : Int)]) hl')
          have nl1 : l' ∉ la :: D :: (bs ++ as) := fun m => by obtain ⟨xs, e⟩ := Z0.there m; rw [e] at hl'; cases hl'
          have hl1 : H l' = none := by
            cases e : H l' with
            | none => rfl
            | some o =>
              by_cases q : l' = v
              · rw [q, Z0.ins] at hl'; cases hl'
              · rw [Z0.kp l' o e q] at hl'; cases hl'
          have hc : (upd (upd H4 l (.lst (nums (Wm.succ g i)))) l' (.lst [V.int (i : Int)])) l' = some (.lst (nums (g.next i))) := by
            rw [upd_same, Wm.next_eq, hz']; rfl
          exact turn l' _ Z1 hc nl1 hl1
        · have hz' : ¬ (Wm.succ g i).isEmpty = true := fun q => hz (by
            have : Wm.succ g i = [] := by simpa using q
            rw [this]; rfl)
          have hc : (upd H4 l (.lst (nums (Wm.succ g i)))) l = some (.lst (nums (g.next i))) := by
            rw [upd_same, Wm.next_eq, if_neg hz']
          exact turn l _ Z0 hc nl0 hl0
      · rintro σ H4 ⟨v2, v3, v4, as, rfl, has, Z⟩
        have e : (g.states : Int).toNat = g.states := by omega
        rw [e] at has Z
        exact k H4 la D as bs ⟨Z.ins, Z.laa, Z.lba, has, Z.blen, Z.aat, fun j a h => Z.bat j a h, R.fit⟩ Z.kp
end
end Wp

set_option Elab.async false
set_option linter.all false
set_option maxRecDepth 100000
set_option maxHeartbeats 2000000
namespace Wp
open PySem PySem.Spec PyProof.Rows L2 Wr
theorem of_refs {as : List Addr} {i : Nat} {y : V} (h : (as.map V.ref)[i]? = some y) : ∃ c, as[i]? = some c ∧ y = V.ref c := by
  rw [List.getElem?_map] at h
  cases e : as[i]? with
  | none => rw [e] at h; cases h
  | some c => rw [e] at h; exact ⟨c, rfl, (Option.some.inj h).symm⟩
theorem each_get (g : Ra13.Abs) (f : Nat → Bool) {i : Nat} (h : i < g.states) : (g.each f)[i]? = some (f i) := by
  unfold Ra13.Abs.each
  rw [List.getElem?_map, List.getElem?_range h]
  rfl
section
variable {P : Program} {w : World} {K : PySem.W.Frag} {mg : Str → Option Value} {base : Heap} {G W : Addr}
/-! ### Ways.some_second, every_second -/
def spSec (W : Addr) (f : Ra13.Abs → List Bool → List Bool) : Sp := fun vs H Q _ => ∃ (v dv la lb a : Addr) (as bs : List Addr) (g : Ra13.Abs) (x : List Bool), vs = [.ref v, .ref a] ∧ WaAt W H v g dv la lb as bs ∧ H a = some (.lst (bls x)) ∧ x.length = g.states ∧ g.states ≤ 4096 ∧
  ∀ (H' : Hp) (r : Addr), Same H H' → H r = none → H' r = some (.lst (bls (f g x))) → Q (.ref r) H'
theorem scSome2 : FnScope ["self", "p", "found", "seconds", "second"] ["self", "p"] (defScope sSome2) := ⟨rfl, rfl, rfl, by decide +kernel, rfl, by decide +kernel, by decide +kernel⟩
theorem ok_some2 {f : Addr} {fd : FuncData} (F : Fun K "some_second" "Ways.some_second" sSome2 f fd) (T : Txt K mg G W) : FnOk P w K mg base CX0 1 f fd ["self", "p"] (spSec W fun g x => g.each (g.some_ x)) := by
  refine F.ok scSome2 (fun vs H Q E h => ?_) (fun cdv A outer s H vs Q E hr h => ?_)
  · obtain ⟨v, dv, la, lb, a, as, bs, g, x, rfl, _⟩ := h
    rfl
  · obtain ⟨v, dv, la, lb, a, as, bs, g, x, rfl, R, ha, hx, hn, k⟩ := h
    refine ⟨_, pss_cons (ps_set (i := 2) scSome2.nd rfl (Or.inl rfl) (pe_lst pa_nil))
      (pss_cons (ps_for PassesOwn.never rfl (pi_list (pe_fld (pv 0) rfl)) (pg_name (i := 3) scSome2.nd rfl (Or.inl rfl))
        (pss_one (ps_expr (pe_bm PySem.F.plainAttrs_list PySem.F.slot_list_append PySem.F.type_list_append mt_append (pv 2) (pa_cons
          (pe_callB (cr_any rfl) rfl T.any PyProof.Rows.boot_any (pa_cons (pe_lc rfl scSome2.nd (pi_list (pv 3)) (blkOk_by (show blkC ["self", "p", "found", "seconds", "second"] (defScope sSome2) _ [("second", 4)] = true from by decide +kernel))
            (fun _ _ _ _ _ => pg_name (i := 4) scSome2.nd rfl (Or.inl rfl)) (fun _ _ _ _ _ => pts_nil) (fun _ _ _ _ _ => pe_ix (r := rIxL K) ix_list (pv 1) (pv 4) (fun _ _ => rfl))) pa_nil)) pa_nil)))))
      (pss_one (ps_ret (pv 2)))), ?_⟩
    refine ⟨sz (by decide), fun r hr' => ?_⟩
    refine ⟨_, rfl, v, W, dv, _, _, rfl, (same_new _ hr') _ _ R.ins, T.wcl, T.wA, wf_a _ _, la, rfl, ⟨_, SqL.of ((same_new _ hr') _ _ R.laa)⟩, for_list (K := K) (a := la) (xs := as.map V.ref) (fun i σ H' => ∃ v3 v4 : Option V, σ = [some (.ref v), some (.ref a), some (.ref r), v3, v4] ∧ Same H H' ∧ H' r = some (.lst (bls ((g.each (g.some_ x)).take i))))
      ⟨none, none, rfl, same_new _ hr', upd_same⟩ (fun i σ H' _ ⟨_, _, _, s1, _⟩ => SqL.of (s1 _ _ R.laa)) ?_ ?_⟩
    · rintro i y σ H' hi ⟨v3, v4, rfl, s1, hrr⟩
      obtain ⟨c, hc, rfl⟩ := of_refs hi
      have hig : i < g.states := by have := (List.getElem?_eq_some_iff.mp hc).1; rw [R.alen] at this; exact this
      have hcc := s1 _ _ (R.aat i c hc)
      have nl : (g.next i).length ≤ 4096 := by
        have := Wm.nd_len (Wm.next_nd R.fit i) (m := List.range g.states) fun z hz => List.mem_range.mpr (Wm.next_lt R.fit hig hz)
        rw [List.length_range] at this; omega
      refine ⟨_, rfl, .inl ⟨rfl, _, SqL.of hrr⟩, ?_⟩
      refine ⟨_, rfl, c, rfl, ⟨_, SqL.of hcc⟩, fun D hD => lc_list (K := K) (a := c) (xs := nums (g.next i)) (fun j H2 => H2 = upd H' D (.lst (bls (((g.next i).map (Ra13.is x)).take j)))) rfl (fun j H2 _ e => by rw [e]; exact seq_upd hD (SqL.of hcc)) ?_ ?_⟩
      · rintro j y H2 hj rfl
        obtain ⟨t, ht, rfl⟩ := of_nums hj
        have tl : t < x.length := by rw [hx]; exact Wm.next_lt R.fit hig (List.mem_of_getElem? ht)
        have hm : ((g.next i).map (Ra13.is x))[j]? = some (Ra13.is x t) := by rw [List.getElem?_map, ht]; rfl
        refine ⟨rfl, _, rfl, _, rfl, a, _, _, _, rfl, rfl, SqL.of ((same_new _ hD) _ _ (s1 _ _ ha)), is_at tl, _, upd_same, ?_, ?_⟩
        · rw [bls_len, List.length_take, List.length_map]
          exact szl (by omega)
        · rw [upd_upd, bls_snoc hm]
      · rintro H2 rfl
        rw [nums_len, List.take_of_length_le (by rw [List.length_map]; exact Nat.le_refl _)]
        have nr : r ≠ D := ne_of_none hrr hD
        refine ⟨D, (g.next i).map (Ra13.is x), rfl, SqL.of upd_same, r, _, _, rfl, rfl, by rw [upd_ne nr]; exact hrr, ?_, ?_⟩
        · rw [bls_len, List.length_take]
          exact szl (by have := Wm.each_len g (g.some_ x); omega)
        · refine ⟨_, _, rfl, ?_, ?_⟩
          · exact same_upd _ (s1.trans (same_new _ hD)) hr'
          · have e : ((g.next i).map (Ra13.is x)).any id = g.some_ x i := by rw [List.any_map]; rfl
            rw [upd_same, bls_snoc (each_get g _ hig), e]
    · rintro σ H' ⟨v3, v4, rfl, s1, hrr⟩
      rw [List.length_map, R.alen, List.take_of_length_le (by rw [Wm.each_len]; exact Nat.le_refl _)] at hrr
      exact ⟨_, rfl, k H' r s1 hr' hrr⟩
theorem scEvery2 : FnScope ["self", "p", "found", "seconds", "second"] ["self", "p"] (defScope sEvery2) := ⟨rfl, rfl, rfl, by decide +kernel, rfl, by decide +kernel, by decide +kernel⟩
theorem ok_every2 {f : Addr} {fd : FuncData} (F : Fun K "every_second" "Ways.every_second" sEvery2 f fd) (T : Txt K mg G W) : FnOk P w K mg base CX0 1 f fd ["self", "p"] (spSec W fun g x => g.each (g.all_ x)) := by
  refine F.ok scEvery2 (fun vs H Q E h => ?_) (fun cdv A outer s H vs Q E hr h => ?_)
  · obtain ⟨v, dv, la, lb, a, as, bs, g, x, rfl, _⟩ := h
    rfl
  · obtain ⟨v, dv, la, lb, a, as, bs, g, x, rfl, R, ha, hx, hn, k⟩ := h
    refine ⟨_, pss_cons (ps_set (i := 2) scEvery2.nd rfl (Or.inl rfl) (pe_lst pa_nil))
      (pss_cons (ps_for PassesOwn.never rfl (pi_list (pe_fld (pv 0) rfl)) (pg_name (i := 3) scEvery2.nd rfl (Or.inl rfl))
        (pss_one (ps_expr (pe_bm PySem.F.plainAttrs_list PySem.F.slot_list_append PySem.F.type_list_append mt_append (pv 2) (pa_cons
          (pe_callB (cr_all rfl) rfl T.all PyProof.Rows.boot_all (pa_cons (pe_lc rfl scEvery2.nd (pi_list (pv 3)) (blkOk_by (show blkC ["self", "p", "found", "seconds", "second"] (defScope sEvery2) _ [("second", 4)] = true from by decide +kernel))
            (fun _ _ _ _ _ => pg_name (i := 4) scEvery2.nd rfl (Or.inl rfl)) (fun _ _ _ _ _ => pts_nil) (fun _ _ _ _ _ => pe_ix (r := rIxL K) ix_list (pv 1) (pv 4) (fun _ _ => rfl))) pa_nil)) pa_nil)))))
      (pss_one (ps_ret (pv 2)))), ?_⟩
    refine ⟨sz (by decide), fun r hr' => ?_⟩
    refine ⟨_, rfl, v, W, dv, _, _, rfl, (same_new _ hr') _ _ R.ins, T.wcl, T.wA, wf_a _ _, la, rfl, ⟨_, SqL.of ((same_new _ hr') _ _ R.laa)⟩, for_list (K := K) (a := la) (xs := as.map V.ref) (fun i σ H' => ∃ v3 v4 : Option V, σ = [some (.ref v), some (.ref a), some (.ref r), v3, v4] ∧ Same H H' ∧ H' r = some (.lst (bls ((g.each (g.all_ x)).take i))))
      ⟨none, none, rfl, same_new _ hr', upd_same⟩ (fun i σ H' _ ⟨_, _, _, s1, _⟩ => SqL.of (s1 _ _ R.laa)) ?_ ?_⟩
    · rintro i y σ H' hi ⟨v3, v4, rfl, s1, hrr⟩
      obtain ⟨c, hc, rfl⟩ := of_refs hi
      have hig : i < g.states := by have := (List.getElem?_eq_some_iff.mp hc).1; rw [R.alen] at this; exact this
      have hcc := s1 _ _ (R.aat i c hc)
      have nl : (g.next i).length ≤ 4096 := by
        have := Wm.nd_len (Wm.next_nd R.fit i) (m := List.range g.states) fun z hz => List.mem_range.mpr (Wm.next_lt R.fit hig hz)
        rw [List.length_range] at this; omega
      refine ⟨_, rfl, .inl ⟨rfl, _, SqL.of hrr⟩, ?_⟩
      refine ⟨_, rfl, c, rfl, ⟨_, SqL.of hcc⟩, fun D hD => lc_list (K := K) (a := c) (xs := nums (g.next i)) (fun j H2 => H2 = upd H' D (.lst (bls (((g.next i).map (Ra13.is x)).take j)))) rfl (fun j H2 _ e => by rw [e]; exact seq_upd hD (SqL.of hcc)) ?_ ?_⟩
      · rintro j y H2 hj rfl
        obtain ⟨t, ht, rfl⟩ := of_nums hj
        have tl : t < x.length := by rw [hx]; exact Wm.next_lt R.fit hig (List.mem_of_getElem? ht)
        have hm : ((g.next i).map (Ra13.is x))[j]? = some (Ra13.is x t) := by rw [List.getElem?_map, ht]; rfl
        refine ⟨rfl, _, rfl, _, rfl, a, _, _, _, rfl, rfl, SqL.of ((same_new _ hD) _ _ (s1 _ _ ha)), is_at tl, _, upd_same, ?_, ?_⟩
        · rw [bls_len, List.length_take, List.length_map]
          exact szl (by omega)
        · rw [upd_upd, bls_snoc hm]
      · rintro H2 rfl
        rw [nums_len, List.take_of_length_le (by rw [List.length_map]; exact Nat.le_refl _)]
        have nr : r ≠ D := ne_of_none hrr hD
        refine ⟨D, (g.next i).map (Ra13.is x), rfl, SqL.of upd_same, r, _, _, rfl, rfl, by rw [upd_ne nr]; exact hrr, ?_, ?_⟩
        · rw [bls_len, List.length_take]
          exact szl (by have := Wm.each_len g (g.all_ x); omega)
        · refine ⟨_, _, rfl, ?_, ?_⟩
          · exact same_upd _ (s1.trans (same_new _ hD)) hr'
          · have e : ((g.next i).map (Ra13.is x)).all id = g.all_ x i := by rw [List.all_map]; rfl
            rw [upd_same, bls_snoc (each_get g _ hig), e]
    · rintro σ H' ⟨v3, v4, rfl, s1, hrr⟩
      rw [List.length_map, R.alen, List.take_of_length_le (by rw [Wm.each_len]; exact Nat.le_refl _)] at hrr
      exact ⟨_, rfl, k H' r s1 hr' hrr⟩
end
end Wp

set_option Elab.async false
set_option linter.all false
set_option maxRecDepth 100000
set_option maxHeartbeats 2000000
namespace Wp
open PySem PySem.Spec PyProof.Rows L2 Wr
section
variable {X : Cx}
/-- xs[j] of a list, by values -/
def rGetL (K : PySem.W.Frag) : V → V → Hp → VK → Prop := fun o i H Q => ∃ (p : Addr) (xs : List V) (j : Nat) (v : V), o = .ref p ∧ i = .int (j : Int) ∧ SqL K H p xs ∧ xs[j]? = some v ∧ Q v H
theorem get_list : PGet X (rGetL X.K) := by
  intro pins s σ H o i ov iv Q I ro ri h
  obtain ⟨p, xs, j, v, rfl, rfl, hq, hj, q⟩ := h
  cases ro
  obtain ⟨t, rfl⟩ := ri
  obtain ⟨its, r, pl, hz⟩ := I.list hq
  obtain ⟨w', ew, rw'⟩ := r.get hj
  have hl := r.length
  have hn := line63
  have hlt := (List.getElem?_eq_some_iff.mp hj).1
  exact wpAny_getItem_list pl.isList (by omega) (by omega) (by simpa using ew) ⟨v, H, I, rw', q⟩
end
/-- over enumerate(list) -/
theorem lc_enum {K : PySem.W.Frag} {a : Addr} {xs : List V} {g : TG} {tt : TT} {te : TE} {vs : List Nat} {σ : L2.St} {H1 : Hp} {D : Addr} {Qd : Hp → Prop} (Pv : Nat → Hp → Prop) (h0 : Pv 0 (upd H1 D (.lst []))) (hl : ∀ i H, i ≤ xs.length → Pv i H → SqL K H a xs)
    (hs : ∀ i x T H, xs[i]? = some x → Pv i H → H T = none → g (.ref T) (wipe σ vs) (upd H T (.tup [.int (i : Nat), x])) fun σ2 H2 => wipe σ2 vs = wipe σ vs ∧ tt σ2 H2 fun b H3 =>
      if b = true then te σ2 H3 fun y H4 => ∃ acc, H4 D = some (.lst acc) ∧ acc.length < sizeLine ∧ Pv (i + 1) (upd H4 D (.lst (acc ++ [y]))) else Pv (i + 1) H3) (hd : ∀ H, Pv xs.length H → Qd H) :
    ∃ W : Nat → Nat → Hp → Prop, (∃ m, W 0 m (upd H1 D (.lst []))) ∧ ∀ i m H, W i m H →
      ((Ite K a).stop i H ∧ Qd H) ∨ ((Ite K a).go i H ∧ ∃ Nx : Hp → Prop, (∀ H', Nx H' → ∃ m', m' < m ∧ W (i + 1) m' H') ∧ ∀ x H', (Ite K a).yld i H x H' → g x (wipe σ vs) H' fun σ2 H2 => wipe σ2 vs = wipe σ vs ∧ tt σ2 H2 fun b H3 =>
        if b = true then te σ2 H3 fun y H4 => ∃ acc, H4 D = some (.lst acc) ∧ acc.length < sizeLine ∧ Nx (upd H4 D (.lst (acc ++ [y]))) else Nx H3) := by
  refine ⟨fun i m H => m = xs.length - i ∧ i ≤ xs.length ∧ Pv i H, ⟨xs.length, by simp, Nat.zero_le _, h0⟩, ?_⟩
  rintro i m H ⟨rfl, hi, p⟩
  have q := hl i H hi p
  by_cases hlt : i < xs.length
  · refine .inr ⟨⟨xs, xs[i], q, by simp [hlt]⟩, Pv (i + 1), fun H' p' => ⟨xs.length - (i + 1), by omega, rfl, hlt, p'⟩, fun x H' y => ?_⟩
    obtain ⟨T, z, rfl, hT, rfl, hz⟩ := y
    exact hs i z T H (hz xs q) p hT
  · have e : i = xs.length := by omega
    subst e
    exact .inl ⟨⟨xs, q, Nat.le_refl _⟩, hd H p⟩
/-- over zip of two lists of one length -/
theorem lc_zip {K : PySem.W.Frag} {a b : Addr} {xs ys : List V} {g : TG} {tt : TT} {te : TE} {vs : List Nat} {σ : L2.St} {H1 : Hp} {D : Addr} {Qd : Hp → Prop} (Pv : Nat → Hp → Prop) (h0 : Pv 0 (upd H1 D (.lst []))) (he : xs.length = ys.length) (hl : ∀ i H, i ≤ xs.length → Pv i H → SqL K H a xs ∧ SqL K H b ys)
    (hs : ∀ i x y T H, xs[i]? = some x → ys[i]? = some y → Pv i H → H T = none → g (.ref T) (wipe σ vs) (upd H T (.tup [x, y])) fun σ2 H2 => wipe σ2 vs = wipe σ vs ∧ tt σ2 H2 fun b H3 =>
      if b = true then te σ2 H3 fun y H4 => ∃ acc, H4 D = some (.lst acc) ∧ acc.length < sizeLine ∧ Pv (i + 1) (upd H4 D (.lst (acc ++ [y]))) else Pv (i + 1) H3) (hd : ∀ H, Pv xs.length H → Qd H) :
    ∃ W : Nat → Nat → Hp → Prop, (∃ m, W 0 m (upd H1 D (.lst []))) ∧ ∀ i m H, W i m H →
      ((Itz K a b).stop i H ∧ Qd H) ∨ ((Itz K a b).go i H ∧ ∃ Nx : Hp → Prop, (∀ H', Nx H' → ∃ m', m' < m ∧ W (i + 1) m' H') ∧ ∀ x H', (Itz K a b).yld i H x H' → g x (wipe σ vs) H' fun σ2 H2 => wipe σ2 vs = wipe σ vs ∧ tt σ2 H2 fun b H3 =>
        if b = true then te σ2 H3 fun y H4 => ∃ acc, H4 D = some (.lst acc) ∧ acc.length < sizeLine ∧ Nx (upd H4 D (.lst (acc ++ [y]))) else Nx H3) := by
  refine ⟨fun i m H => m = xs.length - i ∧ i ≤ xs.length ∧ Pv i H, ⟨xs.length, by simp, Nat.zero_le _, h0⟩, ?_⟩
  rintro i m H ⟨rfl, hi, p⟩
  obtain ⟨q1, q2⟩ := hl i H hi p
  by_cases hlt : i < xs.length
  · refine .inr ⟨⟨xs, ys, xs[i], ys[i]'(by omega), q1, q2, by simp [hlt], by simp [show i < ys.length by omega]⟩, Pv (i + 1), fun H' p' => ⟨xs.length - (i + 1), by omega, rfl, hlt, p'⟩, fun x H' y => ?_⟩
    obtain ⟨T, z1, z2, rfl, hT, rfl, hz1, hz2⟩ := y
    exact hs i z1 z2 T H (hz1 xs q1) (hz2 ys q2) p hT
  · have e : i = xs.length := by omega
    subst e
    exact .inl ⟨⟨xs, ys, q1, q2, .inl (Nat.le_refl _)⟩, hd H p⟩
/-- the places that are yes -/
def yesAt (q : List Bool) (i : Nat) : List Nat := (List.range i).filter (Ra13.is q)
theorem yesAt_succ (q : List Bool) (i : Nat) : yesAt q (i + 1) = if Ra13.is q i = true then yesAt q i ++ [i] else yesAt q i := by
  unfold yesAt
  rw [List.range_succ, List.filter_append, List.filter_cons]
  split <;> simp
theorem yesAt_len (q : List Bool) (i : Nat) : (yesAt q i).length ≤ i := by
  unfold yesAt
  have := List.length_filter_le (Ra13.is q) (List.range i)
  rw [List.length_range] at this
  exact this
theorem nums_app (l m : List Nat) : nums (l ++ m) = nums l ++ nums m := by unfold nums; rw [List.map_append]
def zs (l : List Int) : List V := l.map V.int
theorem zs_get {l : List Int} {i : Nat} {x : Int} (h : l[i]? = some x) : (zs l)[i]? = some (V.int x) := by unfold zs; rw [List.getElem?_map, h]; rfl
theorem zs_set (l : List Int) (i : Nat) (x : Int) : zs (l.set i x) = (zs l).set i (V.int x) := by unfold zs; rw [List.map_set]
theorem bls_set (l : List Bool) (i : Nat) (x : Bool) : bls (l.set i x) = (bls l).set i (V.bl x) := by unfold bls; rw [List.map_set]
theorem zs_len (l : List Int) : (zs l).length = l.length := List.length_map ..
theorem nums_zs (l : List Nat) : nums l = zs (l.map fun x : Nat => (x : Int)) := by unfold nums zs; rw [List.map_map]; rfl
theorem ixN_nat {n i : Nat} (h : i < n) : ixN n (i : Int) = some i := by
  unfold ixN
  rw [if_pos (by omega), if_pos (by omega)]
  simp
/-- between two turns of spread's while -/
structure SpAt (H H' : Hp) (rf rl rp : Addr) (found : List Bool) (lack : List Int) (pend : List Nat) : Prop where
  sm : Same H H'
  f : H' rf = some (.lst (bls found))
  l : H' rl = some (.lst (zs lack))
  p : H' rp = some (.lst (nums pend))
  fl : rf ≠ rl
  fp : rf ≠ rp
  lp : rl ≠ rp
  nf : H rf = none
  nl : H rl = none
  np : H rp = none
section
variable {H H' : Hp} {rf rl rp : Addr} {found : List Bool} {lack : List Int} {pend : List Nat}
theorem SpAt.setF (R : SpAt H H' rf rl rp found lack pend) (x : List Bool) : SpAt H (upd H' rf (.lst (bls x))) rf rl rp x lack pend :=
  ⟨same_upd _ R.sm R.nf, upd_same, by rw [upd_ne (Ne.symm R.fl)]; exact R.l, by rw [upd_ne (Ne.symm R.fp)]; exact R.p, R.fl, R.fp, R.lp, R.nf, R.nl, R.np⟩
theorem SpAt.setL (R : SpAt H H' rf rl rp found lack pend) (x : List Int) : SpAt H (upd H' rl (.lst (zs x))) rf rl rp found x pend :=
  ⟨same_upd _ R.sm R.nl, by rw [upd_ne R.fl]; exact R.f, upd_same, by rw [upd_ne (Ne.symm R.lp)]; exact R.p, R.fl, R.fp, R.lp, R.nf, R.nl, R.np⟩
theorem SpAt.setP (R : SpAt H H' rf rl rp found lack pend) (x : List Nat) : SpAt H (upd H' rp (.lst (nums x))) rf rl rp found lack x :=
  ⟨same_upd _ R.sm R.np, by rw [upd_ne R.fp]; exact R.f, by rw [upd_ne R.lp]; exact R.l, upd_same, R.fl, R.fp, R.lp, R.nf, R.nl, R.np⟩
end
section
variable {P : Program} {w : World} {K : PySem.W.Frag} {mg : Str → Option Value} {base : Heap} {G W : Addr}
/-! ### Ways.spread -/
def spSpread (W : Addr) : Sp := fun vs H Q _ => ∃ (v dv la lb a b c : Addr) (as bs : List Addr) (g : Ra13.Abs) (p q : List Bool) (need : Nat → Nat) (pre : Ra13.Yes → Nat → Bool), vs = [.ref v, .ref a, .ref b, .ref c] ∧ WaAt W H v g dv la lb as bs ∧
  H a = some (.lst (bls p)) ∧ p.length = g.states ∧ H b = some (.lst (bls q)) ∧ q.length = g.states ∧ H c = some (.lst (nums ((List.range g.states).map need))) ∧ g.states ≤ 4096 ∧ Wm.Mono pre ∧ Wm.Needs g pre need ∧ (∀ s, s < g.states → 0 < need s) ∧
  ∀ (H' : Hp) (r : Addr), Same H H' → H r = none → H' r = some (.lst (bls (Wm.till g pre p q))) → Q (.ref r) H'
theorem scSpread : FnScope ["self", "p", "q", "needed", "found", "lacking", "pending", "second", "state", "yes"] ["self", "p", "q", "needed"] (defScope sSpread) := ⟨rfl, rfl, rfl, by decide +kernel, rfl, by decide +kernel, by decide +kernel⟩
theorem ok_spread {f : Addr} {fd : FuncData} (F : Fun K "spread" "Ways.spread" sSpread f fd) (T : Txt K mg G W) : FnOk P w K mg base CX0 1 f fd ["self", "p", "q", "needed"] (spSpread W) := by
  refine F.ok scSpread (fun vs H Q E h => ?_) (fun cdv A outer s H vs Q E hr h => ?_)
  · obtain ⟨v, dv, la, lb, a, b, c, as, bs, g, p, q, need, pre, rfl, _⟩ := h
    rfl
  · obtain ⟨v, dv, la, lb, a, b, c, as, bs, g, p, q, need, pre, rfl, R, ha, hp, hb, hq, hc, hn, mo, nee, n0, k⟩ := h
    refine ⟨_, pss_cons (ps_set (i := 4) scSpread.nd rfl (Or.inl rfl) (pe_callTy call_list_of rfl T.list PyProof.Rows.boot_list (pa_cons (pv 2) pa_nil)))
      (pss_cons (ps_set (i := 5) scSpread.nd rfl (Or.inl rfl) (pe_callTy call_list_of rfl T.list PyProof.Rows.boot_list (pa_cons (pv 3) pa_nil)))
      (pss_cons (ps_setLc (i := 6) rfl scSpread.nd rfl rfl (sw_true rfl rfl rfl rfl) (pi_enum rfl T.enum (pa_cons (pv 2) pa_nil)) (blkOk_by (show blkC ["self", "p", "q", "needed", "found", "lacking", "pending", "second", "state", "yes"] (defScope sSpread) _ [("state", 8), ("yes", 9)] = true from by decide +kernel))
          (fun _ _ _ _ _ => show PG _ _ (gTup K 2 (gCons (gName 8) (gCons (gName 9) gNil))) from pg_tup (n := 2) rfl (pgs_cons (pg_name (i := 8) scSpread.nd rfl (Or.inl rfl)) (pgs_cons (pg_name (i := 9) scSpread.nd rfl (Or.inl rfl)) pgs_nil))) (fun _ _ _ _ _ => pts_one (pt_val (pv 9))) (fun _ _ _ _ _ => pv 8))
      (pss_cons (ps_while PassesOwn.never (pt_cmpR op_gt (pe_callB call_len_seq rfl T.len PySem.boot_len (pa_cons (pv 6) pa_nil)) pe_int (nomark _))
        (pss_cons (ps_set (i := 7) scSpread.nd rfl (Or.inl rfl) (pe_bm0 PySem.F.plainAttrs_list PySem.F.slot_list_pop PySem.F.type_list_pop mt_pop (pv 6)))
        (pss_one (ps_for PassesOwn.never rfl (pi_list (pe_ix ix_list (pe_fld (pv 0) rfl) (pv 7) (fun _ _ => rfl))) (pg_name (i := 8) scSpread.nd rfl (Or.inl rfl))
          (pss_cons (ps_augS (pv 5) (pv 8) get_list pe_int ip_sub set_list)
          (pss_one (ps_if (pw_and (pt_val (pe_ix ix_list (pv 1) (pv 8) (fun _ _ => rfl))) (pw_and (pt_not (pt_val (pe_ix ix_list (pv 4) (pv 8) (fun _ _ => rfl)))) (pw_and1 (pt_cmpR op_le (pe_ix ix_list (pv 5) (pv 8) (fun _ _ => rfl)) pe_int (nomark _))))).pt
            (pss_cons (ps_asg pe_bl (pg_sub (pv 4) (pv 8) set_list))
            (pss_one (ps_expr (pe_bm PySem.F.plainAttrs_list PySem.F.slot_list_append PySem.F.type_list_append mt_append (pv 6) (pa_cons (pv 8) pa_nil)))))
            pss_nil)))))))
      (pss_one (ps_ret (pv 4)))))), ?_⟩
    -- found = list(q); lacking = list(needed)
    refine ⟨_, rfl, b, _, rfl, .inl (SqL.of hb), fun rf hrf => ?_⟩
    refine ⟨_, rfl, c, _, rfl, .inl (SqL.of ((same_new _ hrf) _ _ hc)), fun rl hrl => ?_⟩
    have nfl : rf ≠ rl := by rintro rfl; rw [upd_same] at hrl; cases hrl
    have hrl' : H rl = none := by rw [upd_ne (Ne.symm nfl)] at hrl; exact hrl
    have s1 : Same H (upd (upd H rf (.lst (bls q))) rl (.lst (nums ((List.range g.states).map need)))) := same_upd _ (same_new _ hrf) hrl'
    have f1 : (upd (upd H rf (.lst (bls q))) rl (.lst (nums ((List.range g.states).map need)))) rf = some (.lst (bls q)) := by rw [upd_ne nfl]; exact upd_same
    have l1 : (upd (upd H rf (.lst (bls q))) rl (.lst (nums ((List.range g.states).map need)))) rl = some (.lst (zs ((List.range g.states).map fun s => (need s : Int)))) := by rw [upd_same, nums_zs, List.map_map]; rfl
    generalize (upd (upd H rf (.lst (bls q))) rl (.lst (nums ((List.range g.states).map need)))) = H1 at s1 f1 l1 ⊢
    -- pending = [state for state, yes in enumerate(q) if yes]
    refine ⟨_, rfl, b, _, rfl, SqL.of (s1 _ _ hb), fun rp hrp => lc_enum (K := K) (a := b) (xs := bls q) (fun i H2 => Same H1 H2 ∧ H2 rp = some (.lst (nums (yesAt q i)))) ⟨same_new _ hrp, upd_same⟩ (fun i H2 _ e => SqL.of (e.1 _ _ (s1 _ _ hb))) ?_ ?_⟩
    · rintro i x t H2 hi ⟨s2, e2⟩ hT
      obtain ⟨y, hy, rfl⟩ := of_bls hi
      have hil := (List.getElem?_eq_some_iff.mp hy).1
      have ey : Ra13.is q i = y := Wm.getElem_is hy
      have nT : rp ≠ t := ne_of_none e2 hT
      refine ⟨t, _, rfl, SqT.of upd_same, rfl, _, _, rfl, _, _, rfl, rfl, rfl, _, rfl, _, rfl, ifB (fun h => ?_) (fun h => ?_)⟩
      · refine ⟨_, rfl, _, by rw [upd_ne nT]; exact e2, ?_, ?_, ?_⟩
        · rw [nums_len]; exact szl (by have := yesAt_len q i; omega)
        · exact same_upd _ (s2.trans (same_new _ hT)) hrp
        · rw [upd_same, yesAt_succ, ey, if_pos h, nums_app]; rfl
      · refine ⟨s2.trans (same_new _ hT), ?_⟩
        rw [upd_ne nT, yesAt_succ, ey, h]
        exact e2
    · rintro H2 ⟨s2, e2⟩
      rw [bls_len] at e2
      have S0 : SpAt H H2 rf rl rp q ((List.range g.states).map fun s => (need s : Int)) (yesAt q q.length) :=
        ⟨s1.trans s2, s2 _ _ f1, s2 _ _ l1, e2, nfl, ne_of_none f1 hrp, ne_of_none l1 hrp, hrf, hrl', s1.free hrp⟩
      have M0 : Wm.Spr g pre need p q q ((List.range g.states).map fun s => (need s : Int)) (yesAt q q.length) [] :=
        Wm.Spr.begin n0 hq _ (by simp) (fun s hs => by rw [List.getElem?_map, List.getElem?_range hs]; rfl) _ (List.Pairwise.filter _ List.nodup_range) (fun u => by
          unfold yesAt
          rw [List.mem_filter, List.mem_range]
          exact ⟨fun h => ⟨Wm.is_lt h, h⟩, fun h => h.2⟩)
      -- while len(pending) > 0
      refine ⟨fun m σ H' => ∃ (v7 v8 v9 : Option V) (found : List Bool) (lack : List Int) (pend D : List Nat), σ = [some (.ref v), some (.ref a), some (.ref b), some (.ref c), some (.ref rf), some (.ref rl), some (.ref rp), v7, v8, v9] ∧
        SpAt H H' rf rl rp found lack pend ∧ Wm.Spr g pre need p q found lack pend D ∧ m = g.states - D.length, ⟨_, none, none, none, q, _, _, [], rfl, S0, M0, rfl⟩, ?_⟩
      rintro m σ H' ⟨v7, v8, v9, found, lack, pend, D, rfl, S, M, rfl⟩
      refine ⟨_, rfl, rp, _, rfl, .inl (SqL.of S.p), _, _, rfl, rfl, _, rfl, iteD (fun hl => ?_) (fun hl => ?_)⟩
      · -- a turn
        have hne : pend ≠ [] := fun q => by rw [q] at hl; exact absurd hl (by decide)
        obtain ⟨pend', t, rfl⟩ : ∃ pend' t, pend = pend' ++ [t] := ⟨pend.dropLast, pend.getLast hne, (List.dropLast_concat_getLast hne).symm⟩
        have rm := M.room
        rw [List.length_append] at rm
        have rm' : D.length + (pend'.length + 1) ≤ g.states := rm
        have tg : t < g.states := by rw [← M.flen]; exact Wm.is_lt ((M.sub t).mpr (.inl (by simp)))
        refine ⟨fun σ H' => ∃ (v7 v8 v9 : Option V) (found : List Bool) (lack : List Int) (pend : List Nat), σ = [some (.ref v), some (.ref a), some (.ref b), some (.ref c), some (.ref rf), some (.ref rl), some (.ref rp), v7, v8, v9] ∧
          SpAt H H' rf rl rp found lack pend ∧ Wm.Spr g pre need p q found lack pend (t :: D), ?_, ?_⟩
        · rintro σ' H3 ⟨v7, v8, v9, found, lack, pend, rfl, S, M⟩
          exact ⟨g.states - (t :: D).length, by rw [List.length_cons]; omega, v7, v8, v9, found, lack, pend, t :: D, rfl, S, M, rfl⟩
        · -- second = pending.pop()
          refine ⟨_, rfl, .inl ⟨rfl, _, SqL.of S.p⟩, rp, _, V.int (t : Int), rfl, rfl, S.p, ?_, ?_⟩
          · rw [nums_app, List.length_append, show (nums [t]).length = 1 from rfl, Nat.add_sub_cancel, List.getElem?_append_right (Nat.le_refl _), Nat.sub_self]
            rfl
          have ed : (nums (pend' ++ [t])).dropLast = nums pend' := by rw [nums_app]; exact List.dropLast_concat
          rw [ed]
          have S1 := S.setP pend'
          have M1 := M.take
          generalize upd H' rp (.lst (nums pend')) = H3 at S1 ⊢
          have R3 := R.same S1.sm
          obtain ⟨d, hd⟩ : ∃ d, bs[t]? = some d := ⟨_, List.getElem?_eq_getElem (by rw [R.blen]; exact tg)⟩
          -- for state in self.before[second]
          refine ⟨_, rfl, v, W, dv, _, _, rfl, R3.ins, T.wcl, T.wB, wf_b _ _, _, rfl, lb, _, _, V.ref d, rfl, rfl, SqL.of R3.lba, atI_nat (by rw [List.getElem?_map, hd]; rfl), d, rfl, ⟨_, SqL.of (R3.bat t d hd)⟩, for_list (K := K) (a := d) (xs := nums (Wm.befo g t))
            (fun j σ H' => ∃ (v8 : Option V) (found : List Bool) (lack : List Int) (pend : List Nat), σ = [some (.ref v), some (.ref a), some (.ref b), some (.ref c), some (.ref rf), some (.ref rl), some (.ref rp), some (.int (t : Int)), v8, v9] ∧
              SpAt H H' rf rl rp found lack pend ∧ Wm.Tur g pre need p q found lack pend D t ((Wm.befo g t).take j))
            ⟨v8, found, lack, pend', rfl, S1, by simpa using M1⟩ (fun j σ H' _ ⟨_, _, _, _, _, S2, _⟩ => SqL.of (S2.sm _ _ (R.bat t d hd))) ?_ ?_⟩
          · rintro j y σ H4 hj ⟨v8, found, lack, pend, rfl, S2, M2⟩
            obtain ⟨z, hz, rfl⟩ := of_nums hj
            have mz : z ∈ Wm.befo g t := List.mem_of_getElem? hz
            obtain ⟨zg, zn⟩ := Wm.mem_befo.mp mz
            have nz : z ∉ (Wm.befo g t).take j := fun m => by
              obtain ⟨j', hj'⟩ := List.getElem?_of_mem m
              rw [List.getElem?_take] at hj'
              split at hj'
              · have := nd_ix (Wm.befo_nd t) hj' hz
                omega
              · cases hj'
            have hlk := M2.now zg nz
            -- lacking[state] -= 1
            refine ⟨_, rfl, _, rfl, rl, _, z, _, rfl, rfl, SqL.of S2.l, zs_get hlk, _, _, rfl, rfl, rl, _, _, z, rfl, rfl, S2.l, ixN_nat (by rw [zs_len, M2.llen]; exact zg), ?_⟩
            rw [← zs_set]
            have S3 := S2.setL (lack.set z ((need z : Int) - (Wm.cnt g D z : Nat) - 1))
            have hl3 : (lack.set z ((need z : Int) - (Wm.cnt g D z : Nat) - 1))[z]? = some ((need z : Int) - (Wm.cnt g D z : Nat) - 1) := List.getElem?_set_self (by rw [M2.llen]; exact zg)
            generalize upd H4 rl (.lst (zs (lack.set z ((need z : Int) - (Wm.cnt g D z : Nat) - 1)))) = H5 at S3 ⊢
            have tk := Wm.taken_get hz
            -- if p[state] and not found[state] and lacking[state] <= 0
            refine ⟨_, rfl, _, rfl, a, _, _, _, rfl, rfl, SqL.of (S3.sm _ _ ha), is_at (by rw [hp]; exact zg), _, rfl, ifB (fun hpz => ?_) (fun hpz => ?_)⟩
            · refine ⟨_, rfl, _, rfl, rf, _, _, _, rfl, rfl, SqL.of S3.f, is_at (by rw [M2.flen]; exact zg), _, rfl, ?_⟩
              cases hfz : Ra13.is found z with
              | true =>
                refine iteF ⟨_, found, _, pend, rfl, S3, ?_⟩
                rw [tk]
                exact M2.pass zg nz fun _ h2 => by rw [hfz] at h2; cases h2
              | false =>
                refine iteT ⟨_, rfl, _, rfl, rl, _, _, _, rfl, rfl, SqL.of S3.l, atI_nat (zs_get hl3), _, _, rfl, rfl, _, rfl, iteD (fun h0 => ?_) (fun h0 => ?_)⟩
                · -- found[state] = True; pending.append(state)
                  refine ⟨_, rfl, _, rfl, rf, _, _, z, rfl, rfl, S3.f, ixN_nat (by rw [bls_len, M2.flen]; exact zg), ?_⟩
                  rw [← bls_set]
                  have S4 := S3.setF (found.set z true)
                  generalize upd H5 rf (.lst (bls (found.set z true))) = H6 at S4 ⊢
                  have M3 := M2.find R.fit nee mz nz hpz hfz h0
                  rw [← tk] at M3
                  have hpl : pend.length ≤ 4096 := by
                    have h1 : ∀ x ∈ pend, x ∈ List.range g.states := fun x hx => by
                      rw [List.mem_range, ← M2.flen]
                      exact Wm.is_lt ((M2.sub x).mpr (.inl hx))
                    have h2 := Wm.nd_len (List.nodup_append.mp M2.nd).1 h1
                    rw [List.length_range] at h2
                    omega
                  refine ⟨_, rfl, .inl ⟨rfl, _, SqL.of S4.p⟩, _, rfl, rp, _, _, rfl, rfl, S4.p, by rw [nums_len]; exact szl (by omega), ?_⟩
                  have S5 := S4.setP (pend ++ [z])
                  rw [nums_app] at S5
                  exact ⟨_, _, _, pend ++ [z], rfl, S5, M3⟩
                · refine ⟨_, found, _, pend, rfl, S3, ?_⟩
                  rw [tk]
                  exact M2.pass zg nz fun _ _ => h0
            · refine ⟨_, found, _, pend, rfl, S3, ?_⟩
              rw [tk]
              exact M2.pass zg nz fun h1 _ => by rw [hpz] at h1; cases h1
          · rintro σ H4 ⟨v8, found, lack, pend, rfl, S2, M2⟩
            rw [nums_len, List.take_length] at M2
            exact ⟨_, v8, _, found, lack, pend, rfl, S2, M2.close R.fit⟩
      · -- return found
        have hnil : pend = [] := by
          rw [nums_len] at hl
          exact List.eq_nil_of_length_eq_zero (by omega)
        subst hnil
        have e := M.fin nee mo
        refine ⟨_, rfl, k H' rf S.sm S.nf ?_⟩
        rw [← e]
        exact S.f
end
end Wp

set_option Elab.async false
set_option linter.all false
set_option maxRecDepth 100000
set_option maxHeartbeats 2000000
namespace Wp
open PySem PySem.Spec PyProof.Rows L2 Wr
theorem bit_at (m c : Nat) : decide (V.int (Builtin.bitAnd ((m : Int) / 2 ^ ((c : Int)).toNat) 1) = V.int 1) = m.testBit c := by
  rw [dec_int, bitAnd_m1, Nat.testBit_eq_decide_div_mod_eq]
  have e : ((m : Int) / 2 ^ ((c : Int)).toNat) % 2 = ((m / 2 ^ c % 2 : Nat) : Int) := by
    simp [Int.natCast_ediv, Int.natCast_emod]
  rw [e]
  by_cases h : m / 2 ^ c % 2 = 1
  · rw [h]; rfl
  · have : ¬ ((m / 2 ^ c % 2 : Nat) : Int) = 1 := by omega
    rw [decide_eq_false h]
    exact beq_eq_false_iff_ne.mpr this
theorem rep_true (k : Nat) : (List.replicate k [V.bl true]).flatten = bls (List.replicate k true) := by
  induction k with
  | zero => rfl
  | succ k ih => rw [List.replicate_succ, List.flatten_cons, ih]; rfl
theorem rep_one (k : Nat) : (List.replicate k [V.int 1]).flatten = nums ((List.range k).map fun _ => 1) := by
  have : ((List.range k).map fun _ => 1) = List.replicate k 1 := by simp [List.map_const']
  rw [this]
  induction k with
  | zero => rfl
  | succ k ih =>
    rw [List.replicate_succ, List.flatten_cons, ih (by simp [List.map_const'])]; rfl
section
variable {P : Program} {w : World} {K : PySem.W.Frag} {mg : Str → Option Value} {base : Heap} {G W : Addr}
/-! ### Ways.some_until, every_until -/
def spUntil (W : Addr) (f : Ra13.Abs → List Bool → List Bool → List Bool) : Sp := fun vs H Q _ => ∃ (v dv la lb a b : Addr) (as bs : List Addr) (g : Ra13.Abs) (p q : List Bool), vs = [.ref v, .ref a, .ref b] ∧ WaAt W H v g dv la lb as bs ∧
  H a = some (.lst (bls p)) ∧ p.length = g.states ∧ H b = some (.lst (bls q)) ∧ q.length = g.states ∧ g.states ≤ 4096 ∧ ∀ (H' : Hp) (r : Addr), Same H H' → H r = none → H' r = some (.lst (bls (f g p q))) → Q (.ref r) H'
theorem scSomeU : FnScope ["self", "p", "q"] ["self", "p", "q"] (defScope sSomeU) := ⟨rfl, rfl, rfl, by decide +kernel, rfl, by decide +kernel, by decide +kernel⟩
theorem wf_s (la lb : Addr) : (wf la lb).lookup ("spread" : Str) = none := rfl
theorem ok_someU {f : Addr} {fd : FuncData} (F : Fun K "some_until" "Ways.some_until" sSomeU f fd) (T : Txt K mg G W) (FS : MethC P w K mg base 1 W "spread" ["self", "p", "q", "needed"] (spSpread W)) : FnOk P w K mg base CX0 3 f fd ["self", "p", "q"] (spUntil W fun g p q => g.someTill p q) := by
  refine F.ok scSomeU (fun vs H Q E h => ?_) (fun cdv A outer s H vs Q E hr h => ?_)
  · obtain ⟨v, dv, la, lb, a, b, as, bs, g, p, q, rfl, _⟩ := h
    rfl
  · obtain ⟨v, dv, la, lb, a, b, as, bs, g, p, q, rfl, R, ha, hp, hb, hq, hn, k⟩ := h
    refine ⟨_, pss_one (ps_ret (pe_mcallee FS hr (by decide) (pv 0) T.wcl (pa_cons (pv 1) (pa_cons (pv 2) (pa_cons (pe_op op_rep (pe_lst (pa_cons pe_int pa_nil)) (pe_callB call_len_seq rfl T.len PySem.boot_len (pa_cons (pe_fld (pv 0) rfl) pa_nil))) pa_nil))))), ?_⟩
    refine ⟨_, rfl, v, dv, _, rfl, R.ins, wf_s _ _, _, rfl, _, rfl, sz (by decide), fun l0 h0 => ?_⟩
    have s0 := same_new (.lst [V.int 1]) h0
    refine ⟨_, rfl, v, W, dv, _, _, rfl, s0 _ _ R.ins, T.wcl, T.wA, wf_a _ _, la, _, rfl, .inl (SqL.of (s0 _ _ R.laa)), l0, _, _, rfl, rfl, upd_same, by omega, by rw [List.length_map, R.alen]; omega, ?_, fun l1 h1 => ?_⟩
    · rw [List.length_map, R.alen]; exact sz (by show 1 * ((g.states : Nat) : Int).toNat ≤ _; omega)
    rw [rep_one, List.length_map, R.alen, show ((g.states : Nat) : Int).toNat = g.states from by omega]
    have h1' : H l1 = none := s0.free h1
    have s1 : Same H (upd (upd H l0 (.lst [V.int 1])) l1 (.lst (nums ((List.range g.states).map fun _ => 1)))) := same_upd _ s0 h1'
    refine ⟨v, dv, la, lb, a, b, l1, as, bs, g, p, q, fun _ => 1, g.some_, rfl, R.same s1, s1 _ _ ha, hp, s1 _ _ hb, hq, upd_same, hn, Wm.mono_some g, Wm.needs_some, fun _ _ => Nat.one_pos, fun H' r s2 hr2 e => ?_⟩
    exact k H' r (s1.trans s2) (s1.free hr2) e
theorem scEveryU : FnScope ["self", "p", "q", "seconds"] ["self", "p", "q"] (defScope sEveryU) := ⟨rfl, rfl, rfl, by decide +kernel, rfl, by decide +kernel, by decide +kernel⟩
theorem ok_everyU {f : Addr} {fd : FuncData} (F : Fun K "every_until" "Ways.every_until" sEveryU f fd) (T : Txt K mg G W) (FS : MethC P w K mg base 1 W "spread" ["self", "p", "q", "needed"] (spSpread W)) : FnOk P w K mg base CX0 3 f fd ["self", "p", "q"] (spUntil W fun g p q => g.allTill p q) := by
  refine F.ok scEveryU (fun vs H Q E h => ?_) (fun cdv A outer s H vs Q E hr h => ?_)
  · obtain ⟨v, dv, la, lb, a, b, as, bs, g, p, q, rfl, _⟩ := h
    rfl
  · obtain ⟨v, dv, la, lb, a, b, as, bs, g, p, q, rfl, R, ha, hp, hb, hq, hn, k⟩ := h
    refine ⟨_, pss_one (ps_ret (pe_mcallee FS hr (by decide) (pv 0) T.wcl (pa_cons (pv 1) (pa_cons (pv 2) (pa_cons
      (pe_lc rfl scEveryU.nd (pi_list (pe_fld (pv 0) rfl)) (blkOk_by (show blkC ["self", "p", "q", "seconds"] (defScope sEveryU) _ [("seconds", 3)] = true from by decide +kernel))
        (fun _ _ _ _ _ => pg_name (i := 3) scEveryU.nd rfl (Or.inl rfl)) (fun _ _ _ _ _ => pts_nil)
        (fun _ _ _ _ _ => pe_callB (r := fun xs H Q => ∃ p ys, xs = [.ref p] ∧ (SqL K H p ys ∨ SqT K H p ys) ∧ Q (.int ys.length) H) call_len_seq rfl T.len PySem.boot_len (pa_cons (pv 3) pa_nil))) pa_nil))))), ?_⟩
    refine ⟨_, rfl, v, dv, _, rfl, R.ins, wf_s _ _, _, rfl, _, rfl, _, rfl, v, W, dv, _, _, rfl, R.ins, T.wcl, T.wA, wf_a _ _, la, rfl, ⟨_, SqL.of R.laa⟩, fun l1 h1 => lc_list (K := K) (a := la) (xs := as.map V.ref) (fun i H' => H' = upd H l1 (.lst (nums (((List.range g.states).map fun s => (g.next s).length).take i)))) rfl (fun i H' _ e => by rw [e]; exact seq_upd h1 (SqL.of R.laa)) ?_ ?_⟩
    · rintro i y H' hi rfl
      obtain ⟨c, hc, rfl⟩ := of_refs hi
      have hig : i < g.states := by have := (List.getElem?_eq_some_iff.mp hc).1; rw [R.alen] at this; exact this
      have hm : ((List.range g.states).map fun s => (g.next s).length)[i]? = some (g.next i).length := by rw [List.getElem?_map, List.getElem?_range hig]; rfl
      refine ⟨rfl, _, rfl, c, _, rfl, .inl (SqL.of ((same_new _ h1) _ _ (R.aat i c hc))), _, upd_same, ?_, ?_⟩
      · rw [nums_len, List.length_take, List.length_map, List.length_range]; exact szl (by omega)
      · rw [upd_upd, nums_snoc hm, nums_len]
    · rintro H' rfl
      rw [List.length_map, R.alen, List.take_of_length_le (by rw [List.length_map, List.length_range]; exact Nat.le_refl _)]
      have s1 := same_new (.lst (nums ((List.range g.states).map fun s => (g.next s).length))) h1
      refine ⟨v, dv, la, lb, a, b, l1, as, bs, g, p, q, fun s => (g.next s).length, g.all_, rfl, R.same s1, s1 _ _ ha, hp, s1 _ _ hb, hq, upd_same, hn, Wm.mono_all g, Wm.needs_all, fun s _ => Wm.next_pos s, fun H' r s2 hr2 e => ?_⟩
      exact k H' r (s1.trans s2) (s1.free hr2) e
/-! ### of_none -/
def spNone (G : Addr) : Sp := fun vs H Q _ => ∃ (p dx lm lf : Addr) (ds : List Addr) (g : Ra13.Abs) (c : Nat), vs = [.ref p, .int (c : Int)] ∧ GrAt G H p g dx lm lf ds ∧ c ≤ 64 ∧ g.states ≤ 4096 ∧ ∀ (H' : Hp) (r : Addr), Same H H' → H r = none → H' r = some (.lst (bls (g.yes (Wm.f0 c)))) → Q (.ref r) H'
theorem scNone : FnScope ["graph", "number", "marks"] ["graph", "number"] (defScope sNone) := ⟨rfl, rfl, rfl, by decide +kernel, rfl, by decide +kernel, by decide +kernel⟩
theorem ok_none {f : Addr} {fd : FuncData} (F : Fun K "of_none" "of_none" sNone f fd) (T : Txt K mg G W) : FnOk P w K mg base CX0 1 f fd ["graph", "number"] (spNone G) := by
  refine F.ok scNone (fun vs H Q E h => ?_) (fun cdv A outer s H vs Q E hr h => ?_)
  · obtain ⟨p, dx, lm, lf, ds, g, c, rfl, _⟩ := h
    rfl
  · obtain ⟨p, dx, lm, lf, ds, g, c, rfl, R, hc, hn, k⟩ := h
    refine ⟨_, pss_cons (ps_if (pt_cmpR op_eq (pv 1) (pe_gint T.i64) (nomark _)) (pss_one (ps_ret (pe_op op_rep (pe_lst (pa_cons pe_bl pa_nil)) (pe_fld (pv 0) rfl)))) pss_nil)
      (pss_one (ps_ret (pe_lc rfl scNone.nd (pi_list (pe_fld (pv 0) rfl)) (blkOk_by (show blkC ["graph", "number", "marks"] (defScope sNone) _ [("marks", 2)] = true from by decide +kernel))
        (fun _ _ _ _ _ => pg_name (i := 2) scNone.nd rfl (Or.inl rfl)) (fun _ _ _ _ _ => pts_nil) (fun _ _ _ _ _ => pe_cmpR op_eq (pe_op op_and (pe_op op_shr (pv 2) (pv 1)) pe_int) pe_int (nomark _))))), ?_⟩
    refine ⟨_, rfl, rfl, _, rfl, iteD (fun h => ?_) (fun h => ?_)⟩
    · have hc' : c = 64 := by have := V.int.inj h; omega
      subst hc'
      refine ⟨sz (by decide), fun l0 h0 => ?_⟩
      have s0 := same_new (.lst [V.bl true]) h0
      refine ⟨_, rfl, p, G, dx, _, _, rfl, s0 _ _ R.ins, T.gcl, T.gS, gf_s _ _ _ _, l0, _, _, rfl, rfl, upd_same, by omega, by omega, sz (by show 1 * ((g.states : Nat) : Int).toNat ≤ _; omega), fun r hr' => ?_⟩
      refine k _ r (same_upd _ s0 (s0.free hr')) (s0.free hr') ?_
      rw [upd_same, rep_true]
      have : g.yes (Wm.f0 64) = List.replicate g.states true := Wm.each_true
      rw [this, show ((g.states : Nat) : Int).toNat = g.states from by omega]
    · have hc' : ¬ c = 64 := fun q => h (by rw [q]; rfl)
      have ey : g.yes (Wm.f0 c) = g.each fun a => (g.marks.getD a 0).testBit c := by unfold Wm.f0; rw [if_neg hc']; rfl
      refine ⟨_, rfl, p, G, dx, _, _, rfl, R.ins, T.gcl, T.gM, gf_m _ _ _ _, lm, rfl, ⟨_, SqL.of R.mrk⟩, fun D hD => lc_list (K := K) (a := lm) (xs := nums g.marks) (fun i H' => H' = upd H D (.lst (bls ((g.yes (Wm.f0 c)).take i)))) rfl (fun i H' _ e => by rw [e]; exact seq_upd hD (SqL.of R.mrk)) ?_ ?_⟩
      · rintro i y H' hi rfl
        obtain ⟨m, hm, rfl⟩ := of_nums hi
        have hig : i < g.states := by have := (List.getElem?_eq_some_iff.mp hm).1; rw [R.fit.marks] at this; exact this
        have hy : (g.yes (Wm.f0 c))[i]? = some (m.testBit c) := by
          rw [ey, each_get g _ hig, List.getD_eq_getElem?_getD, hm]; rfl
        refine ⟨rfl, _, rfl, _, rfl, _, _, rfl, rfl, by omega, _, _, rfl, rfl, rfl, _, upd_same, ?_, ?_⟩
        · rw [bls_len, List.length_take, Wm.yes_len]; exact szl (by omega)
        · rw [upd_upd, bls_snoc hy, bit_at]
      · rintro H' rfl
        rw [nums_len, R.fit.marks, List.take_of_length_le (by rw [Wm.yes_len]; exact Nat.le_refl _)]
        exact k _ D (same_new _ hD) hD upd_same
end
end Wp

set_option Elab.async false
set_option linter.all false
set_option maxRecDepth 100000
set_option maxHeartbeats 2000000
namespace Wp
open PySem PySem.Spec PyProof.Rows L2 Wr
theorem ieq {c : Nat} {z : Int} (h : V.int (c : Int) = V.int z) : (c : Int) = z := V.int.inj h
section
variable {P : Program} {w : World} {K : PySem.W.Frag} {mg : Str → Option Value} {base : Heap} {G W : Addr}
theorem wf_m1 (la lb : Addr) : (wf la lb).lookup ("some_second" : Str) = none := rfl
theorem wf_m2 (la lb : Addr) : (wf la lb).lookup ("every_second" : Str) = none := rfl
theorem wf_m3 (la lb : Addr) : (wf la lb).lookup ("some_until" : Str) = none := rfl
theorem wf_m4 (la lb : Addr) : (wf la lb).lookup ("every_until" : Str) = none := rfl
theorem nots_len (x : List Bool) : (nots x).length = x.length := List.length_map ..
/-! ### of_one -/
def spOne (W : Addr) : Sp := fun vs H Q _ => ∃ (v dv la lb a : Addr) (as bs : List Addr) (g : Ra13.Abs) (c : Nat) (x : List Bool), vs = [.ref v, .int (c : Int), .ref a] ∧ WaAt W H v g dv la lb as bs ∧ H a = some (.lst (bls x)) ∧ x.length = g.states ∧ g.states ≤ 4096 ∧ Wm.taken c = some 1 ∧
  ∀ (H' : Hp) (r : Addr), Same H H' → H r = none → H' r = some (.lst (bls (Wm.of1 g c x))) → Q (.ref r) H'
theorem scOne : FnScope ["ways", "number", "p", "everywhere"] ["ways", "number", "p"] (defScope sOne) := ⟨rfl, rfl, rfl, by decide +kernel, rfl, by decide +kernel, by decide +kernel⟩
theorem ok_one {f : Addr} {fd : FuncData} (F : Fun K "of_one" "of_one" sOne f fd) (T : Txt K mg G W) (FO : Callee P w K mg base 1 "opposite" ["p"] (spOpp K))
    (F1 : MethC P w K mg base 1 W "some_second" ["self", "p"] (spSec W fun g x => g.each (g.some_ x))) (F2 : MethC P w K mg base 1 W "every_second" ["self", "p"] (spSec W fun g x => g.each (g.all_ x)))
    (F3 : MethC P w K mg base 3 W "some_until" ["self", "p", "q"] (spUntil W fun g p q => g.someTill p q)) (F4 : MethC P w K mg base 3 W "every_until" ["self", "p", "q"] (spUntil W fun g p q => g.allTill p q)) : FnOk P w K mg base CX0 5 f fd ["ways", "number", "p"] (spOne W) := by
  refine F.ok scOne (fun vs H Q E h => ?_) (fun cdv A outer s H vs Q E hr h => ?_)
  · obtain ⟨v, dv, la, lb, a, as, bs, g, c, x, rfl, _⟩ := h
    rfl
  · obtain ⟨v, dv, la, lb, a, as, bs, g, c, x, rfl, R, ha, hx, hn, ht, k⟩ := h
    refine ⟨_, pss_cons (ps_set (i := 3) scOne.nd rfl (Or.inl rfl) (pe_op op_rep (pe_lst (pa_cons pe_bl pa_nil)) (pe_callB call_len_seq rfl T.len PySem.boot_len (pa_cons (pv 2) pa_nil))))
      (pss_cons (ps_if (pt_cmpR op_eq (pv 1) (pe_gint T.i65) (nomark _)) (pss_one (ps_ret (pe_callee FO hr (by decide) rfl (pa_cons (pv 2) pa_nil)))) pss_nil)
      (pss_cons (ps_if (pt_cmpR op_eq (pv 1) (pe_gint T.i70) (nomark _)) (pss_one (ps_ret (pe_mcallee F1 hr (by decide) (pv 0) T.wcl (pa_cons (pv 2) pa_nil)))) pss_nil)
      (pss_cons (ps_if (pt_cmpR op_eq (pv 1) (pe_gint T.i71) (nomark _)) (pss_one (ps_ret (pe_mcallee F2 hr (by decide) (pv 0) T.wcl (pa_cons (pv 2) pa_nil)))) pss_nil)
      (pss_cons (ps_if (pt_cmpR op_eq (pv 1) (pe_gint T.i72) (nomark _)) (pss_one (ps_ret (pe_mcallee F3 hr (by decide) (pv 0) T.wcl (pa_cons (pv 3) (pa_cons (pv 2) pa_nil))))) pss_nil)
      (pss_cons (ps_if (pt_cmpR op_eq (pv 1) (pe_gint T.i73) (nomark _)) (pss_one (ps_ret (pe_mcallee F4 hr (by decide) (pv 0) T.wcl (pa_cons (pv 3) (pa_cons (pv 2) pa_nil))))) pss_nil)
      (pss_cons (ps_if (pt_cmpR op_eq (pv 1) (pe_gint T.i74) (nomark _)) (pss_one (ps_ret (pe_callee FO hr (by decide) rfl (pa_cons (pe_mcallee F4 hr (by decide) (pv 0) T.wcl (pa_cons (pv 3) (pa_cons (pe_callee FO hr (by decide) rfl (pa_cons (pv 2) pa_nil)) pa_nil))) pa_nil)))) pss_nil)
      (pss_one (ps_ret (pe_callee FO hr (by decide) rfl (pa_cons (pe_mcallee F3 hr (by decide) (pv 0) T.wcl (pa_cons (pv 3) (pa_cons (pe_callee FO hr (by decide) rfl (pa_cons (pv 2) pa_nil)) pa_nil))) pa_nil)))))))))), ?_⟩
    -- everywhere = [True] * len(p)
    refine ⟨sz (by decide), fun l0 h0 => ?_⟩
    have s0 := same_new (.lst [V.bl true]) h0
    refine ⟨_, rfl, a, _, rfl, .inl (SqL.of (s0 _ _ ha)), l0, _, _, rfl, rfl, upd_same, by omega, by rw [bls_len]; omega, by rw [bls_len]; exact sz (by show 1 * ((x.length : Nat) : Int).toNat ≤ _; omega), fun l1 h1 => ?_⟩
    rw [rep_true, bls_len, show ((x.length : Nat) : Int).toNat = x.length from by omega]
    have h1' : H l1 = none := s0.free h1
    have et : List.replicate x.length true = g.each fun _ => true := by rw [Wm.each_true, hx]
    rw [et]
    have s1 : Same H (upd (upd H l0 (.lst [V.bl true])) l1 (.lst (bls (g.each fun _ => true)))) := same_upd _ s0 h1'
    have e1 : (upd (upd H l0 (.lst [V.bl true])) l1 (.lst (bls (g.each fun _ => true)))) l1 = some (.lst (bls (g.each fun _ => true))) := upd_same
    generalize (upd (upd H l0 (.lst [V.bl true])) l1 (.lst (bls (g.each fun _ => true)))) = H1 at s1 e1 ⊢
    have R1 := R.same s1
    have ha1 := s1 _ _ ha
    have hE : (g.each fun _ => true).length = g.states := Wm.each_len g _
    refine ⟨_, rfl, rfl, _, rfl, iteD (fun h => ?_) (fun n65 => ?_)⟩
    · have hc : c = 65 := by have := ieq h; omega
      subst hc
      exact ⟨_, rfl, a, x, rfl, ha1, by omega, fun H' r s2 f2 e2 => k H' r (s1.trans s2) (s1.free f2) e2⟩
    refine ⟨_, rfl, rfl, _, rfl, iteD (fun h => ?_) (fun n70 => ?_)⟩
    · have hc : c = 70 := by have := ieq h; omega
      subst hc
      exact ⟨_, rfl, v, dv, _, rfl, R1.ins, wf_m1 _ _, _, rfl, v, dv, la, lb, a, as, bs, g, x, rfl, R1, ha1, hx, hn, fun H' r s2 f2 e2 => k H' r (s1.trans s2) (s1.free f2) e2⟩
    refine ⟨_, rfl, rfl, _, rfl, iteD (fun h => ?_) (fun n71 => ?_)⟩
    · have hc : c = 71 := by have := ieq h; omega
      subst hc
      exact ⟨_, rfl, v, dv, _, rfl, R1.ins, wf_m2 _ _, _, rfl, v, dv, la, lb, a, as, bs, g, x, rfl, R1, ha1, hx, hn, fun H' r s2 f2 e2 => k H' r (s1.trans s2) (s1.free f2) e2⟩
    refine ⟨_, rfl, rfl, _, rfl, iteD (fun h => ?_) (fun n72 => ?_)⟩
    · have hc : c = 72 := by have := ieq h; omega
      subst hc
      exact ⟨_, rfl, v, dv, _, rfl, R1.ins, wf_m3 _ _, _, rfl, _, rfl, v, dv, la, lb, l1, a, as, bs, g, _, x, rfl, R1, e1, hE, ha1, hx, hn, fun H' r s2 f2 e2 => k H' r (s1.trans s2) (s1.free f2) e2⟩
    refine ⟨_, rfl, rfl, _, rfl, iteD (fun h => ?_) (fun n73 => ?_)⟩
    · have hc : c = 73 := by have := ieq h; omega
      subst hc
      exact ⟨_, rfl, v, dv, _, rfl, R1.ins, wf_m4 _ _, _, rfl, _, rfl, v, dv, la, lb, l1, a, as, bs, g, _, x, rfl, R1, e1, hE, ha1, hx, hn, fun H' r s2 f2 e2 => k H' r (s1.trans s2) (s1.free f2) e2⟩
    refine ⟨_, rfl, rfl, _, rfl, iteD (fun h => ?_) (fun n74 => ?_)⟩
    · have hc : c = 74 := by have := ieq h; omega
      subst hc
      refine ⟨_, rfl, v, dv, _, rfl, R1.ins, wf_m4 _ _, _, rfl, _, rfl, a, x, rfl, ha1, by omega, fun H2 r2 s2 f2 e2 => ?_⟩
      refine ⟨v, dv, la, lb, l1, r2, as, bs, g, _, nots x, rfl, R1.same s2, s2 _ _ e1, hE, e2, by rw [nots_len]; exact hx, hn, fun H3 r3 s3 f3 e3 => ?_⟩
      have hl : (g.allTill (g.each fun _ => true) (nots x)).length = g.states := Wm.allTill_len _ _
      exact ⟨r3, _, rfl, e3, by rw [hl]; exact hn, fun H4 r4 s4 f4 e4 => k H4 r4 (s1.trans (s2.trans (s3.trans s4))) (s1.free (s2.free (s3.free f4))) e4⟩
    · have hc : c = 75 := by
        rcases Wm.taken_1 ht with h | h | h | h | h | h | h <;> subst h
        · exact absurd rfl n65
        · exact absurd rfl n70
        · exact absurd rfl n71
        · exact absurd rfl n72
        · exact absurd rfl n73
        · exact absurd rfl n74
        · rfl
      subst hc
      refine ⟨_, rfl, v, dv, _, rfl, R1.ins, wf_m3 _ _, _, rfl, _, rfl, a, x, rfl, ha1, by omega, fun H2 r2 s2 f2 e2 => ?_⟩
      refine ⟨v, dv, la, lb, l1, r2, as, bs, g, _, nots x, rfl, R1.same s2, s2 _ _ e1, hE, e2, by rw [nots_len]; exact hx, hn, fun H3 r3 s3 f3 e3 => ?_⟩
      have hl : (g.someTill (g.each fun _ => true) (nots x)).length = g.states := Wm.someTill_len _ _
      exact ⟨r3, _, rfl, e3, by rw [hl]; exact hn, fun H4 r4 s4 f4 e4 => k H4 r4 (s1.trans (s2.trans (s3.trans s4))) (s1.free (s2.free (s3.free f4))) e4⟩
/-! ### of_two -/
def spTwo (W : Addr) : Sp := fun vs H Q _ => ∃ (v dv la lb a b : Addr) (as bs : List Addr) (g : Ra13.Abs) (c : Nat) (x y : List Bool), vs = [.ref v, .int (c : Int), .ref a, .ref b] ∧ WaAt W H v g dv la lb as bs ∧ H a = some (.lst (bls x)) ∧ x.length = g.states ∧ H b = some (.lst (bls y)) ∧ y.length = g.states ∧ g.states ≤ 4096 ∧ Wm.taken c = some 2 ∧
  ∀ (H' : Hp) (r : Addr), Same H H' → H r = none → H' r = some (.lst (bls (Wm.of2 g c x y))) → Q (.ref r) H'
theorem scTwo : FnScope ["ways", "number", "p", "q", "one", "other"] ["ways", "number", "p", "q"] (defScope sTwo) := ⟨rfl, rfl, rfl, by decide +kernel, rfl, by decide +kernel, by decide +kernel⟩
theorem ok_two {f : Addr} {fd : FuncData} (F : Fun K "of_two" "of_two" sTwo f fd) (T : Txt K mg G W)
    (F3 : MethC P w K mg base 3 W "some_until" ["self", "p", "q"] (spUntil W fun g p q => g.someTill p q)) (F4 : MethC P w K mg base 3 W "every_until" ["self", "p", "q"] (spUntil W fun g p q => g.allTill p q)) : FnOk P w K mg base CX0 5 f fd ["ways", "number", "p", "q"] (spTwo W) := by
  refine F.ok scTwo (fun vs H Q E h => ?_) (fun cdv A outer s H vs Q E hr h => ?_)
  · obtain ⟨v, dv, la, lb, a, b, as, bs, g, c, x, y, rfl, _⟩ := h
    rfl
  · obtain ⟨v, dv, la, lb, a, b, as, bs, g, c, x, y, rfl, R, ha, hx, hb, hy, hn, ht, k⟩ := h
    refine ⟨_, pss_cons (ps_if (pt_cmpR op_eq (pv 1) (pe_gint T.i66) (nomark _)) (pss_one (ps_ret (pe_lc rfl scTwo.nd (pi_zip rfl T.zip (pa_cons (pv 2) (pa_cons (pv 3) pa_nil))) (blkOk_by (show blkC ["ways", "number", "p", "q", "one", "other"] (defScope sTwo) _ [("one", 4), ("other", 5)] = true from by decide +kernel))
          (fun _ _ _ _ _ => show PG _ _ (gTup K 2 (gCons (gName 4) (gCons (gName 5) gNil))) from pg_tup (n := 2) rfl (pgs_cons (pg_name (i := 4) scTwo.nd rfl (Or.inl rfl)) (pgs_cons (pg_name (i := 5) scTwo.nd rfl (Or.inl rfl)) pgs_nil))) (fun _ _ _ _ _ => pts_nil) (fun _ _ _ _ _ => pe_and (pv 4) (pe_one (pv 5)))))) pss_nil)
      (pss_cons (ps_if (pt_cmpR op_eq (pv 1) (pe_gint T.i67) (nomark _)) (pss_one (ps_ret (pe_lc rfl scTwo.nd (pi_zip rfl T.zip (pa_cons (pv 2) (pa_cons (pv 3) pa_nil))) (blkOk_by (show blkC ["ways", "number", "p", "q", "one", "other"] (defScope sTwo) _ [("one", 4), ("other", 5)] = true from by decide +kernel))
          (fun _ _ _ _ _ => show PG _ _ (gTup K 2 (gCons (gName 4) (gCons (gName 5) gNil))) from pg_tup (n := 2) rfl (pgs_cons (pg_name (i := 4) scTwo.nd rfl (Or.inl rfl)) (pgs_cons (pg_name (i := 5) scTwo.nd rfl (Or.inl rfl)) pgs_nil))) (fun _ _ _ _ _ => pts_nil) (fun _ _ _ _ _ => pe_or (pv 4) (pe_one (pv 5)))))) pss_nil)
      (pss_cons (ps_if (pt_cmpR op_eq (pv 1) (pe_gint T.i76) (nomark _)) (pss_one (ps_ret (pe_mcallee F3 hr (by decide) (pv 0) T.wcl (pa_cons (pv 2) (pa_cons (pv 3) pa_nil))))) pss_nil)
      (pss_one (ps_ret (pe_mcallee F4 hr (by decide) (pv 0) T.wcl (pa_cons (pv 2) (pa_cons (pv 3) pa_nil))))))), ?_⟩
    refine ⟨_, rfl, rfl, _, rfl, iteD (fun h => ?_) (fun n66 => ?_)⟩
    · have hc : c = 66 := by have := ieq h; omega
      subst hc
      have eo : Wm.of2 g 66 x y = g.each fun a => Ra13.is x a && Ra13.is y a := rfl
      rw [eo] at k
      refine ⟨_, rfl, _, rfl, a, b, _, _, rfl, SqL.of ha, SqL.of hb, fun D hD => lc_zip (K := K) (a := a) (b := b) (xs := bls x) (ys := bls y) (fun i H' => Same H H' ∧ H' D = some (.lst (bls ((g.each fun a => Ra13.is x a && Ra13.is y a).take i)))) ⟨same_new _ hD, upd_same⟩ (by rw [bls_len, bls_len, hx, hy]) (fun i H' _ e => ⟨SqL.of (e.1 _ _ ha), SqL.of (e.1 _ _ hb)⟩) ?_ ?_⟩
      · rintro i u1 u2 t H' h1 h2 ⟨s1, e1⟩ hT
        obtain ⟨b1, g1, rfl⟩ := of_bls h1
        obtain ⟨b2, g2, rfl⟩ := of_bls h2
        have hig : i < g.states := by have := (List.getElem?_eq_some_iff.mp g1).1; omega
        have nT : D ≠ t := ne_of_none e1 hT
        have hm : (g.each fun a => Ra13.is x a && Ra13.is y a)[i]? = some (b1 && b2) := by rw [each_get g _ hig, Wm.getElem_is g1, Wm.getElem_is g2]
        have fin : ∀ z, z = (b1 && b2) → ∃ acc, (upd H' t (.tup [V.bl b1, V.bl b2])) D = some (.lst acc) ∧ acc.length < sizeLine ∧ Same H (upd (upd H' t (.tup [V.bl b1, V.bl b2])) D (.lst (acc ++ [V.bl z]))) ∧ (upd (upd H' t (.tup [V.bl b1, V.bl b2])) D (.lst (acc ++ [V.bl z]))) D = some (.lst (bls ((g.each fun a => Ra13.is x a && Ra13.is y a).take (i + 1)))) := fun z hz => by
          refine ⟨_, by rw [upd_ne nT]; exact e1, ?_, same_upd _ (s1.trans (same_new _ hT)) hD, ?_⟩
          · rw [bls_len, List.length_take]; exact szl (by have := Wm.each_len g fun a => Ra13.is x a && Ra13.is y a; omega)
          · rw [upd_same, bls_snoc hm, hz]
        refine ⟨t, _, rfl, SqT.of upd_same, rfl, _, _, rfl, _, _, rfl, rfl, rfl, _, rfl, _, rfl, ifB (fun hb1 => ?_) (fun hb1 => ?_)⟩
        · exact ⟨_, rfl, fin b2 (by rw [hb1]; rfl)⟩
        · exact fin false (by rw [hb1]; rfl)
      · rintro H' ⟨s1, e1⟩
        rw [bls_len, hx, List.take_of_length_le (by rw [Wm.each_len]; exact Nat.le_refl _)] at e1
        exact k H' D s1 hD e1
    refine ⟨_, rfl, rfl, _, rfl, iteD (fun h => ?_) (fun n67 => ?_)⟩
    · have hc : c = 67 := by have := ieq h; omega
      subst hc
      have eo : Wm.of2 g 67 x y = g.each fun a => Ra13.is x a || Ra13.is y a := rfl
      rw [eo] at k
      refine ⟨_, rfl, _, rfl, a, b, _, _, rfl, SqL.of ha, SqL.of hb, fun D hD => lc_zip (K := K) (a := a) (b := b) (xs := bls x) (ys := bls y) (fun i H' => Same H H' ∧ H' D = some (.lst (bls ((g.each fun a => Ra13.is x a || Ra13.is y a).take i)))) ⟨same_new _ hD, upd_same⟩ (by rw [bls_len, bls_len, hx, hy]) (fun i H' _ e => ⟨SqL.of (e.1 _ _ ha), SqL.of (e.1 _ _ hb)⟩) ?_ ?_⟩
      · rintro i u1 u2 t H' h1 h2 ⟨s1, e1⟩ hT
        obtain ⟨b1, g1, rfl⟩ := of_bls h1
        obtain ⟨b2, g2, rfl⟩ := of_bls h2
        have hig : i < g.states := by have := (List.getElem?_eq_some_iff.mp g1).1; omega
        have nT : D ≠ t := ne_of_none e1 hT
        have hm : (g.each fun a => Ra13.is x a || Ra13.is y a)[i]? = some (b1 || b2) := by rw [each_get g _ hig, Wm.getElem_is g1, Wm.getElem_is g2]
        have fin : ∀ z, z = (b1 || b2) → ∃ acc, (upd H' t (.tup [V.bl b1, V.bl b2])) D = some (.lst acc) ∧ acc.length < sizeLine ∧ Same H (upd (upd H' t (.tup [V.bl b1, V.bl b2])) D (.lst (acc ++ [V.bl z]))) ∧ (upd (upd H' t (.tup [V.bl b1, V.bl b2])) D (.lst (acc ++ [V.bl z]))) D = some (.lst (bls ((g.each fun a => Ra13.is x a || Ra13.is y a).take (i + 1)))) := fun z hz => by
          refine ⟨_, by rw [upd_ne nT]; exact e1, ?_, same_upd _ (s1.trans (same_new _ hT)) hD, ?_⟩
          · rw [bls_len, List.length_take]; exact szl (by have := Wm.each_len g fun a => Ra13.is x a || Ra13.is y a; omega)
          · rw [upd_same, bls_snoc hm, hz]
        refine ⟨t, _, rfl, SqT.of upd_same, rfl, _, _, rfl, _, _, rfl, rfl, rfl, _, rfl, _, rfl, ifB (fun hb1 => ?_) (fun hb1 => ?_)⟩
        · exact fin true (by rw [hb1]; rfl)
        · exact ⟨_, rfl, fin b2 (by rw [hb1]; rfl)⟩
      · rintro H' ⟨s1, e1⟩
        rw [bls_len, hx, List.take_of_length_le (by rw [Wm.each_len]; exact Nat.le_refl _)] at e1
        exact k H' D s1 hD e1
    refine ⟨_, rfl, rfl, _, rfl, iteD (fun h => ?_) (fun n76 => ?_)⟩
    · have hc : c = 76 := by have := ieq h; omega
      subst hc
      exact ⟨_, rfl, v, dv, _, rfl, R.ins, wf_m3 _ _, _, rfl, _, rfl, v, dv, la, lb, a, b, as, bs, g, x, y, rfl, R, ha, hx, hb, hy, hn, fun H' r s2 f2 e2 => k H' r s2 f2 e2⟩
    · have hc : c = 77 := by
        rcases Wm.taken_2 ht with h | h | h | h <;> subst h
        · exact absurd rfl n66
        · exact absurd rfl n67
        · exact absurd rfl n76
        · rfl
      subst hc
      exact ⟨_, rfl, v, dv, _, rfl, R.ins, wf_m4 _ _, _, rfl, _, rfl, v, dv, la, lb, a, b, as, bs, g, x, y, rfl, R, ha, hx, hb, hy, hn, fun H' r s2 f2 e2 => k H' r s2 f2 e2⟩
end
end Wp

set_option Elab.async false
set_option linter.all false
set_option maxRecDepth 100000
set_option maxHeartbeats 2000000
namespace Wp
open PySem PySem.Spec PyProof.Rows L2 Wr
/-- the pile, its top first -/
def PileOk (H1 H' : Hp) (g : Ra13.Abs) (lp : Addr) : List Addr → List Ra13.Formula → Prop
  | [], [] => True
  | r :: rs, f :: fs => (H' r = some (.lst (bls (g.yes f))) ∧ r ≠ lp ∧ H1 r = none) ∧ PileOk H1 H' g lp rs fs
  | _, _ => False
theorem PileOk.mono {H1 H' H2 : Hp} {g : Ra13.Abs} {lp : Addr} (h : ∀ b o, b ≠ lp → H' b = some o → H2 b = some o) : ∀ {rs : List Addr} {fs : List Ra13.Formula}, PileOk H1 H' g lp rs fs → PileOk H1 H2 g lp rs fs
  | [], [], _ => trivial
  | r :: rs, f :: fs, k => ⟨⟨h _ _ k.1.2.1 k.1.1, k.1.2⟩, PileOk.mono h k.2⟩
  | [], _ :: _, k => k.elim
  | _ :: _, [], k => k.elim
theorem PileOk.len {H1 H' : Hp} {g : Ra13.Abs} {lp : Addr} : ∀ {rs : List Addr} {fs : List Ra13.Formula}, PileOk H1 H' g lp rs fs → rs.length = fs.length
  | [], [], _ => rfl
  | r :: rs, f :: fs, k => by rw [List.length_cons, List.length_cons, PileOk.len k.2]
  | [], _ :: _, k => k.elim
  | _ :: _, [], k => k.elim
theorem pile_last (rs : List Addr) (r : Addr) : ((r :: rs).reverse.map V.ref)[((r :: rs).reverse.map V.ref).length - 1]? = some (V.ref r) := by
  rw [List.reverse_cons, List.map_append, List.length_append]
  show (rs.reverse.map V.ref ++ [V.ref r])[(rs.reverse.map V.ref).length + 1 - 1]? = _
  rw [Nat.add_sub_cancel, List.getElem?_append_right (Nat.le_refl _), Nat.sub_self]
  rfl
theorem pile_drop (rs : List Addr) (r : Addr) : ((r :: rs).reverse.map V.ref).dropLast = rs.reverse.map V.ref := by
  rw [List.reverse_cons, List.map_append]
  exact List.dropLast_concat
theorem pile_push (rs : List Addr) (r : Addr) : rs.reverse.map V.ref ++ [V.ref r] = (r :: rs).reverse.map V.ref := by
  rw [List.reverse_cons, List.map_append]; rfl
section
variable {P : Program} {w : World} {K : PySem.W.Frag} {mg : Str → Option Value} {base : Heap} {G W : Addr}
/-! ### where_yes -/
def spWhere (K : PySem.W.Frag) (G : Addr) : Sp := fun vs H Q _ => ∃ (p dx lm lf a : Addr) (ds : List Addr) (g : Ra13.Abs) (b : List Nat) (φ : Ra13.Formula), vs = [.ref p, .ref a] ∧ GrAt G H p g dx lm lf ds ∧ SqL K H a (nums b) ∧ b.length ≤ 256 ∧ Ra13.read b = some φ ∧ g.states ≤ 4096 ∧
  ∀ (H' : Hp) (r : Addr), Same H H' → H r = none → H' r = some (.lst (bls (g.yes φ))) → Q (.ref r) H'
theorem scWhere : FnScope ["graph", "formula", "ways", "pile", "number", "taken", "p", "q"] ["graph", "formula"] (defScope sWhere) := ⟨rfl, rfl, rfl, by decide +kernel, rfl, by decide +kernel, by decide +kernel⟩
theorem ok_where {f : Addr} {fd : FuncData} (F : Fun K "where_yes" "where_yes" sWhere f fd) (T : Txt K mg G W) (FW : MakeC P w K mg base 1 W "Ways" ["self", "graph"] (spWInit G W)) (FT : Callee P w K mg base 1 "how_many_taken" ["number"] spTaken)
    (F0 : Callee P w K mg base 1 "of_none" ["graph", "number"] (spNone G)) (F1 : Callee P w K mg base 5 "of_one" ["ways", "number", "p"] (spOne W)) (F2 : Callee P w K mg base 5 "of_two" ["ways", "number", "p", "q"] (spTwo W)) : FnOk P w K mg base CX0 7 f fd ["graph", "formula"] (spWhere K G) := by
  refine F.ok scWhere (fun vs H Q E h => ?_) (fun cdv A outer s H vs Q E hr h => ?_)
  · obtain ⟨p, dx, lm, lf, a, ds, g, b, φ, rfl, _⟩ := h
    rfl
  · obtain ⟨p, dx, lm, lf, a, ds, g, b, φ, rfl, R, hS, hbl, hφ, hn, k⟩ := h
    refine ⟨_, pss_cons (ps_set (i := 2) scWhere.nd rfl (Or.inl rfl) (pe_makee FW hr (by decide) rfl (pa_cons (pv 0) pa_nil)))
      (pss_cons (ps_set (i := 3) scWhere.nd rfl (Or.inl rfl) (pe_lst pa_nil))
      (pss_cons (ps_for PassesOwn.never rfl (pi_list (pv 1)) (pg_name (i := 4) scWhere.nd rfl (Or.inl rfl))
        (pss_cons (ps_set (i := 5) scWhere.nd rfl (Or.inl rfl) (pe_callee FT hr (by decide) rfl (pa_cons (pv 4) pa_nil)))
        (pss_one (ps_if (pt_cmpR op_eq (pv 5) pe_int (nomark _))
          (pss_one (ps_expr (pe_bm PySem.F.plainAttrs_list PySem.F.slot_list_append PySem.F.type_list_append mt_append (pv 3) (pa_cons (pe_callee F0 hr (by decide) rfl (pa_cons (pv 0) (pa_cons (pv 4) pa_nil))) pa_nil))))
          (pss_one (ps_if (pt_cmpR op_eq (pv 5) pe_int (nomark _))
            (pss_cons (ps_set (i := 6) scWhere.nd rfl (Or.inl rfl) (pe_bm0 PySem.F.plainAttrs_list PySem.F.slot_list_pop PySem.F.type_list_pop mt_pop (pv 3)))
              (pss_one (ps_expr (pe_bm PySem.F.plainAttrs_list PySem.F.slot_list_append PySem.F.type_list_append mt_append (pv 3) (pa_cons (pe_callee F1 hr (by decide) rfl (pa_cons (pv 2) (pa_cons (pv 4) (pa_cons (pv 6) pa_nil)))) pa_nil)))))
            (pss_cons (ps_set (i := 7) scWhere.nd rfl (Or.inl rfl) (pe_bm0 PySem.F.plainAttrs_list PySem.F.slot_list_pop PySem.F.type_list_pop mt_pop (pv 3)))
              (pss_cons (ps_set (i := 6) scWhere.nd rfl (Or.inl rfl) (pe_bm0 PySem.F.plainAttrs_list PySem.F.slot_list_pop PySem.F.type_list_pop mt_pop (pv 3)))
              (pss_one (ps_expr (pe_bm PySem.F.plainAttrs_list PySem.F.slot_list_append PySem.F.type_list_append mt_append (pv 3) (pa_cons (pe_callee F2 hr (by decide) rfl (pa_cons (pv 2) (pa_cons (pv 4) (pa_cons (pv 6) (pa_cons (pv 7) pa_nil))))) pa_nil))))))))))))
      (pss_one (ps_ret (pe_ix ix_list (pv 3) pe_int (fun _ _ => rfl)))))), ?_⟩
    -- ways = Ways(graph)
    refine ⟨_, rfl, fun v dv nv ndv nev => ?_⟩
    have s0 : Same H (upd (upd H dv (.own v)) v (.ins W dv [])) := fun b o e => by
      rw [upd_ne (ne_of_none e nv), upd_ne (ne_of_none e ndv)]; exact e
    refine ⟨v, dv, p, dx, lm, lf, ds, g, rfl, upd_same, R.same s0, hn, fun H1 la lb as bs WA kp => ⟨rfl, ?_⟩⟩
    have s1 : Same H H1 := fun b o e => kp b o (s0 b o e) (ne_of_none e nv)
    -- pile = []
    refine ⟨sz (by decide), fun lp hlp => ?_⟩
    have R1 := R.same s1
    refine ⟨_, rfl, a, rfl, ⟨_, seq_upd hlp (s1.seq hS)⟩, for_list (K := K) (a := a) (xs := nums b) (fun i σ H' => ∃ (v4 v5 v6 v7 : Option V) (rs : List Addr) (fs : List Ra13.Formula), σ = [some (.ref p), some (.ref a), some (.ref v), some (.ref lp), v4, v5, v6, v7] ∧
      Same H1 H' ∧ H' lp = some (.lst (rs.reverse.map V.ref)) ∧ Ra13.readFrom [] (b.take i) = some fs ∧ PileOk H1 H' g lp rs fs)
      ⟨none, none, none, none, [], [], rfl, same_new _ hlp, upd_same, rfl, trivial⟩ (fun i σ H' _ ⟨_, _, _, _, _, _, _, s2, _⟩ => (s1.trans s2).seq hS) ?_ ?_⟩
    · rintro i y σ H' hi ⟨v4, v5, v6, v7, rs, fs, rfl, s2, hp2, hfs, pk⟩
      obtain ⟨c, hc, rfl⟩ := of_nums hi
      have hib : i < b.length := (List.getElem?_eq_some_iff.mp hc).1
      obtain ⟨fs', hfs'⟩ := Wm.read_pre hφ (i + 1)
      have hby : Ra13.byte c fs = some fs' := by
        rw [Wm.taken_get hc, Wm.readFrom_snoc, hfs] at hfs'
        exact hfs'
      have hle : ∀ (l : List Ra13.Formula) (j : Nat), Ra13.readFrom [] (b.take j) = some l → l.length ≤ j := by
        intro l j
        induction j generalizing l with
        | zero => intro e; cases e; exact Nat.le_refl _
        | succ j ih =>
          intro e
          cases ej : b[j]? with
          | none => rw [List.take_add_one, ej] at e; exact Nat.le_succ_of_le (ih l (by simpa using e))
          | some cj =>
            rw [Wm.taken_get ej, Wm.readFrom_snoc] at e
            cases el : Ra13.readFrom [] (b.take j) with
            | none => rw [el] at e; cases e
            | some l0 =>
              rw [el] at e
              have e' : Ra13.byte cj l0 = some l := e
              have h0 := ih l0 el
              cases et : Wm.taken cj with
              | none => rw [Wm.byte_n et] at e'; cases e'
              | some m =>
                by_cases hm : m ≤ l0.length
                · obtain ⟨l', q1, q2⟩ := Wm.byte_ok et hm
                  rw [q1] at e'
                  cases e'
                  omega
                · rw [Wm.byte_bad et (by omega)] at e'; cases e'
      have hrl : rs.length ≤ 256 := by rw [pk.len]; have := hle fs i hfs; omega
      refine ⟨_, rfl, c, rfl, ?_⟩
      have new : ∀ {H3 : Hp} {r : Addr}, Same H' H3 → H' r = none → r ≠ lp ∧ H1 r = none := fun {H3 r} s3 f3 => ⟨(ne_of_none hp2 f3).symm, s2.free f3⟩
      cases et : Wm.taken c with
      | none => rw [Wm.byte_n et] at hby; cases hby
      | some m =>
        have hv : tkV c = V.int (m : Int) := by unfold tkV; rw [et]
        rw [hv]
        refine ⟨_, rfl, rfl, _, rfl, iteD (fun h0 => ?_) (fun h0 => ?_)⟩
        · -- taken == 0
          have hm : m = 0 := by have := ieq h0; omega
          subst hm
          have e64 : c ≤ 64 := by
            unfold Wm.taken at et
            split at et
            · assumption
            · split at et
              · cases et
              · split at et <;> cases et
          refine ⟨_, rfl, .inl ⟨rfl, _, SqL.of hp2⟩, _, rfl, _, rfl, p, dx, lm, lf, ds, g, c, rfl, R1.same s2, e64, hn, fun H3 r s3 f3 e3 => ?_⟩
          obtain ⟨n1, n2⟩ := new s3 f3
          refine ⟨lp, _, _, rfl, rfl, s3 _ _ hp2, by rw [List.length_map, List.length_reverse]; exact szl (by omega), ?_⟩
          rw [Wm.byte_0 et] at hby
          cases hby
          refine ⟨_, _, _, _, r :: rs, Wm.f0 c :: fs, rfl, same_upd _ (s2.trans s3) hlp, by rw [upd_same, pile_push], hfs', ⟨?_, n1, n2⟩, pk.mono fun b o hb e => by rw [upd_ne hb]; exact s3 _ _ e⟩
          rw [upd_ne n1]; exact e3
        · refine ⟨_, rfl, rfl, _, rfl, iteD (fun h1 => ?_) (fun h1 => ?_)⟩
          · -- taken == 1
            have hm : m = 1 := by have := ieq h1; omega
            subst hm
            cases fs with
            | nil => rw [Wm.byte_1n et] at hby; cases hby
            | cons f0 fs =>
              cases rs with
              | nil => exact pk.elim
              | cons r0 rs =>
                obtain ⟨⟨p1, p2, p3⟩, pk⟩ := pk
                refine ⟨_, rfl, .inl ⟨rfl, _, SqL.of hp2⟩, lp, _, V.ref r0, rfl, rfl, hp2, pile_last rs r0, ?_⟩
                rw [pile_drop]
                have s3 : Same H1 (upd H' lp (.lst (rs.reverse.map V.ref))) := same_upd _ s2 hlp
                have q1 : (upd H' lp (.lst (rs.reverse.map V.ref))) r0 = some (.lst (bls (g.yes f0))) := by rw [upd_ne p2]; exact p1
                have hp3 : (upd H' lp (.lst (rs.reverse.map V.ref))) lp = some (.lst (rs.reverse.map V.ref)) := upd_same
                have pk3 : PileOk H1 (upd H' lp (.lst (rs.reverse.map V.ref))) g lp rs fs := pk.mono fun b o hb e => by rw [upd_ne hb]; exact e
                generalize (upd H' lp (.lst (rs.reverse.map V.ref))) = H3 at s3 q1 hp3 pk3 ⊢
                refine ⟨_, rfl, .inl ⟨rfl, _, SqL.of hp3⟩, _, rfl, _, rfl, _, rfl, v, dv, la, lb, r0, as, bs, g, c, _, rfl, WA.same s3, q1, Wm.yes_len _, hn, et, fun H4 r s4 f4 e4 => ?_⟩
                rw [Wm.byte_1 et] at hby
                cases hby
                have n1 : r ≠ lp := (ne_of_none hp3 f4).symm
                rw [← Wm.yes_f1 R.fit et] at e4
                refine ⟨lp, _, _, rfl, rfl, s4 _ _ hp3, by rw [List.length_map, List.length_reverse]; exact szl (by rw [List.length_cons] at hrl; omega), ?_⟩
                refine ⟨_, _, _, _, r :: rs, _, rfl, same_upd _ (s3.trans s4) hlp, by rw [upd_same, pile_push], hfs', ⟨?_, n1, s3.free f4⟩, pk3.mono fun b o hb e => by rw [upd_ne hb]; exact s4 _ _ e⟩
                rw [upd_ne n1]; exact e4
          · -- two are taken
            have hm : m = 2 := by
              rcases Wm.taken_le et with q | q | q
              · exact absurd (by rw [q]; rfl) h0
              · exact absurd (by rw [q]; rfl) h1
              · exact q
            subst hm
            match fs, rs, pk, hby, hp2, hrl, hfs with
            | [], _, _, hby, _, _, _ => rw [Wm.byte_2n et (by simp)] at hby; cases hby
            | [_], _, _, hby, _, _, _ => rw [Wm.byte_2n et (by simp)] at hby; cases hby
            | _ :: _ :: _, [], pk, _, _, _, _ => exact pk.elim
            | _ :: _ :: _, [_], pk, _, _, _, _ => exact pk.2.elim
            | fq :: fp :: fs, rq :: rp :: rs, pk, hby, hp2, hrl, hfs =>
              obtain ⟨⟨p1, p2, p3⟩, ⟨q1, q2, q3⟩, pk⟩ := pk
              refine ⟨_, rfl, .inl ⟨rfl, _, SqL.of hp2⟩, lp, _, V.ref rq, rfl, rfl, hp2, pile_last (rp :: rs) rq, ?_⟩
              rw [pile_drop]
              refine ⟨_, rfl, .inl ⟨rfl, _, SqL.of upd_same⟩, lp, _, V.ref rp, rfl, rfl, upd_same, pile_last rs rp, ?_⟩
              rw [pile_drop, upd_upd]
              have s3 : Same H1 (upd H' lp (.lst (rs.reverse.map V.ref))) := same_upd _ s2 hlp
              have a1 : (upd H' lp (.lst (rs.reverse.map V.ref))) rq = some (.lst (bls (g.yes fq))) := by rw [upd_ne p2]; exact p1
              have a2 : (upd H' lp (.lst (rs.reverse.map V.ref))) rp = some (.lst (bls (g.yes fp))) := by rw [upd_ne q2]; exact q1
              have hp3 : (upd H' lp (.lst (rs.reverse.map V.ref))) lp = some (.lst (rs.reverse.map V.ref)) := upd_same
              have pk3 : PileOk H1 (upd H' lp (.lst (rs.reverse.map V.ref))) g lp rs fs := pk.mono fun b o hb e => by rw [upd_ne hb]; exact e
              generalize (upd H' lp (.lst (rs.reverse.map V.ref))) = H3 at s3 a1 a2 hp3 pk3 ⊢
              refine ⟨_, rfl, .inl ⟨rfl, _, SqL.of hp3⟩, _, rfl, _, rfl, _, rfl, _, rfl, v, dv, la, lb, rp, rq, as, bs, g, c, _, _, rfl, WA.same s3, a2, Wm.yes_len _, a1, Wm.yes_len _, hn, et, fun H4 r s4 f4 e4 => ?_⟩
              rw [Wm.byte_2 et] at hby
              cases hby
              have n1 : r ≠ lp := (ne_of_none hp3 f4).symm
              rw [← Wm.yes_f2 et] at e4
              refine ⟨lp, _, _, rfl, rfl, s4 _ _ hp3, by rw [List.length_map, List.length_reverse]; exact szl (by rw [List.length_cons, List.length_cons] at hrl; omega), ?_⟩
              refine ⟨_, _, _, _, r :: rs, _, rfl, same_upd _ (s3.trans s4) hlp, by rw [upd_same, pile_push], hfs', ⟨?_, n1, s3.free f4⟩, pk3.mono fun b o hb e => by rw [upd_ne hb]; exact s4 _ _ e⟩
              rw [upd_ne n1]; exact e4
    · rintro σ H' ⟨v4, v5, v6, v7, rs, fs, rfl, s2, hp2, hfs, pk⟩
      rw [nums_len, List.take_length, Wm.read_some hφ] at hfs
      cases hfs
      match rs, pk, hp2 with
      | [], pk, _ => exact pk.elim
      | [r], pk, hp2 => exact ⟨_, rfl, lp, _, _, V.ref r, rfl, rfl, SqL.of hp2, rfl, k H' r (s1.trans s2) (s1.free pk.1.2.2) pk.1.1⟩
      | _ :: _ :: _, pk, _ => exact pk.2.elim
end
end Wp

set_option Elab.async false
set_option linter.all false
set_option maxRecDepth 100000
set_option maxHeartbeats 2000000
namespace Wp
open PySem PySem.Spec PyProof.Rows L2 Wr
/-! ### where rows come from, as a dict -/
def parV : Option Nat → V
  | none => .non
  | some x => .int (x : Int)
def camKV (c : Wm.Came) : List (Key × V) := c.map fun e => ((Sum.inl (e.1 : Int) : Key), parV e.2)
theorem cam_none : ∀ {c : Wm.Came} {u : Nat}, u ∉ Wm.keys c → valV (camKV c) (Sum.inl (u : Int)) = none
  | [], _, _ => rfl
  | e :: c, u, h => by
    have h1 : ¬ e.1 = u := fun q => h (by rw [← q]; exact List.mem_cons_self ..)
    show valV ((Sum.inl (e.1 : Int), parV e.2) :: camKV c) _ = none
    rw [valV_neg (by intro q; exact h1 (by have := Sum.inl.inj q; omega))]
    exact cam_none fun m => h (List.mem_cons_of_mem _ m)
theorem cam_some : ∀ {c : Wm.Came} {u : Nat} {x : Option Nat}, (Wm.keys c).Nodup → (u, x) ∈ c → valV (camKV c) (Sum.inl (u : Int)) = some (parV x)
  | e :: c, u, x, hn, h => by
    have hn' : e.1 ∉ Wm.keys c ∧ (Wm.keys c).Nodup := List.nodup_cons.mp hn
    show valV ((Sum.inl (e.1 : Int), parV e.2) :: camKV c) _ = _
    rcases List.mem_cons.mp h with h | h
    · subst h
      exact valV_pos rfl
    · have h1 : ¬ e.1 = u := fun q => hn'.1 (by rw [q]; exact List.mem_map.mpr ⟨(u, x), h, rfl⟩)
      rw [valV_neg (by intro q; exact h1 (by have := Sum.inl.inj q; omega))]
      exact cam_some hn'.2 h
theorem cam_has {c : Wm.Came} {u : Nat} (hn : (Wm.keys c).Nodup) : (valV (camKV c) (Sum.inl (u : Int))).isSome = decide (u ∈ Wm.keys c) := by
  by_cases h : u ∈ Wm.keys c
  · obtain ⟨e, he, q⟩ := List.mem_map.mp h
    have : (u, e.2) ∈ c := by rw [← q]; exact he
    rw [cam_some hn this, decide_eq_true h]; rfl
  · rw [cam_none h, decide_eq_false h]; rfl
theorem chain_at {c : Wm.Came} : ∀ {l : List Nat} {j x : Nat}, Wm.Chain c l → l[j]? = some x → (x, l[j + 1]?) ∈ c
  | [y], 0, x, h, e => by cases e; exact h
  | [y], j + 1, x, h, e => by simp at e
  | y :: z :: r, 0, x, h, e => by cases e; exact h.1
  | y :: z :: r, j + 1, x, h, e => chain_at (l := z :: r) (j := j) h.2 e
section
variable {P : Program} {w : World} {K : PySem.W.Frag} {mg : Str → Option Value} {base : Heap} {G W : Addr}
/-! ### row_to -/
def spRowTo : Sp := fun vs H Q _ => ∃ (d : Addr) (e : Nat) (c : Wm.Came) (l : List Nat), vs = [.ref d, .int (e : Int)] ∧ H d = some (.dK (camKV c)) ∧ (Wm.keys c).Nodup ∧ Wm.Chain c l ∧ l[0]? = some e ∧ l.length ≤ 4097 ∧
  ∀ (H' : Hp) (r : Addr), Same H H' → H r = none → H' r = some (.lst (nums l.reverse)) → Q (.ref r) H'
theorem scRowTo : FnScope ["came_from", "last", "backwards", "state"] ["came_from", "last"] (defScope sRowTo) := ⟨rfl, rfl, rfl, by decide +kernel, rfl, by decide +kernel, by decide +kernel⟩
theorem ok_rowto {f : Addr} {fd : FuncData} (F : Fun K "row_to" "row_to" sRowTo f fd) (T : Txt K mg G W) : FnOk P w K mg base CX0 1 f fd ["came_from", "last"] spRowTo := by
  refine F.ok scRowTo (fun vs H Q E h => ?_) (fun cdv A outer s H vs Q E hr h => ?_)
  · obtain ⟨d, e, c, l, rfl, _⟩ := h
    rfl
  · obtain ⟨d, e, c, l, rfl, hd, hnd, hch, h0, hl, k⟩ := h
    have hu := hu_of hr
    refine ⟨_, pss_cons (ps_set (i := 2) scRowTo.nd rfl (Or.inl rfl) (pe_lst pa_nil))
      (pss_cons (ps_set (i := 3) scRowTo.nd rfl (Or.inl rfl) (pv 1))
      (pss_cons (ps_while PassesOwn.never (pt_cmp (pc_notN (pv 3)))
        (pss_cons (ps_expr (pe_bm PySem.F.plainAttrs_list PySem.F.slot_list_append PySem.F.type_list_append mt_append (pv 2) (pa_cons (pv 3) pa_nil)))
        (pss_one (ps_set (i := 3) scRowTo.nd rfl (Or.inl rfl) (pe_dget hu (pv 0) (pv 3) (fun _ _ => rfl))))))
      (pss_one (ps_ret (pe_listrev rfl rfl T.list rfl T.rev (pv 2)))))), ?_⟩
    refine ⟨sz (by decide), fun lb hlb => ⟨_, rfl, ?_⟩⟩
    have e0 : parV (l[0]?) = V.int (e : Int) := by rw [h0]; rfl
    refine ⟨fun m σ H' => ∃ j : Nat, j ≤ l.length ∧ σ = [some (.ref d), some (.int (e : Int)), some (.ref lb), some (parV (l[j]?))] ∧ Same H H' ∧ H' lb = some (.lst (nums (l.take j))) ∧ m = l.length - j,
      ⟨l.length, 0, Nat.zero_le _, by rw [e0]; rfl, same_new _ hlb, upd_same, rfl⟩, ?_⟩
    rintro m σ H' ⟨j, hj, rfl, s1, e1, rfl⟩
    refine ⟨_, rfl, _, rfl, ?_⟩
    cases ej : l[j]? with
    | some x =>
      refine iteT ?_
      have hjl : j < l.length := (List.getElem?_eq_some_iff.mp ej).1
      refine ⟨fun σ H' => σ = [some (.ref d), some (.int (e : Int)), some (.ref lb), some (parV (l[j + 1]?))] ∧ Same H H' ∧ H' lb = some (.lst (nums (l.take (j + 1)))), ?_, ?_⟩
      · rintro σ' H2 ⟨rfl, s2, e2⟩
        exact ⟨l.length - (j + 1), by omega, j + 1, hjl, rfl, s2, e2, rfl⟩
      · refine ⟨_, rfl, .inl ⟨rfl, _, SqL.of e1⟩, _, rfl, lb, _, _, rfl, rfl, e1, by rw [nums_len, List.length_take]; exact szl (by omega), ?_⟩
        have s2 : Same H (upd H' lb (.lst (nums (l.take j) ++ [V.int (x : Int)]))) := same_upd _ s1 hlb
        refine ⟨_, rfl, _, rfl, d, parV (l[j + 1]?), rfl, ?_, rfl, s2, ?_⟩
        · have := cam_some hnd (chain_at hch ej)
          rw [← this]
          exact DGet.k (k := Sum.inl (x : Int)) (s2 _ _ hd)
        · rw [upd_same, nums_snoc ej]; rfl
    | none =>
      refine iteF ?_
      have hjl : j = l.length := by
        have := List.getElem?_eq_none_iff.mp ej
        omega
      subst hjl
      rw [List.take_length] at e1
      refine ⟨_, rfl, lb, _, rfl, SqL.of e1, fun r hr' => k _ r (same_upd _ s1 (s1.free hr')) (s1.free hr') ?_⟩
      rw [upd_same]
      unfold nums
      rw [List.map_reverse]
/-! ### next_layer -/
theorem pairs_snoc (g : Ra13.Abs) {l : List Nat} {j x : Nat} (h : l[j]? = some x) : Wm.pairs g (l.take (j + 1)) = Wm.pairs g (l.take j) ++ (Wm.srt g x).map fun b => (x, b) := by
  unfold Wm.pairs
  rw [List.take_add_one, h, List.flatMap_append]
  simp
def spNextL (K : PySem.W.Frag) (G : Addr) : Sp := fun vs H Q _ => ∃ (p dx lm lf a d : Addr) (ds : List Addr) (g : Ra13.Abs) (l : List Nat) (c : Wm.Came), vs = [.ref p, .ref a, .ref d] ∧ GrAt G H p g dx lm lf ds ∧ H a = some (.lst (nums l)) ∧ (∀ x ∈ l, x < g.states) ∧ H d = some (.dK (camKV c)) ∧ d ∉ ds ∧ (Wm.keys c).Nodup ∧ (∀ u ∈ Wm.keys c, u < g.states) ∧ g.states ≤ 40 ∧
  ∀ (H' : Hp) (r : Addr), Keep [d] H H' → H' d = some (.dK (camKV (Wm.nextL g c l).1)) → H r = none → H' r = some (.lst (nums (Wm.nextL g c l).2)) → Q (.ref r) H'
theorem scNextL : FnScope ["graph", "layer", "came_from", "farther", "state", "later"] ["graph", "layer", "came_from"] (defScope sNextL) := ⟨rfl, rfl, rfl, by decide +kernel, rfl, by decide +kernel, by decide +kernel⟩
/-- what the loops have at a place: the pairs es are gone through -/
structure NlAt (H H' : Hp) (g : Ra13.Abs) (c : Wm.Came) (d lb : Addr) (es : List (Nat × Nat)) : Prop where
  kp : Keep [d] H H'
  dd : H' d = some (.dK (camKV (es.foldl Wm.visit (c, [])).1))
  ff : H' lb = some (.lst (nums (es.foldl Wm.visit (c, [])).2))
theorem visit_fits {g : Ra13.Abs} {c : Wm.Came} (hnd : (Wm.keys c).Nodup) (hlt : ∀ u ∈ Wm.keys c, u < g.states) {es : List (Nat × Nat)} (he : ∀ e ∈ es, e.2 < g.states) :
    (Wm.keys (es.foldl Wm.visit (c, [])).1).Nodup ∧ (es.foldl Wm.visit (c, [])).1.length ≤ g.states ∧ (es.foldl Wm.visit (c, [])).2.length ≤ g.states := by
  obtain ⟨new, e1, e2, e3⟩ := Wm.visit_all es c [] hnd
  rw [e1]
  have hl : (c ++ new).length ≤ g.states := by
    have := Wm.nd_len e3 (m := List.range g.states) fun x hx => by
      rw [Wm.keys_app, List.mem_append] at hx
      rw [List.mem_range]
      rcases hx with hx | hx
      · exact hlt x hx
      · obtain ⟨e, h1, rfl⟩ := List.mem_map.mp hx
        obtain ⟨a, _, h3⟩ := e2 e h1
        exact he _ h3
    rw [List.length_range] at this
    have e : (Wm.keys (c ++ new)).length = (c ++ new).length := List.length_map ..
    omega
  refine ⟨e3, hl, ?_⟩
  show ([] ++ Wm.keys new).length ≤ _
  rw [List.nil_append]
  have e : (Wm.keys new).length = new.length := List.length_map ..
  rw [List.length_append] at hl
  omega
theorem ok_nextl {f : Addr} {fd : FuncData} (F : Fun K "next_layer" "next_layer" sNextL f fd) (T : Txt K mg G W) : FnOk P w K mg base CX0 1 f fd ["graph", "layer", "came_from"] (spNextL K G) := by
  refine F.ok scNextL (fun vs H Q E h => ?_) (fun cdv A outer s H vs Q E hr h => ?_)
  · obtain ⟨p, dx, lm, lf, a, d, ds, g, l, c, rfl, _⟩ := h
    rfl
  · obtain ⟨p, dx, lm, lf, a, d, ds, g, l, c, rfl, R, ha, hl, hd, hds, hnd, hlt, hn, k⟩ := h
    have hu := hu_of hr
    refine ⟨_, pss_cons (ps_set (i := 3) scNextL.nd rfl (Or.inl rfl) (pe_lst pa_nil))
      (pss_cons (ps_for PassesOwn.never rfl (pi_list (pv 1)) (pg_name (i := 4) scNextL.nd rfl (Or.inl rfl))
        (pss_one (ps_for PassesOwn.never rfl (pi_list (pe_callB (call_sortedD rfl) rfl T.srt PyProof.Rows.boot_sorted (pa_cons (pe_ix ix_list (pe_fld (pv 0) rfl) (pv 4) (fun _ _ => rfl)) pa_nil))) (pg_name (i := 5) scNextL.nd rfl (Or.inl rfl))
          (pss_one (ps_if (pt_cmp (pc_dnotin hu (pv 5) (pv 2)))
            (pss_cons (ps_dput hu (pv 2) (pv 5) (pv 4) rfl)
            (pss_one (ps_expr (pe_bm PySem.F.plainAttrs_list PySem.F.slot_list_append PySem.F.type_list_append mt_append (pv 3) (pa_cons (pv 5) pa_nil)))))
            pss_nil)))))
      (pss_one (ps_ret (pv 3)))), ?_⟩
    refine ⟨sz (by decide), fun lb hlb => ?_⟩
    have nad : a ≠ d := ne_of ha hd (by intro q; cases q)
    have nlb : ∀ {H' : Hp}, Keep [d] H H' → ∀ b o, H b = some o → b ≠ d → b ≠ lb := fun _ b o e _ => ne_of_none e hlb
    have ndl : d ≠ lb := ne_of_none hd hlb
    have gr : ∀ {H' : Hp}, Keep [d] H H' → GrAt G H' p g dx lm lf ds := fun {H'} kp =>
      ⟨kp _ _ R.ins (by simpa using ne_of R.ins hd (by intro q; cases q)), kp _ _ R.mrk (by simpa using ne_of R.mrk hd (by intro q; cases q)), kp _ _ R.fo (by simpa using ne_of R.fo hd (by intro q; cases q)), R.mf, R.len, R.nd,
        fun j x h => kp _ _ (R.at_ j x h) (by simpa using ne_mem (List.mem_of_getElem? h) hds), R.fit⟩
    have aa : ∀ {H' : Hp}, Keep [d] H H' → H' a = some (.lst (nums l)) := fun kp => kp _ _ ha (by simpa using nad)
    refine ⟨_, rfl, a, rfl, ⟨_, SqL.of ((same_new _ hlb) _ _ ha)⟩, for_list (K := K) (a := a) (xs := nums l) (fun j σ H' => ∃ v4 v5 : Option V, σ = [some (.ref p), some (.ref a), some (.ref d), some (.ref lb), v4, v5] ∧ NlAt H H' g c d lb (Wm.pairs g (l.take j)))
      ⟨none, none, rfl, fun b o e1 _ => (same_new _ hlb) b o e1, (same_new _ hlb) _ _ hd, upd_same⟩ (fun j σ H' _ ⟨_, _, _, N⟩ => SqL.of (aa N.kp)) ?_ ?_⟩
    · rintro j y σ H' hj ⟨v4, v5, rfl, N⟩
      obtain ⟨x, hx, rfl⟩ := of_nums hj
      have xg : x < g.states := hl x (List.mem_of_getElem? hx)
      have R1 := gr N.kp
      obtain ⟨e, he⟩ : ∃ e, ds[x]? = some e := ⟨_, List.getElem?_eq_getElem (by rw [R.len]; exact xg)⟩
      have hsl : (Wm.succ g x).length ≤ 40 := by
        have := Wm.nd_len (Wm.succ_nd R.fit x) (m := List.range g.states) fun z hz => List.mem_range.mpr (Wm.succ_lt R.fit hz)
        rw [List.length_range] at this; omega
      refine ⟨_, rfl, p, G, dx, _, _, rfl, R1.ins, T.gcl, T.gF, gf_f _ _ _ _, _, rfl, lf, _, _, V.ref e, rfl, rfl, SqL.of R1.fo, atI_nat (by rw [List.getElem?_map, he]; rfl), e, _, (Wm.succ g x).map fun z : Nat => (z : Int), rfl, R1.at_ x e he, ?_, ?_, fun ns' ls hp hs hls => ?_⟩
      · unfold kvOf; rw [List.map_map, List.map_map]; rfl
      · rw [List.length_map]; omega
      have ens := Wm.srt_ints hp hs
      subst ens
      have els : ((Wm.srt g x).map fun z : Nat => (z : Int)).map V.int = nums (Wm.srt g x) := by unfold nums; rw [List.map_map]; rfl
      rw [els]
      have ndd : d ≠ ls := ne_of_none N.dd hls
      have nll : lb ≠ ls := ne_of_none N.ff hls
      have N1 : NlAt H (upd H' ls (.lst (nums (Wm.srt g x)))) g c d lb (Wm.pairs g (l.take j)) := by
        refine ⟨fun b o e1 hb => ?_, by rw [upd_ne ndd]; exact N.dd, by rw [upd_ne nll]; exact N.ff⟩
        have := N.kp b o e1 hb
        rw [upd_ne (ne_of_none this hls)]; exact this
      have hlsH : H ls = none := by
        cases e1 : H ls with
        | none => rfl
        | some o =>
          by_cases q : ls = d
          · exact absurd q.symm ndd
          · rw [N.kp ls o e1 (by simpa using q)] at hls; cases hls
      refine ⟨ls, rfl, ⟨_, SqL.of upd_same⟩, for_list (K := K) (a := ls) (xs := nums (Wm.srt g x)) (fun m σ H2 => ∃ v5 : Option V, σ = [some (.ref p), some (.ref a), some (.ref d), some (.ref lb), some (.int (x : Int)), v5] ∧ H2 ls = some (.lst (nums (Wm.srt g x))) ∧ NlAt H H2 g c d lb (Wm.pairs g (l.take j) ++ ((Wm.srt g x).take m).map fun b => (x, b)))
        ⟨_, rfl, upd_same, by simpa using N1⟩ (fun m σ H2 _ ⟨_, _, e2, _⟩ => SqL.of e2) ?_ ?_⟩
      · rintro m y σ H2 hm ⟨v5', rfl, e2, N2⟩
        obtain ⟨u, hu', rfl⟩ := of_nums hm
        have us : u ∈ Wm.succ g x := Wm.mem_srt.mp (List.mem_of_getElem? hu')
        have ug := Wm.succ_lt R.fit us
        have hes : ∀ e ∈ Wm.pairs g (l.take j) ++ ((Wm.srt g x).take m).map fun b => (x, b), e.2 < g.states := fun e he => by
          rcases List.mem_append.mp he with he | he
          · obtain ⟨e1, e2⟩ := e
            exact Wm.succ_lt R.fit (Wm.mem_pairs.mp he).2
          · obtain ⟨z, hz, rfl⟩ := List.mem_map.mp he
            exact Wm.succ_lt R.fit (Wm.mem_srt.mp (List.mem_of_mem_take hz))
        obtain ⟨f1, f2, f3⟩ := visit_fits hnd hlt hes
        have step : (Wm.pairs g (l.take j) ++ ((Wm.srt g x).take (m + 1)).map fun b => (x, b)) = (Wm.pairs g (l.take j) ++ ((Wm.srt g x).take m).map fun b => (x, b)) ++ [(x, u)] := by
          rw [Wm.taken_get hu', List.map_append, List.append_assoc]; rfl
        have fstep : (Wm.pairs g (l.take j) ++ ((Wm.srt g x).take (m + 1)).map fun b => (x, b)).foldl Wm.visit (c, []) = Wm.visit ((Wm.pairs g (l.take j) ++ ((Wm.srt g x).take m).map fun b => (x, b)).foldl Wm.visit (c, [])) (x, u) := by
          rw [step, List.foldl_append]; rfl
        refine ⟨_, rfl, _, rfl, d, _, rfl, DGet.k (k := Sum.inl (u : Int)) N2.dd, _, rfl, ?_⟩
        rw [cam_has f1]
        by_cases hm' : u ∈ Wm.keys ((Wm.pairs g (l.take j) ++ ((Wm.srt g x).take m).map fun b => (x, b)).foldl Wm.visit (c, [])).1
        · rw [decide_eq_true hm']
          refine iteF ⟨_, rfl, e2, ?_⟩
          have ev : Wm.visit ((Wm.pairs g (l.take j) ++ ((Wm.srt g x).take m).map fun b => (x, b)).foldl Wm.visit (c, [])) (x, u) = (Wm.pairs g (l.take j) ++ ((Wm.srt g x).take m).map fun b => (x, b)).foldl Wm.visit (c, []) := if_pos hm'
          exact ⟨N2.kp, by rw [fstep, ev]; exact N2.dd, by rw [fstep, ev]; exact N2.ff⟩
        · rw [decide_eq_false hm']
          have ev : Wm.visit ((Wm.pairs g (l.take j) ++ ((Wm.srt g x).take m).map fun b => (x, b)).foldl Wm.visit (c, [])) (x, u) =
            (((Wm.pairs g (l.take j) ++ ((Wm.srt g x).take m).map fun b => (x, b)).foldl Wm.visit (c, [])).1 ++ [(u, some x)], ((Wm.pairs g (l.take j) ++ ((Wm.srt g x).take m).map fun b => (x, b)).foldl Wm.visit (c, [])).2 ++ [u]) := if_neg hm'
          have hput : putK (camKV ((Wm.pairs g (l.take j) ++ ((Wm.srt g x).take m).map fun b => (x, b)).foldl Wm.visit (c, [])).1) (Sum.inl (u : Int) : Key) (V.int (x : Int)) = camKV (((Wm.pairs g (l.take j) ++ ((Wm.srt g x).take m).map fun b => (x, b)).foldl Wm.visit (c, [])).1 ++ [(u, some x)]) := by
            rw [putK_new _ (cam_none hm')]
            unfold camKV
            rw [List.map_append]; rfl
          refine iteT ⟨_, rfl, _, rfl, _, rfl, d, _, rfl, DPut.k (k := Sum.inl (u : Int)) N2.dd ?_, ?_⟩
          · unfold camKV; rw [List.length_map]; exact szl (by omega)
          rw [hput]
          refine ⟨_, rfl, .inl ⟨rfl, _, SqL.of (by rw [upd_ne (Ne.symm ndl)]; exact N2.ff)⟩, _, rfl, lb, _, _, rfl, rfl, by rw [upd_ne (Ne.symm ndl)]; exact N2.ff, by rw [nums_len]; exact szl (by omega), ?_⟩
          refine ⟨_, rfl, by rw [upd_ne (Ne.symm nll), upd_ne (Ne.symm ndd)]; exact e2, ⟨fun b o e1 hb => ?_, ?_, ?_⟩⟩
          · have hb' : b ≠ d := by simpa using hb
            rw [upd_ne (ne_of_none e1 hlb), upd_ne hb']
            exact N2.kp b o e1 hb
          · rw [upd_ne ndl, upd_same, fstep, ev]
          · rw [upd_same, fstep, ev]
            show _ = some (HO.lst (nums (_ ++ [u])))
            rw [nums_app]; rfl
      · rintro σ H2 ⟨v5', rfl, e2, N2⟩
        rw [nums_len, List.take_length, ← pairs_snoc g hx] at N2
        exact ⟨_, _, rfl, N2⟩
    · rintro σ H' ⟨v4, v5, rfl, N⟩
      rw [nums_len, List.take_length] at N
      exact ⟨_, rfl, k H' lb N.kp N.dd hlb N.ff⟩
end
end Wp

set_option Elab.async false
set_option linter.all false
set_option maxRecDepth 100000
set_option maxHeartbeats 2000000
namespace Wp
open PySem PySem.Spec PyProof.Rows L2 Wr
/-- the row that is meant, or none -/
def rowL (g : Ra13.Abs) (p q : List Bool) (s : Nat) : List Nat := match Wm.ds g p q s with
  | some k => g.rowFrom (g.far p q) k s
  | none => []
theorem filter_snoc {l : List Nat} {i x : Nat} (f : Nat → Bool) (h : l[i]? = some x) : (l.take (i + 1)).filter f = if f x = true then (l.take i).filter f ++ [x] else (l.take i).filter f := by
  rw [Wm.taken_get h, List.filter_append, List.filter_cons]
  split <;> simp
section
variable {P : Program} {w : World} {K : PySem.W.Frag} {mg : Str → Option Value} {base : Heap} {G W : Addr}
/-! ### fewest_row -/
def spFew (K : PySem.W.Frag) (G : Addr) : Sp := fun vs H Q _ => ∃ (pg dx lm lf a b : Addr) (ds : List Addr) (g : Ra13.Abs) (s : Nat) (p q : List Bool), vs = [.ref pg, .int (s : Int), .ref a, .ref b] ∧ GrAt G H pg g dx lm lf ds ∧ s < g.states ∧ H a = some (.lst (bls p)) ∧ p.length = g.states ∧ H b = some (.lst (bls q)) ∧ q.length = g.states ∧ g.states ≤ 40 ∧
  ∀ (H' : Hp) (r : Addr), Same H H' → H r = none → H' r = some (.lst (nums (rowL g p q s))) → Q (.ref r) H'
theorem scFew : FnScope ["graph", "start", "p", "q", "came_from", "layer", "ends", "state"] ["graph", "start", "p", "q"] (defScope sFew) := ⟨rfl, rfl, rfl, by decide +kernel, rfl, by decide +kernel, by decide +kernel⟩
theorem ok_few {f : Addr} {fd : FuncData} (F : Fun K "fewest_row" "fewest_row" sFew f fd) (T : Txt K mg G W) (FR : Callee P w K mg base 1 "row_to" ["came_from", "last"] spRowTo) (FN : Callee P w K mg base 1 "next_layer" ["graph", "layer", "came_from"] (spNextL K G)) : FnOk P w K mg base CX0 3 f fd ["graph", "start", "p", "q"] (spFew K G) := by
  refine F.ok scFew (fun vs H Q E h => ?_) (fun cdv A outer s0 H vs Q E hr h => ?_)
  · obtain ⟨pg, dx, lm, lf, a, b, ds, g, s, p, q, rfl, _⟩ := h
    rfl
  · obtain ⟨pg, dx, lm, lf, a, b, ds, g, s, p, q, rfl, R, hs, ha, hp, hb, hq, hn, k⟩ := h
    refine ⟨_, pss_cons (ps_set (i := 4) scFew.nd rfl (Or.inl rfl) (pe_disp (pps_cons (pv 1) pe_non pps_nil) rfl rfl (by simp) (by decide)))
      (pss_cons (ps_set (i := 5) scFew.nd rfl (Or.inl rfl) (pe_lst (pa_cons (pv 1) pa_nil)))
      (pss_cons (ps_while PassesOwn.never (pt_cmpR op_gt (pe_callB call_len_seq rfl T.len PySem.boot_len (pa_cons (pv 5) pa_nil)) pe_int (nomark _))
        (pss_cons (ps_setLc (i := 6) rfl scFew.nd rfl rfl (sw_true rfl rfl rfl rfl) (pi_list (pv 5)) (blkOk_by (show blkC ["graph", "start", "p", "q", "came_from", "layer", "ends", "state"] (defScope sFew) _ [("state", 7)] = true from by decide +kernel))
            (fun _ _ _ _ _ => pg_name (i := 7) scFew.nd rfl (Or.inl rfl)) (fun _ _ _ _ _ => pts_one (pt_val (pe_ix (r := rIxL K) ix_list (pv 3) (pv 7) (fun _ _ => rfl)))) (fun _ _ _ _ _ => pv 7))
        (pss_cons (ps_if (pt_cmpR op_gt (pe_callB call_len_seq rfl T.len PySem.boot_len (pa_cons (pv 6) pa_nil)) pe_int (nomark _))
          (pss_one (ps_ret (pe_callee FR hr (by decide) rfl (pa_cons (pv 4) (pa_cons (pe_ix ix_list (pv 6) pe_int (fun _ _ => rfl)) pa_nil))))) pss_nil)
        (pss_one (ps_set (i := 5) scFew.nd rfl (Or.inl rfl) (pe_callee FN hr (by decide) rfl (pa_cons (pv 0) (pa_cons
          (pe_lc rfl scFew.nd (pi_list (pv 5)) (blkOk_by (show blkC ["graph", "start", "p", "q", "came_from", "layer", "ends", "state"] (defScope sFew) _ [("state", 7)] = true from by decide +kernel))
            (fun _ _ _ _ _ => pg_name (i := 7) scFew.nd rfl (Or.inl rfl)) (fun _ _ _ _ _ => pts_one (pt_val (pe_ix (r := rIxL K) ix_list (pv 2) (pv 7) (fun _ _ => rfl)))) (fun _ _ _ _ _ => pv 7))
          (pa_cons (pv 4) pa_nil)))))))))
      (pss_one (ps_ret (pe_lst pa_nil))))), ?_⟩
    -- came_from = {start: None}; layer = [start]
    refine fun d hd => ⟨_, rfl, upd_same, [(Sum.inl (s : Int), .non)], rfl, (by show 1 ≤ 15; decide), ?_⟩
    rw [upd_upd]
    refine ⟨_, rfl, sz (by show 1 ≤ 100000; decide), fun ly hly => ?_⟩
    have s1 : Same H (upd H d (.dK (mergeK [] [(Sum.inl (s : Int), V.non)]))) := same_new _ hd
    have d1 : (upd H d (.dK (mergeK [] [(Sum.inl (s : Int), V.non)]))) d = some (.dK (camKV [(s, none)])) := by rw [upd_same]; rfl
    generalize (upd H d (.dK (mergeK [] [(Sum.inl (s : Int), V.non)]))) = H1 at s1 d1 hly ⊢
    refine ⟨fun m σ H' => ∃ (v6 v7 : Option V) (c : Wm.Came) (layer : List Nat) (ly : Addr), σ = [some (.ref pg), some (.int (s : Int)), some (.ref a), some (.ref b), some (.ref d), some (.ref ly), v6, v7] ∧ Same H H' ∧ H' d = some (.dK (camKV c)) ∧ H' ly = some (.lst (nums layer)) ∧
      Wm.Bf g p q s c layer ∧ layer.length ≤ g.states ∧ m = (g.states - c.length) + (if layer = [] then 0 else 1), ⟨_, none, none, [(s, none)], [s], ly, rfl, s1.trans (same_new _ hly), (same_new _ hly) _ _ d1, upd_same, Wm.Bf.begin hs, (by show 1 ≤ g.states; omega), rfl⟩, ?_⟩
    rintro m σ H' ⟨v6, v7, c, layer, ly, rfl, s2, hd2, hy2, B, laylen, rfl⟩
    have laylt : ∀ x ∈ layer, x < g.states := fun x hx => B.lt x (B.sub x hx)
    have flen : ∀ (f : Nat → Bool) (i : Nat), (nums ((layer.take i).filter f)).length < sizeLine := fun f i => by
      rw [nums_len]
      have h1 := List.length_filter_le f (layer.take i)
      have h2 := List.length_take_le i layer
      have h3 : (layer.take i).length ≤ layer.length := by rw [List.length_take]; omega
      exact szl (by omega)
    refine ⟨_, rfl, ly, _, rfl, .inl (SqL.of hy2), _, _, rfl, rfl, _, rfl, iteD (fun hl => ?_) (fun hl => ?_)⟩
    · have hne : layer ≠ [] := fun q => by rw [q] at hl; exact absurd hl (by decide)
      have hbl := B.len
      refine ⟨fun σ H' => ∃ (v6 v7 : Option V) (ly : Addr), σ = [some (.ref pg), some (.int (s : Int)), some (.ref a), some (.ref b), some (.ref d), some (.ref ly), v6, v7] ∧ Same H H' ∧ H' d = some (.dK (camKV (Wm.nextL g c (layer.filter (Ra13.is p))).1)) ∧ H' ly = some (.lst (nums (Wm.nextL g c (layer.filter (Ra13.is p))).2)) ∧ layer.filter (Ra13.is q) = [], ?_, ?_⟩
      · rintro σ' H2 ⟨v6, v7, ly, rfl, s3, hd3, hy3, hm⟩
        obtain ⟨B', hlen⟩ := B.miss R.fit hm
        have hb2 := B'.len
        refine ⟨_, ?_, v6, v7, _, _, ly, rfl, s3, hd3, hy3, B', (by omega), rfl⟩
        rw [if_neg hne, hlen]
        split
        · rename_i q; rw [q]; simp only [List.length_nil]; omega
        · rename_i q
          have : 0 < (Wm.nextL g c (layer.filter (Ra13.is p))).2.length := List.length_pos_iff.mpr q
          omega
      · -- ends = [state for state in layer if q[state]]
        refine ⟨_, rfl, ly, rfl, ⟨_, SqL.of hy2⟩, fun D hD => lc_list (K := K) (a := ly) (xs := nums layer) (fun i H2 => H2 = upd H' D (.lst (nums ((layer.take i).filter (Ra13.is q))))) rfl (fun i H2 _ e => by rw [e]; exact seq_upd hD (SqL.of hy2)) ?_ ?_⟩
        · rintro i y H2 hi rfl
          obtain ⟨x, hx, rfl⟩ := of_nums hi
          have xg := laylt x (List.mem_of_getElem? hx)
          have fs := filter_snoc (Ra13.is q) hx
          refine ⟨rfl, _, rfl, _, rfl, b, _, _, _, rfl, rfl, SqL.of ((same_new _ hD) _ _ (s2 _ _ hb)), is_at (by rw [hq]; exact xg), _, rfl, ifB (fun hqx => ?_) (fun hqx => ?_)⟩
          · refine ⟨_, rfl, _, upd_same, ?_, ?_⟩
            · exact flen _ _
            · rw [upd_upd, fs, if_pos hqx, nums_app]; rfl
          · show upd H' D _ = upd H' D _
            rw [fs, if_neg (by rw [hqx]; simp)]
        · rintro H2 rfl
          rw [nums_len, List.take_length]
          have s3 : Same H' (upd H' D (.lst (nums (layer.filter (Ra13.is q))))) := same_new _ hD
          have e3 : (upd H' D (.lst (nums (layer.filter (Ra13.is q))))) D = some (.lst (nums (layer.filter (Ra13.is q)))) := upd_same
          generalize (upd H' D (.lst (nums (layer.filter (Ra13.is q))))) = H2 at s3 e3 ⊢
          have s4 := s2.trans s3
          refine ⟨_, rfl, D, _, rfl, .inl (SqL.of e3), _, _, rfl, rfl, _, rfl, iteD (fun he => ?_) (fun he => ?_)⟩
          · -- return row_to(came_from, ends[0])
            cases hf : layer.filter (Ra13.is q) with
            | nil => rw [hf] at he; exact absurd he (by decide)
            | cons e r =>
              obtain ⟨kk, pre, h1, h2, h3⟩ := B.hit R.fit hf
              rw [hf] at e3
              refine ⟨_, rfl, _, rfl, D, _, _, V.int (e : Int), rfl, rfl, SqL.of e3, (show atI _ ((0 : Nat) : Int) = _ from atI_nat rfl), d, e, c, e :: pre.reverse, rfl, s3 _ _ hd2, B.nd, h2, rfl, ?_, fun H3 r3 s5 f5 e5 => ?_⟩
              · have h4 := Wm.row_len (g := g) (d := g.far p q) kk s
                have h5 := Wm.ds_lt R.fit hs h1
                rw [h3, List.length_append] at h4
                rw [List.length_cons, List.length_reverse]
                have : ([e] : List Nat).length = 1 := rfl
                omega
              · refine k H3 r3 (s4.trans s5) (s4.free f5) ?_
                have er : rowL g p q s = pre ++ [e] := by unfold rowL; rw [h1]; exact h3
                rw [er, e5]
                simp
          · -- layer = next_layer(..)
            have hm : layer.filter (Ra13.is q) = [] := by
              rw [nums_len] at he
              exact List.eq_nil_of_length_eq_zero (by omega)
            have hy3 := s3 _ _ hy2
            refine ⟨_, rfl, _, rfl, ly, rfl, ⟨_, SqL.of hy3⟩, fun D2 hD2 => lc_list (K := K) (a := ly) (xs := nums layer) (fun i H3 => H3 = upd H2 D2 (.lst (nums ((layer.take i).filter (Ra13.is p))))) rfl (fun i H3 _ e => by rw [e]; exact seq_upd hD2 (SqL.of hy3)) ?_ ?_⟩
            · rintro i y H3 hi rfl
              obtain ⟨x, hx, rfl⟩ := of_nums hi
              have xg := laylt x (List.mem_of_getElem? hx)
              have fs := filter_snoc (Ra13.is p) hx
              refine ⟨rfl, _, rfl, _, rfl, a, _, _, _, rfl, rfl, SqL.of ((same_new _ hD2) _ _ (s4 _ _ ha)), is_at (by rw [hp]; exact xg), _, rfl, ifB (fun hpx => ?_) (fun hpx => ?_)⟩
              · refine ⟨_, rfl, _, upd_same, ?_, ?_⟩
                · exact flen _ _
                · rw [upd_upd, fs, if_pos hpx, nums_app]; rfl
              · show upd H2 D2 _ = upd H2 D2 _
                rw [fs, if_neg (by rw [hpx]; simp)]
            · rintro H3 rfl
              rw [nums_len, List.take_length]
              have s5 : Same H2 (upd H2 D2 (.lst (nums (layer.filter (Ra13.is p))))) := same_new _ hD2
              have e5 : (upd H2 D2 (.lst (nums (layer.filter (Ra13.is p))))) D2 = some (.lst (nums (layer.filter (Ra13.is p)))) := upd_same
              generalize (upd H2 D2 (.lst (nums (layer.filter (Ra13.is p))))) = H3 at s5 e5 ⊢
              have s6 := s4.trans s5
              have hd3 := s5 _ _ (s3 _ _ hd2)
              refine ⟨_, rfl, pg, dx, lm, lf, D2, d, ds, g, _, c, rfl, R.same s6, e5, fun x hx => laylt x (List.mem_filter.mp hx).1, hd3, ?_, B.nd, B.lt, hn, fun H4 r4 k4 d4 f4 e4 => ?_⟩
              · intro mm
                obtain ⟨j, hj⟩ := List.getElem?_of_mem mm
                have := R.at_ j d hj
                rw [hd] at this; cases this
              · exact ⟨_, _, r4, rfl, fun x o e => k4 x o (s6 x o e) (by simpa using ne_of_none e hd), d4, e4, hm⟩
    · -- return []
      have hnil : layer = [] := by
        rw [nums_len] at hl
        exact List.eq_nil_of_length_eq_zero (by omega)
      subst hnil
      refine ⟨sz (by decide), fun r hr' => k _ r (same_upd _ s2 (s2.free hr')) (s2.free hr') ?_⟩
      have er : rowL g p q s = [] := by unfold rowL; rw [B.end_]
      rw [upd_same, er]
      rfl
end
end Wp

set_option Elab.async false
set_option linter.all false
set_option maxRecDepth 100000
set_option maxHeartbeats 2000000
namespace Wp
open PySem PySem.Spec PyProof.Rows L2 Wr
/-! ### lists of numbers, cut -/
def ansL (y : Ra13.Ans) : List Int := y.value :: y.out.map fun x : Nat => (x : Int)
theorem zs_nats {l : List Int} (h : ∀ z ∈ l, 0 ≤ z) : zs l = nums (Ra13Neutral.nats l) := by
  unfold zs nums Ra13Neutral.nats
  rw [List.map_map]
  refine List.map_congr_left fun z hz => ?_
  show V.int z = V.int ((z.toNat : Nat) : Int)
  congr 1
  have := h z hz
  omega
theorem cut_from (l : List Int) {k : Nat} : cutV (zs l) (some (k : Int)) none = zs (l.drop k) := by
  unfold cutV
  rw [HT.sIx_nat, HT.sIx_none, zs_len]
  unfold zs
  rw [← List.map_drop, ← List.map_take]
  congr 1
  by_cases h : k ≤ l.length
  · rw [Nat.min_eq_left h]
    exact List.take_of_length_le (by rw [List.length_drop]; exact Nat.le_refl _)
  · rw [Nat.min_eq_right (by omega), List.drop_of_length_le (Nat.le_refl _), List.drop_of_length_le (by omega)]
    simp
theorem cut_mid (l : List Int) {j k : Nat} (h1 : j ≤ k) (h2 : k ≤ l.length) : cutV (zs l) (some (j : Int)) (some (k : Int)) = zs ((l.drop j).take (k - j)) := by
  unfold cutV
  rw [HT.sIx_nat, HT.sIx_nat, zs_len, Nat.min_eq_left h2, Nat.min_eq_left (by omega)]
  unfold zs
  rw [← List.map_drop, ← List.map_take]
theorem cut_to (l : List Nat) (k : Nat) : cutV (nums l) none (some (k : Int)) = nums (l.take k) := by
  unfold cutV
  rw [HT.sIx_nat, HT.sIx_none, nums_len, List.drop_zero, Nat.sub_zero]
  unfold nums
  rw [← List.map_take]
  congr 1
  by_cases h : k ≤ l.length
  · rw [Nat.min_eq_left h]
  · rw [Nat.min_eq_right (by omega), List.take_of_length_le (Nat.le_refl _), List.take_of_length_le (by omega)]
theorem zs_at {l : List Int} {i : Nat} {z : Int} (h : l[i]? = some z) : atI (zs l) (i : Int) = some (V.int z) := atI_nat (zs_get h)
def lenB (n : Int) : Bool := decide (1 ≤ n) && decide (n ≤ 256)
theorem lenB_iff {n : Int} : lenB n = true ↔ 1 ≤ n ∧ n ≤ 256 := by unfold lenB; simp
section
variable {P : Program} {w : World} {K : PySem.W.Frag} {mg : Str → Option Value} {base : Heap} {G W : Addr}
/-! ### is_length -/
def spIsLen : Sp := fun vs H Q _ => ∃ z : Int, vs = [.int z] ∧ Q (.bl (lenB z)) H
theorem scIsLen : FnScope ["n"] ["n"] (defScope sIsLen) := ⟨rfl, rfl, rfl, by decide +kernel, rfl, by decide +kernel, by decide +kernel⟩
theorem ok_islen {f : Addr} {fd : FuncData} (F : Fun K "is_length" "is_length" sIsLen f fd) (T : Txt K mg G W) : FnOk P w K mg base CX0 1 f fd ["n"] spIsLen := by
  refine F.ok scIsLen (fun vs H Q E h => ?_) (fun cdv A outer s H vs Q E hr h => ?_)
  · obtain ⟨z, rfl, _⟩ := h
    rfl
  · obtain ⟨z, rfl, k⟩ := h
    refine ⟨_, pss_one (ps_ret (pe_chain op_le op_le pe_int (pv 0) (pe_gint T.mnu))), ?_⟩
    refine ⟨_, rfl, _, _, rfl, rfl, _, rfl, iteD (fun h0 => ?_) (fun h0 => ?_)⟩
    · refine ⟨_, _, rfl, rfl, ?_⟩
      have : lenB z = decide (z ≤ 256) := by unfold lenB; simp [h0]
      rw [this] at k
      exact k
    · have : lenB z = false := by unfold lenB; simp; omega
      rw [this] at k
      exact k
/-! ### answer_where -/
def spAWhere (G : Addr) : Sp := fun vs H Q _ => ∃ (p dx lm lf a : Addr) (ds : List Addr) (g : Ra13.Abs) (n : Int) (l : List Int), vs = [.ref p, .ref a] ∧ GrAt G H p g dx lm lf ds ∧ H a = some (.lst (zs (n :: l))) ∧ (∀ z ∈ l, 0 ≤ z) ∧ l.length ≤ 60 ∧ g.states ≤ 40 ∧
  ∀ (H' : Hp) (r : Addr), Same H H' → H r = none → H' r = some (.lst (zs (ansL (Ra13.does (some g) (.where_ (Ra13Neutral.nats l) n)).2))) → Q (.ref r) H'
theorem scAWhere : FnScope ["graph", "numbers", "formula", "found", "state", "yes"] ["graph", "numbers"] (defScope sAWhere) := ⟨rfl, rfl, rfl, by decide +kernel, rfl, by decide +kernel, by decide +kernel⟩
theorem within_len (n : Int) : Ra13.within n 1 256 = lenB n := rfl
theorem ok_awhere {f : Addr} {fd : FuncData} (F : Fun K "answer_where" "answer_where" sAWhere f fd) (T : Txt K mg G W) (FL : Callee P w K mg base 1 "is_length" ["n"] spIsLen) (FR : Callee P w K mg base 3 "is_right" ["formula"] (spRight K)) (FW : Callee P w K mg base 7 "where_yes" ["graph", "formula"] (spWhere K G)) : FnOk P w K mg base CX0 9 f fd ["graph", "numbers"] (spAWhere G) := by
  refine F.ok scAWhere (fun vs H Q E h => ?_) (fun cdv A outer s H vs Q E hr h => ?_)
  · obtain ⟨p, dx, lm, lf, a, ds, g, n, l, rfl, _⟩ := h
    rfl
  · obtain ⟨p, dx, lm, lf, a, ds, g, n, l, rfl, R, ha, hl, hl2, hn, k⟩ := h
    refine ⟨_, pss_cons (ps_set (i := 2) scAWhere.nd rfl (Or.inl rfl) (pe_slice sl_list (pv 1) (po_some (pe_gint T.ah1)) po_none))
      (pss_cons (ps_if (pt_not (pt_val (pe_callee FL hr (by decide) rfl (pa_cons (pe_ix ix_list (pv 1) pe_int (fun _ _ => rfl)) pa_nil)))) (pss_one (ps_ret (pe_lst (pa_cons (pe_gint T.oor) pa_nil)))) pss_nil)
      (pss_cons (ps_if (pt_not (pt_val (pe_callee FR hr (by decide) rfl (pa_cons (pv 2) pa_nil)))) (pss_one (ps_ret (pe_lst (pa_cons (pe_gint T.ref) pa_nil)))) pss_nil)
      (pss_cons (ps_setLc (i := 3) rfl scAWhere.nd rfl rfl (sw_true rfl rfl rfl rfl) (pi_enum rfl T.enum (pa_cons (pe_callee FW hr (by decide) rfl (pa_cons (pv 0) (pa_cons (pv 2) pa_nil))) pa_nil)) (blkOk_by (show blkC ["graph", "numbers", "formula", "found", "state", "yes"] (defScope sAWhere) _ [("state", 4), ("yes", 5)] = true from by decide +kernel))
          (fun _ _ _ _ _ => show PG _ _ (gTup K 2 (gCons (gName 4) (gCons (gName 5) gNil))) from pg_tup (n := 2) rfl (pgs_cons (pg_name (i := 4) scAWhere.nd rfl (Or.inl rfl)) (pgs_cons (pg_name (i := 5) scAWhere.nd rfl (Or.inl rfl)) pgs_nil))) (fun _ _ _ _ _ => pts_one (pt_val (pv 5))) (fun _ _ _ _ _ => pv 4))
      (pss_one (ps_ret (pe_op op_cat (pe_lst (pa_cons (pe_callB call_len_seq rfl T.len PySem.boot_len (pa_cons (pv 3) pa_nil)) pa_nil)) (pv 3))))))), ?_⟩
    -- formula = numbers[1:]
    refine ⟨_, rfl, _, rfl, a, _, rfl, SqL.of ha, fun lf' hlf => ?_⟩
    have ec : cutV (zs (n :: l)) (some ((1 : Nat) : Int)) none = nums (Ra13Neutral.nats l) := by rw [cut_from]; exact zs_nats hl
    rw [show cutV (zs (n :: l)) (some (1 : Int)) none = nums (Ra13Neutral.nats l) from ec]
    have s1 := same_new (.lst (nums (Ra13Neutral.nats l))) hlf
    have f1 : (upd H lf' (.lst (nums (Ra13Neutral.nats l)))) lf' = some (.lst (nums (Ra13Neutral.nats l))) := upd_same
    generalize (upd H lf' (.lst (nums (Ra13Neutral.nats l)))) = H1 at s1 f1 ⊢
    have hdo : ∀ x, (if lenB n = false then Ra13.refused else match Ra13.read (Ra13Neutral.nats l) with
      | none => { value := -1 }
      | some p => let l := (List.range g.states).filter (Ra13.is (g.yes p))
        { value := (l.length : Int), out := l }) = x → (Ra13.does (some g) (.where_ (Ra13Neutral.nats l) n)).2 = x := fun x hx => by
      rw [← hx, ← within_len]; rfl
    -- if not is_length(numbers[0])
    refine ⟨_, rfl, a, _, _, V.int n, rfl, rfl, SqL.of (s1 _ _ ha), (show atI _ ((0 : Nat) : Int) = _ from zs_at rfl), n, rfl, _, rfl, ?_⟩
    cases hL : lenB n with
    | false =>
      refine iteT ⟨sz (by decide), fun r hr' => k _ r (same_upd _ s1 (s1.free hr')) (s1.free hr') ?_⟩
      rw [upd_same, hdo Ra13.refused (by rw [hL]; rfl)]
      rfl
    | true =>
      refine iteF ⟨_, rfl, lf', _, rfl, SqL.of f1, _, rfl, ?_⟩
      cases hR : Ra13.read (Ra13Neutral.nats l) with
      | none =>
        refine iteT ⟨sz (by decide), fun r hr' => k _ r (same_upd _ s1 (s1.free hr')) (s1.free hr') ?_⟩
        rw [upd_same, hdo { value := -1 } (by rw [hL, hR]; rfl)]
        rfl
      | some φ =>
        refine iteF ⟨_, rfl, _, rfl, p, dx, lm, lf, lf', ds, g, _, φ, rfl, R.same s1, SqL.of f1, by unfold Ra13Neutral.nats; rw [List.length_map]; omega, hR, by omega, fun H2 ry s2 hry e2 => ?_⟩
        have hyl := Wm.yes_len (g := g) φ
        -- found = [state for state, yes in enumerate(..) if yes]
        refine ⟨ry, _, rfl, SqL.of e2, fun D hD => lc_enum (K := K) (a := ry) (xs := bls (g.yes φ)) (fun i H3 => Same H2 H3 ∧ H3 D = some (.lst (nums (yesAt (g.yes φ) i)))) ⟨same_new _ hD, upd_same⟩ (fun i H3 _ e => SqL.of (e.1 _ _ e2)) ?_ ?_⟩
        · rintro i x t H3 hi ⟨s3, e3⟩ hT
          obtain ⟨y, hy, rfl⟩ := of_bls hi
          have hil := (List.getElem?_eq_some_iff.mp hy).1
          have ey : Ra13.is (g.yes φ) i = y := Wm.getElem_is hy
          have nT : D ≠ t := ne_of_none e3 hT
          refine ⟨t, _, rfl, SqT.of upd_same, rfl, _, _, rfl, _, _, rfl, rfl, rfl, _, rfl, _, rfl, ifB (fun h => ?_) (fun h => ?_)⟩
          · refine ⟨_, rfl, _, by rw [upd_ne nT]; exact e3, ?_, ?_, ?_⟩
            · rw [nums_len]; exact szl (by have := yesAt_len (g.yes φ) i; omega)
            · exact same_upd _ (s3.trans (same_new _ hT)) hD
            · rw [upd_same, yesAt_succ, ey, if_pos h, nums_app]; rfl
          · refine ⟨s3.trans (same_new _ hT), ?_⟩
            rw [upd_ne nT, yesAt_succ, ey, h]
            exact e3
        · rintro H3 ⟨s3, e3⟩
          rw [bls_len, hyl] at e3
          have yl := yesAt_len (g.yes φ) g.states
          -- return [len(found)] + found
          refine ⟨_, rfl, D, _, rfl, .inl (SqL.of e3), sz (by show 1 ≤ 100000; decide), fun l0 h0 => ?_⟩
          have s4 := same_new (.lst [V.int ((nums (yesAt (g.yes φ) g.states)).length : Int)]) h0
          refine ⟨_, rfl, l0, D, _, _, rfl, rfl, upd_same, s4 _ _ e3, by rw [nums_len]; exact sz (by show 1 + _ ≤ _; omega), fun r hr' => ?_⟩
          have sA := s1.trans (s2.trans (s3.trans s4))
          refine k _ r (same_upd _ sA (sA.free hr')) (sA.free hr') ?_
          rw [upd_same, hdo { value := ((yesAt (g.yes φ) g.states).length : Int), out := yesAt (g.yes φ) g.states } (by rw [hL, hR]; rfl), nums_len]
          show some (HO.lst (V.int _ :: nums _)) = some (HO.lst (V.int _ :: zs _))
          rw [nums_zs]
/-! ### answer_way -/
def wayB (g : Ra13.Abs) (n m f r : Int) : Bool := lenB n && (lenB m && (hasB f (g.states : Int) && (decide (0 ≤ r) && decide (r ≤ 4096))))
theorem wayFits_eq (g : Ra13.Abs) (n m f r : Int) : Ra13.wayFits g n m f r = wayB g n m f r := by
  unfold Ra13.wayFits wayB
  rw [isState_eq]
  rfl
def spAWay (G : Addr) : Sp := fun vs H Q _ => ∃ (p dx lm lf a : Addr) (ds : List Addr) (g : Ra13.Abs) (n m f r : Int) (l : List Int), vs = [.ref p, .ref a] ∧ GrAt G H p g dx lm lf ds ∧ H a = some (.lst (zs (n :: m :: f :: r :: l))) ∧ (∀ z ∈ l, 0 ≤ z) ∧ l.length = Ra13Neutral.many n + Ra13Neutral.many m ∧ Ra13Neutral.many n ≤ 60 ∧ Ra13Neutral.many m ≤ 60 ∧ g.states ≤ 40 ∧
  ∀ (H' : Hp) (x : Addr), Same H H' → H x = none → H' x = some (.lst (zs (ansL (Ra13.does (some g) (.way (Ra13Neutral.nats (l.take (Ra13Neutral.many n))) n (Ra13Neutral.nats (l.drop (Ra13Neutral.many n))) m f r)).2))) → Q (.ref x) H'
theorem scAWay : FnScope ["graph", "numbers", "n", "m", "start", "most", "p", "q", "row"] ["graph", "numbers"] (defScope sAWay) := ⟨rfl, rfl, rfl, by decide +kernel, rfl, by decide +kernel, by decide +kernel⟩
theorem ok_away {f : Addr} {fd : FuncData} (F : Fun K "answer_way" "answer_way" sAWay f fd) (T : Txt K mg G W) (FL : Callee P w K mg base 1 "is_length" ["n"] spIsLen) (FR : Callee P w K mg base 3 "is_right" ["formula"] (spRight K)) (FW : Callee P w K mg base 7 "where_yes" ["graph", "formula"] (spWhere K G))
    (FH : MethC P w K mg base 1 G "has_state" ["self", "state"] (spHas G)) (FF : Callee P w K mg base 3 "fewest_row" ["graph", "start", "p", "q"] (spFew K G)) : FnOk P w K mg base CX0 9 f fd ["graph", "numbers"] (spAWay G) := by
  refine F.ok scAWay (fun vs H Q E h => ?_) (fun cdv A outer s H vs Q E hr h => ?_)
  · obtain ⟨p, dx, lm, lf, a, ds, g, n, m, f, r, l, rfl, _⟩ := h
    rfl
  · obtain ⟨p, dx, lm, lf, a, ds, g, n, m, f, r, l, rfl, R, ha, hl, hll, hmn, hmm, hn, k⟩ := h
    refine ⟨_, pss_cons (ps_set (i := 2) scAWay.nd rfl (Or.inl rfl) (pe_ix ix_list (pv 1) pe_int (fun _ _ => rfl)))
      (pss_cons (ps_set (i := 3) scAWay.nd rfl (Or.inl rfl) (pe_ix ix_list (pv 1) pe_int (fun _ _ => rfl)))
      (pss_cons (ps_set (i := 4) scAWay.nd rfl (Or.inl rfl) (pe_ix ix_list (pv 1) pe_int (fun _ _ => rfl)))
      (pss_cons (ps_set (i := 5) scAWay.nd rfl (Or.inl rfl) (pe_ix ix_list (pv 1) pe_int (fun _ _ => rfl)))
      (pss_cons (ps_if (PW.pt (pw_or (pt_not (pt_val (pe_callee FL hr (by decide) rfl (pa_cons (pv 2) pa_nil)))) (pw_or1 (pt_not (pt_val (pe_callee FL hr (by decide) rfl (pa_cons (pv 3) pa_nil))))))) (pss_one (ps_ret (pe_lst (pa_cons (pe_gint T.oor) pa_nil)))) pss_nil)
      (pss_cons (ps_if (pw_or (pt_not (pt_val (pe_mcallee FH hr (by decide) (pv 0) T.gcl (pa_cons (pv 4) pa_nil)))) (pw_or (pt_cmpR op_lt (pv 5) pe_int (nomark _)) (pw_or1 (pt_cmpR op_gt (pv 5) (pe_gint T.mst) (nomark _))))).pt (pss_one (ps_ret (pe_lst (pa_cons (pe_gint T.oor) pa_nil)))) pss_nil)
      (pss_cons (ps_set (i := 6) scAWay.nd rfl (Or.inl rfl) (pe_slice sl_list (pv 1) (po_some (pe_gint T.ah4)) (po_some (pe_op op_add (pe_gint T.ah4) (pv 2)))))
      (pss_cons (ps_set (i := 7) scAWay.nd rfl (Or.inl rfl) (pe_slice sl_list (pv 1) (po_some (pe_op op_add (pe_gint T.ah4) (pv 2))) po_none))
      (pss_cons (ps_if (PW.pt (pw_or (pt_not (pt_val (pe_callee FR hr (by decide) rfl (pa_cons (pv 6) pa_nil)))) (pw_or1 (pt_not (pt_val (pe_callee FR hr (by decide) rfl (pa_cons (pv 7) pa_nil))))))) (pss_one (ps_ret (pe_lst (pa_cons (pe_gint T.ref) pa_nil)))) pss_nil)
      (pss_cons (ps_set (i := 8) scAWay.nd rfl (Or.inl rfl) (pe_callee FF hr (by decide) rfl (pa_cons (pv 0) (pa_cons (pv 4) (pa_cons (pe_callee FW hr (by decide) rfl (pa_cons (pv 0) (pa_cons (pv 6) pa_nil))) (pa_cons (pe_callee FW hr (by decide) rfl (pa_cons (pv 0) (pa_cons (pv 7) pa_nil))) pa_nil))))))
      (pss_one (ps_ret (pe_op op_cat (pe_lst (pa_cons (pe_callB call_len_seq rfl T.len PySem.boot_len (pa_cons (pv 8) pa_nil)) pa_nil)) (pe_slice sl_list (pv 8) po_none (po_some (pv 5))))))))))))))), ?_⟩
    have A0 : atI (zs (n :: m :: f :: r :: l)) (0 : Int) = some (V.int n) := show atI _ ((0 : Nat) : Int) = _ from zs_at rfl
    have A1 : atI (zs (n :: m :: f :: r :: l)) (1 : Int) = some (V.int m) := show atI _ ((1 : Nat) : Int) = _ from zs_at rfl
    have A2 : atI (zs (n :: m :: f :: r :: l)) (2 : Int) = some (V.int f) := show atI _ ((2 : Nat) : Int) = _ from zs_at rfl
    have A3 : atI (zs (n :: m :: f :: r :: l)) (3 : Int) = some (V.int r) := show atI _ ((3 : Nat) : Int) = _ from zs_at rfl
    have hdo : ∀ x, (if wayB g n m f r = false then Ra13.refused else match Ra13.read (Ra13Neutral.nats (l.take (Ra13Neutral.many n))), Ra13.read (Ra13Neutral.nats (l.drop (Ra13Neutral.many n))) with
      | some p, some q => (match g.rowOf p q f.toNat with
        | some l => { value := (l.length : Int), out := l.take r.toNat }
        | none => {})
      | _, _ => { value := -1 }) = x → (Ra13.does (some g) (.way (Ra13Neutral.nats (l.take (Ra13Neutral.many n))) n (Ra13Neutral.nats (l.drop (Ra13Neutral.many n))) m f r)).2 = x := fun x hx => by
      rw [← hx, ← wayFits_eq]; rfl
    have bad : wayB g n m f r = false → ∀ x, H x = none → Q (.ref x) (upd H x (.lst [V.int (-2)])) := fun hb x hx => by
      refine k _ x (same_new _ hx) hx ?_
      rw [upd_same, hdo Ra13.refused (by rw [hb]; rfl)]
      rfl
    refine ⟨_, rfl, a, _, _, _, rfl, rfl, SqL.of ha, A0, ?_⟩
    refine ⟨_, rfl, a, _, _, _, rfl, rfl, SqL.of ha, A1, ?_⟩
    refine ⟨_, rfl, a, _, _, _, rfl, rfl, SqL.of ha, A2, ?_⟩
    refine ⟨_, rfl, a, _, _, _, rfl, rfl, SqL.of ha, A3, ?_⟩
    refine ⟨_, rfl, n, rfl, _, rfl, ?_⟩
    cases hL : lenB n with
    | false => exact iteT ⟨sz (by decide), bad (by unfold wayB; rw [hL]; rfl)⟩
    | true =>
    refine iteF ⟨_, rfl, m, rfl, _, rfl, ?_⟩
    cases hM : lenB m with
    | false => exact iteT ⟨sz (by decide), bad (by unfold wayB; rw [hL, hM]; rfl)⟩
    | true =>
    refine iteF ⟨_, rfl, p, dx, _, rfl, R.ins, gf_h _ _ _ _, _, rfl, p, dx, _, _, f, lm, lf, rfl, R.ins, _, rfl, ?_⟩
    cases hS : hasB f (g.states : Int) with
    | false => exact iteT ⟨sz (by decide), bad (by unfold wayB; rw [hL, hM, hS]; rfl)⟩
    | true =>
    refine iteF ⟨_, rfl, _, _, rfl, rfl, _, rfl, iteD (fun h0 => ⟨sz (by decide), bad (by unfold wayB; rw [hL, hM, hS]; simp; omega)⟩) (fun h0 => ?_)⟩
    refine ⟨_, rfl, _, _, rfl, rfl, _, rfl, iteD (fun h1 => ⟨sz (by decide), bad (by unfold wayB; rw [hL, hM, hS]; simp; omega)⟩) (fun h1 => ?_)⟩
    have hW : wayB g n m f r = true := by unfold wayB; rw [hL, hM, hS]; simp; omega
    obtain ⟨n1, n2⟩ := lenB_iff.mp hL
    obtain ⟨f0, f1⟩ := hasB_iff.mp hS
    have hmany : Ra13Neutral.many n = n.toNat := by unfold Ra13Neutral.many; rw [if_pos ⟨n1, n2⟩]
    have e4n : (4 : Int) + n = ((4 + n.toNat : Nat) : Int) := by omega
    have cp : cutV (zs (n :: m :: f :: r :: l)) (some (4 : Int)) (some (4 + n)) = nums (Ra13Neutral.nats (l.take (Ra13Neutral.many n))) := by
      rw [e4n]
      rw [show (4 : Int) = ((4 : Nat) : Int) from rfl, cut_mid _ (by omega) (by simp only [List.length_cons]; omega), Nat.add_sub_cancel_left, hmany]
      exact zs_nats fun z hz => hl z (List.mem_of_mem_take hz)
    have cq : cutV (zs (n :: m :: f :: r :: l)) (some (4 + n)) none = nums (Ra13Neutral.nats (l.drop (Ra13Neutral.many n))) := by
      rw [e4n, cut_from, hmany, Nat.add_comm]
      exact zs_nats fun z hz => hl z (List.mem_of_mem_drop hz)
    -- p = numbers[4:4 + n]; q = numbers[4 + n:]
    refine ⟨_, rfl, _, rfl, _, rfl, _, _, rfl, rfl, _, rfl, a, _, rfl, SqL.of ha, fun rp hrp => ?_⟩
    rw [cp]
    have s1 := same_new (.lst (nums (Ra13Neutral.nats (l.take (Ra13Neutral.many n))))) hrp
    refine ⟨_, rfl, _, rfl, _, _, rfl, rfl, _, rfl, a, _, rfl, SqL.of (s1 _ _ ha), fun rq hrq => ?_⟩
    rw [cq]
    have s2 := s1.trans (same_new (.lst (nums (Ra13Neutral.nats (l.drop (Ra13Neutral.many n))))) hrq)
    have npq : rp ≠ rq := by rintro rfl; rw [upd_same] at hrq; cases hrq
    have ep : (upd (upd H rp (.lst (nums (Ra13Neutral.nats (l.take (Ra13Neutral.many n)))))) rq (.lst (nums (Ra13Neutral.nats (l.drop (Ra13Neutral.many n)))))) rp = some (.lst (nums (Ra13Neutral.nats (l.take (Ra13Neutral.many n))))) := by rw [upd_ne npq]; exact upd_same
    have eq' : (upd (upd H rp (.lst (nums (Ra13Neutral.nats (l.take (Ra13Neutral.many n)))))) rq (.lst (nums (Ra13Neutral.nats (l.drop (Ra13Neutral.many n)))))) rq = some (.lst (nums (Ra13Neutral.nats (l.drop (Ra13Neutral.many n))))) := upd_same
    generalize (upd (upd H rp (.lst (nums (Ra13Neutral.nats (l.take (Ra13Neutral.many n)))))) rq (.lst (nums (Ra13Neutral.nats (l.drop (Ra13Neutral.many n)))))) = H2 at s2 ep eq' ⊢
    have bad2 : (Ra13.read (Ra13Neutral.nats (l.take (Ra13Neutral.many n))) = none ∨ Ra13.read (Ra13Neutral.nats (l.drop (Ra13Neutral.many n))) = none) → ∀ x, H2 x = none → Q (.ref x) (upd H2 x (.lst [V.int (-1)])) := fun hb x hx => by
      refine k _ x (same_upd _ s2 (s2.free hx)) (s2.free hx) ?_
      rw [upd_same, hdo { value := -1 } (by
        rw [hW]
        rcases hb with hb | hb
        · rw [hb]; rfl
        · rw [hb]
          cases Ra13.read (Ra13Neutral.nats (l.take (Ra13Neutral.many n))) <;> rfl)]
      rfl
    refine ⟨_, rfl, rp, _, rfl, SqL.of ep, _, rfl, ?_⟩
    cases hP : Ra13.read (Ra13Neutral.nats (l.take (Ra13Neutral.many n))) with
    | none => exact iteT ⟨sz (by decide), bad2 (.inl hP)⟩
    | some φ =>
    refine iteF ⟨_, rfl, rq, _, rfl, SqL.of eq', _, rfl, ?_⟩
    cases hQ : Ra13.read (Ra13Neutral.nats (l.drop (Ra13Neutral.many n))) with
    | none => exact iteT ⟨sz (by decide), bad2 (.inr hQ)⟩
    | some ψ =>
    have l1 : (Ra13Neutral.nats (l.take (Ra13Neutral.many n))).length ≤ 256 := by unfold Ra13Neutral.nats; rw [List.length_map, List.length_take]; omega
    have l2 : (Ra13Neutral.nats (l.drop (Ra13Neutral.many n))).length ≤ 256 := by unfold Ra13Neutral.nats; rw [List.length_map, List.length_drop]; omega
    have R2 := R.same s2
    -- row = fewest_row(graph, start, where_yes(graph, p), where_yes(graph, q))
    refine iteF ⟨_, rfl, _, rfl, _, rfl, _, rfl, p, dx, lm, lf, rp, ds, g, _, φ, rfl, R2, SqL.of ep, l1, hP, by omega, fun H3 y1 s3 g3 e3 => ?_⟩
    refine ⟨_, rfl, _, rfl, p, dx, lm, lf, rq, ds, g, _, ψ, rfl, R2.same s3, SqL.of (s3 _ _ eq'), l2, hQ, by omega, fun H4 y2 s4 g4 e4 => ?_⟩
    have ef : V.int f = V.int ((f.toNat : Nat) : Int) := by congr 1; omega
    have s5 := s2.trans (s3.trans s4)
    refine ⟨p, dx, lm, lf, y1, y2, ds, g, f.toNat, g.yes φ, g.yes ψ, by rw [ef]; rfl, R.same s5, by omega, s4 _ _ e3, Wm.yes_len _, e4, Wm.yes_len _, hn, fun H5 rr s6 g6 e6 => ?_⟩
    -- return [len(row)] + row[:most]
    refine ⟨_, rfl, rr, _, rfl, .inl (SqL.of e6), sz (by show 1 ≤ 100000; decide), fun l0 h0 => ?_⟩
    have s7 := same_new (.lst [V.int ((nums (rowL g (g.yes φ) (g.yes ψ) f.toNat)).length : Int)]) h0
    refine ⟨_, rfl, _, rfl, _, rfl, rr, _, rfl, SqL.of (s7 _ _ e6), fun l3 h3 => ?_⟩
    have er : r = ((r.toNat : Nat) : Int) := by omega
    have cr : cutV (nums (rowL g (g.yes φ) (g.yes ψ) f.toNat)) none (some r) = nums ((rowL g (g.yes φ) (g.yes ψ) f.toNat).take r.toNat) := by
      rw [er]; exact cut_to _ _
    rw [cr]
    have n03 : l0 ≠ l3 := by rintro rfl; rw [upd_same] at h3; cases h3
    have rlen : (rowL g (g.yes φ) (g.yes ψ) f.toNat).length ≤ 100 := by
      unfold rowL
      cases hd : Wm.ds g (g.yes φ) (g.yes ψ) f.toNat with
      | none => exact Nat.zero_le _
      | some kk =>
        have h4 := Wm.row_len (g := g) (d := g.far (g.yes φ) (g.yes ψ)) kk f.toNat
        have h5 := Wm.ds_lt R.fit (by omega) hd
        show (g.rowFrom _ kk f.toNat).length ≤ 100
        omega
    have s8 := same_new (.lst (nums ((rowL g (g.yes φ) (g.yes ψ) f.toNat).take r.toNat))) h3
    refine ⟨l0, l3, _, _, rfl, rfl, s8 _ _ upd_same, upd_same, by (have q := nums_len ((rowL g (g.yes φ) (g.yes ψ) f.toNat).take r.toNat); rw [List.length_take] at q; rw [q]; exact sz (by show 1 + _ ≤ _; omega)), fun x hx => ?_⟩
    have sA := s5.trans (s6.trans (s7.trans s8))
    refine k _ x (same_upd _ sA (sA.free hx)) (sA.free hx) ?_
    rw [upd_same, hdo { value := ((rowL g (g.yes φ) (g.yes ψ) f.toNat).length : Int), out := (rowL g (g.yes φ) (g.yes ψ) f.toNat).take r.toNat } (by
      rw [hW, hP, hQ]
      show (match g.rowOf φ ψ f.toNat with
        | some l => ({ value := (l.length : Int), out := l.take r.toNat } : Ra13.Ans)
        | none => {}) = _
      have : g.rowOf φ ψ f.toNat = (Wm.ds g (g.yes φ) (g.yes ψ) f.toNat).map fun k => g.rowFrom (g.far (g.yes φ) (g.yes ψ)) k f.toNat := rfl
      rw [this]
      unfold rowL
      cases Wm.ds g (g.yes φ) (g.yes ψ) f.toNat with
      | none => simp
      | some kk => rfl), nums_len]
    show some (HO.lst (V.int _ :: nums _)) = some (HO.lst (V.int _ :: zs _))
    rw [nums_zs]
end
end Wp

set_option Elab.async false
set_option linter.all false
set_option maxRecDepth 100000
set_option maxHeartbeats 2000000
namespace Wp
open PySem PySem.Spec PyProof.Rows L2 Wr
open Ra13Neutral (step)
theorem grown {fp : List Addr} {H H' : Hp} (kp : Keep fp H H') (h : ∀ x ∈ fp, ∃ o, H' x = some o) {r : Addr} (hr : H' r = none) : H r = none := by
  cases e : H r with
  | none => rfl
  | some o =>
    by_cases m : r ∈ fp
    · obtain ⟨u, hu⟩ := h r m
      rw [hu] at hr; cases hr
    · rw [kp r o e m] at hr; cases hr
theorem GrAt.mem {C p dx lm lf : Addr} {H : Hp} {g : Ra13.Abs} {ds : List Addr} (R : GrAt C H p g dx lm lf ds) : ∀ x ∈ p :: lm :: lf :: ds, ∃ o, H x = some o := fun x hx => by
  rcases List.mem_cons.mp hx with rfl | hx
  · exact ⟨_, R.ins⟩
  rcases List.mem_cons.mp hx with rfl | hx
  · exact ⟨_, R.mrk⟩
  rcases List.mem_cons.mp hx with rfl | hx
  · exact ⟨_, R.fo⟩
  · obtain ⟨j, hj⟩ := List.getElem?_of_mem hx
    exact ⟨_, R.at_ j x hj⟩
theorem Keep.mono {fp fq : List Addr} {H H' : Hp} (k : Keep fp H H') (h : ∀ x ∈ fp, x ∈ fq) : Keep fq H H' := fun b o e n => k b o e fun m => n (h b m)
def absOf (S : Option Ra13.Abs) : Ra13.Abs := S.getD G0
/-- what is wanted behind a call -/
def CallEnd (G : Addr) (H : Hp) (Q : VK) (p dx lm lf : Addr) (ds : List Addr) (S' : Option Ra13.Abs) (out : List Int) : Prop :=
  ∀ (H' : Hp) (r lm' lf' : Addr) (ds' : List Addr), GrAt G H' p (absOf S') dx lm' lf' ds' → Keep (p :: lm :: lf :: ds) H H' → (∀ x ∈ lm' :: lf' :: ds', x ∈ lm :: lf :: ds ∨ H x = none) → H r = none → r ∉ p :: lm' :: lf' :: ds' → H' r = some (.lst (zs out)) → Q (.ref r) H'
/-- the answer's list is laid last -/
theorem CallEnd.lay {G : Addr} {H : Hp} {Q : VK} {p dx lm lf : Addr} {ds : List Addr} {S' : Option Ra13.Abs} {out : List Int} (E : CallEnd G H Q p dx lm lf ds S' out) {H' : Hp} {lm' lf' : Addr} {ds' fp : List Addr} (R : GrAt G H' p (absOf S') dx lm' lf' ds') (kp : Keep fp H H') (hfp : ∀ x ∈ fp, x ∈ p :: lm :: lf :: ds) (hin : ∀ x ∈ fp, ∃ o, H' x = some o)
    (hnew : ∀ x ∈ lm' :: lf' :: ds', x ∈ lm :: lf :: ds ∨ H x = none) {r : Addr} (hr : H' r = none) {xs : List V} (hx : xs = zs out) : Q (.ref r) (upd H' r (.lst xs)) := by
  subst hx
  refine E _ r lm' lf' ds' (R.same (same_new _ hr)) (fun b o e n => ?_) hnew (grown kp hin hr) (fun m => ?_) upd_same
  · have := kp.mono hfp b o e n
    rw [upd_ne (ne_of_none this hr)]
    exact this
  · obtain ⟨o, e⟩ := R.mem r m
    rw [e] at hr; cases hr
/-- the answer's list is new, nothing else has changed -/
theorem CallEnd.pure {G : Addr} {H : Hp} {Q : VK} {p dx lm lf : Addr} {ds : List Addr} {S' : Option Ra13.Abs} {out : List Int} (E : CallEnd G H Q p dx lm lf ds S' out) (R : GrAt G H p (absOf S') dx lm lf ds) {H' : Hp} {r : Addr} (s : Same H H') (hr : H r = none) (e : H' r = some (.lst (zs out))) : Q (.ref r) H' :=
  E H' r lm lf ds (R.same s) (fun b o h _ => s b o h) (fun x hx => .inl hx) hr (fun m => by obtain ⟨o, q⟩ := R.mem r m; rw [q] at hr; cases hr) e
section
variable {P : Program} {w : World} {K : PySem.W.Frag} {mg : Str → Option Value} {base : Heap} {G W : Addr}
/-! ### answer_call -/
def spCall (G : Addr) : Sp := fun vs H Q _ => ∃ (p dx lm lf a : Addr) (ds : List Addr) (S : Option Ra13.Abs) (c : Int) (ns : List Int), vs = [.ref p, .int c, .ref a] ∧ GrAt G H p (absOf S) dx lm lf ds ∧ H a = some (.lst (zs ns)) ∧ Ra13Neutral.asked1 [c :: ns] = true ∧ Ra13Neutral.few S [c :: ns] = true ∧ (S = none → c = 1) ∧ Wm.edgesLe S ∧
  CallEnd G H Q p dx lm lf ds (step S [c :: ns]).1 (step S [c :: ns]).2
theorem scCall : FnScope ["graph", "call", "numbers"] ["graph", "call", "numbers"] (defScope sCall) := ⟨rfl, rfl, rfl, by decide +kernel, rfl, by decide +kernel, by decide +kernel⟩
theorem ok_call {f : Addr} {fd : FuncData} (F : Fun K "answer_call" "answer_call" sCall f fd) (T : Txt K mg G W) (FO : MethC P w K mg base 1 G "open_graph" ["self", "states"] (spOpen G)) (FE : MethC P w K mg base 3 G "add_edge" ["self", "a", "b"] (spEdge G)) (FM : MethC P w K mg base 3 G "set_marks" ["self", "state", "marks"] (spMarks G))
    (FW : Callee P w K mg base 9 "answer_where" ["graph", "numbers"] (spAWhere G)) (FY : Callee P w K mg base 9 "answer_way" ["graph", "numbers"] (spAWay G)) : FnOk P w K mg base CX0 11 f fd ["graph", "call", "numbers"] (spCall G) := by
  refine F.ok scCall (fun vs H Q E h => ?_) (fun cdv A outer s H vs Q E hr h => ?_)
  · obtain ⟨p, dx, lm, lf, a, ds, S, c, ns, rfl, _⟩ := h
    rfl
  · obtain ⟨p, dx, lm, lf, a, ds, S, c, ns, rfl, R, ha, has, hfew, h1, hed, k⟩ := h
    refine ⟨_, pss_cons (ps_if (pt_cmpR op_eq (pv 1) (pe_gint T.c1) (nomark _)) (pss_one (ps_ret (pe_lst (pa_cons (pe_mcallee FO hr (by decide) (pv 0) T.gcl (pa_cons (pe_ix ix_list (pv 2) pe_int (fun _ _ => rfl)) pa_nil)) pa_nil)))) pss_nil)
      (pss_cons (ps_if (pt_cmpR op_eq (pv 1) (pe_gint T.c2) (nomark _)) (pss_one (ps_ret (pe_lst (pa_cons (pe_mcallee FE hr (by decide) (pv 0) T.gcl (pa_cons (pe_ix ix_list (pv 2) pe_int (fun _ _ => rfl)) (pa_cons (pe_ix ix_list (pv 2) pe_int (fun _ _ => rfl)) pa_nil))) pa_nil)))) pss_nil)
      (pss_cons (ps_if (pt_cmpR op_eq (pv 1) (pe_gint T.c3) (nomark _)) (pss_one (ps_ret (pe_lst (pa_cons (pe_mcallee FM hr (by decide) (pv 0) T.gcl (pa_cons (pe_ix ix_list (pv 2) pe_int (fun _ _ => rfl)) (pa_cons (pe_ix ix_list (pv 2) pe_int (fun _ _ => rfl)) pa_nil))) pa_nil)))) pss_nil)
      (pss_cons (ps_if (pt_cmpR op_eq (pv 1) (pe_gint T.c4) (nomark _)) (pss_one (ps_ret (pe_callee FW hr (by decide) rfl (pa_cons (pv 0) (pa_cons (pv 2) pa_nil))))) pss_nil)
      (pss_one (ps_ret (pe_callee FY hr (by decide) rfl (pa_cons (pv 0) (pa_cons (pv 2) pa_nil)))))))), ?_⟩
    have ne : ∀ {x y : Int}, ¬ x = y → ¬ V.int x = V.int y := fun h q => h (V.int.inj q)
    rcases Wm.asked_form has with ⟨z, e⟩ | ⟨x, y, e⟩ | ⟨x, y, e, y0, y1⟩ | ⟨n, l, e, g1, g2, g3⟩ | ⟨n, m, x, y, l, e, g1, g2, g3, g4⟩
    · -- open
      cases e
      refine ⟨_, rfl, rfl, _, rfl, ifY rfl ?_⟩
      refine ⟨_, rfl, p, dx, _, rfl, R.ins, gf_o _ _ _ _, _, rfl, a, _, _, V.int z, rfl, rfl, SqL.of ha, (show atI _ ((0 : Nat) : Int) = _ from zs_at rfl), p, dx, lm, lf, ds, absOf S, z, rfl, R, fun hz => ?_, fun hz H' lm' lf' ds' R' kp n1 n2 n3 => ?_⟩
      · have e1 : step S [[1, z]] = (S, [-2]) := by
          rw [Wm.step_1]
          have : Ra13.does S (.open_ z) = (S, Ra13.refused) := by
            show (if Ra13.within z 1 4096 = true then (some (Ra13.opened z.toNat), ({} : Ra13.Ans)) else (S, Ra13.refused)) = _
            rw [if_neg (by unfold Ra13.within; simp; omega)]
          rw [this]; rfl
        rw [e1] at k
        exact ⟨sz (by show 1 ≤ 100000; decide), fun r hr' => k.lay (fp := []) R (fun b o h _ => h) (fun x hx => by cases hx) (fun x hx => by cases hx) (fun x hx => .inl hx) hr' rfl⟩
      · have e1 : step S [[1, z]] = (some (Ra13.opened z.toNat), [0]) := by
          rw [Wm.step_1]
          have : Ra13.does S (.open_ z) = (some (Ra13.opened z.toNat), {}) := by
            show (if Ra13.within z 1 4096 = true then (some (Ra13.opened z.toNat), ({} : Ra13.Ans)) else (S, Ra13.refused)) = _
            rw [if_pos (by unfold Ra13.within; simp; omega)]
          rw [this]; rfl
        rw [e1] at k
        refine ⟨sz (by show 1 ≤ 100000; decide), fun r hr' => k.lay (fp := [p]) R' kp (fun x hx => by rw [List.mem_singleton.mp hx]; exact List.mem_cons_self ..) (fun x hx => by rw [List.mem_singleton.mp hx]; exact ⟨_, R'.ins⟩) (fun x hx => .inr ?_) hr' rfl⟩
        rcases List.mem_cons.mp hx with rfl | hx
        · exact n1
        rcases List.mem_cons.mp hx with rfl | hx
        · exact n2
        · exact n3 x hx
    · -- edge
      cases e
      cases S with
      | none => exact absurd (h1 rfl) (by decide)
      | some g =>
      have R : GrAt G H p g dx lm lf ds := R
      refine ⟨_, rfl, rfl, _, rfl, ifN (ne (by decide)) ⟨_, rfl, rfl, _, rfl, ifY rfl ?_⟩⟩
      refine ⟨_, rfl, p, dx, _, rfl, R.ins, gf_a _ _ _ _, _, rfl, a, _, _, V.int x, rfl, rfl, SqL.of ha, (show atI _ ((0 : Nat) : Int) = _ from zs_at rfl), _, rfl, a, _, _, V.int y, rfl, rfl, SqL.of ha, (show atI _ ((1 : Nat) : Int) = _ from zs_at rfl),
        p, dx, lm, lf, ds, g, x, y, rfl, R, (by have := hed g rfl; omega), fun H' R' kp => ?_⟩
      obtain ⟨t, ht⟩ := Wm.does_some g (.edge x y)
      have e1 : step (some g) [[2, x, y]] = (some (does1 g (.edge x y)), [doesV g (.edge x y)]) := by
        rw [Wm.step_2]
        unfold does1 doesV
        rw [ht]
        refine Prod.ext rfl ?_
        show Wm.ans _ = _
        have : (Ra13.does (some g) (.edge x y)).2.out = [] := by
          show (if Ra13.isState g x = false ∨ Ra13.isState g y = false then (some g, Ra13.refused)
            else if g.edges.contains (x.toNat, y.toNat) = true then (some g, ({} : Ra13.Ans))
            else if Ra13.EDGES ≤ g.edges.length then (some g, { value := -1 }) else (some { g with edges := g.edges ++ [(x.toNat, y.toNat)] }, {})).2.out = []
          split
          · rfl
          · split
            · rfl
            · split <;> rfl
        unfold Wm.ans
        rw [this]
        rfl
      rw [e1] at k
      have hm := R'.mem
      refine ⟨sz (by show 1 ≤ 100000; decide), fun r hr' => k.lay (fp := p :: ds) R' kp (fun x hx => ?_) (fun x hx => ?_) (fun x hx => .inl hx) hr' rfl⟩
      · rcases List.mem_cons.mp hx with rfl | hx
        · exact List.mem_cons_self ..
        · exact List.mem_cons_of_mem _ (List.mem_cons_of_mem _ (List.mem_cons_of_mem _ hx))
      · rcases List.mem_cons.mp hx with rfl | hx
        · exact hm _ (List.mem_cons_self ..)
        · exact hm _ (List.mem_cons_of_mem _ (List.mem_cons_of_mem _ (List.mem_cons_of_mem _ hx)))
    · -- marks
      cases e
      cases S with
      | none => exact absurd (h1 rfl) (by decide)
      | some g =>
      have R : GrAt G H p g dx lm lf ds := R
      refine ⟨_, rfl, rfl, _, rfl, ifN (ne (by decide)) ⟨_, rfl, rfl, _, rfl, ifN (ne (by decide)) ⟨_, rfl, rfl, _, rfl, ifY rfl ?_⟩⟩⟩
      refine ⟨_, rfl, p, dx, _, rfl, R.ins, gf_k _ _ _ _, _, rfl, a, _, _, V.int x, rfl, rfl, SqL.of ha, (show atI _ ((0 : Nat) : Int) = _ from zs_at rfl), _, rfl, a, _, _, V.int y, rfl, rfl, SqL.of ha, (show atI _ ((1 : Nat) : Int) = _ from zs_at rfl),
        p, dx, lm, lf, ds, g, x, y, rfl, R, y0, y1, fun H' R' kp => ?_⟩
      obtain ⟨t, ht⟩ := Wm.does_some g (.marks x y.toNat)
      have e1 : step (some g) [[3, x, y]] = (some (does1 g (.marks x y.toNat)), [doesV g (.marks x y.toNat)]) := by
        rw [Wm.step_3]
        unfold does1 doesV
        rw [ht]
        refine Prod.ext rfl ?_
        show Wm.ans _ = _
        have : (Ra13.does (some g) (.marks x y.toNat)).2.out = [] := by
          show (if Ra13.isState g x = true then (some { g with marks := g.marks.set x.toNat y.toNat }, ({} : Ra13.Ans)) else (some g, Ra13.refused)).2.out = []
          split <;> rfl
        unfold Wm.ans
        rw [this]
        rfl
      rw [e1] at k
      exact ⟨sz (by show 1 ≤ 100000; decide), fun r hr' => k.lay (fp := [lm]) R' kp (fun x hx => by rw [List.mem_singleton.mp hx]; exact List.mem_cons_of_mem _ (List.mem_cons_self ..)) (fun x hx => by rw [List.mem_singleton.mp hx]; exact ⟨_, R'.mrk⟩) (fun x hx => .inl hx) hr' rfl⟩
    · -- where
      cases e
      cases S with
      | none => exact absurd (h1 rfl) (by decide)
      | some g =>
      have R : GrAt G H p g dx lm lf ds := R
      have hn : g.states ≤ 40 := by simpa [Ra13Neutral.few] using hfew
      refine ⟨_, rfl, rfl, _, rfl, ifN (ne (by decide)) ⟨_, rfl, rfl, _, rfl, ifN (ne (by decide)) ⟨_, rfl, rfl, _, rfl, ifN (ne (by decide)) ⟨_, rfl, rfl, _, rfl, ifY rfl ?_⟩⟩⟩⟩
      have e1 : step (some g) [4 :: n :: l] = (some g, ansL (Ra13.does (some g) (.where_ (Ra13Neutral.nats l) n)).2) := Wm.step_4 _ g2
      rw [e1] at k
      exact ⟨_, rfl, _, rfl, p, dx, lm, lf, a, ds, g, n, l, rfl, R, ha, g1, g3, hn, fun H' r s1 hr' e' => k.pure R s1 hr' e'⟩
    · -- way
      cases e
      cases S with
      | none => exact absurd (h1 rfl) (by decide)
      | some g =>
      have R : GrAt G H p g dx lm lf ds := R
      have hn : g.states ≤ 40 := by simpa [Ra13Neutral.few] using hfew
      refine ⟨_, rfl, rfl, _, rfl, ifN (ne (by decide)) ⟨_, rfl, rfl, _, rfl, ifN (ne (by decide)) ⟨_, rfl, rfl, _, rfl, ifN (ne (by decide)) ⟨_, rfl, rfl, _, rfl, ifN (ne (by decide)) ?_⟩⟩⟩⟩
      have e1 : step (some g) [5 :: n :: m :: x :: y :: l] = (some g, ansL (Ra13.does (some g) (.way (Ra13Neutral.nats (l.take (Ra13Neutral.many n))) n (Ra13Neutral.nats (l.drop (Ra13Neutral.many n))) m x y)).2) := Wm.step_5 _ g2
      rw [e1] at k
      exact ⟨_, rfl, _, rfl, p, dx, lm, lf, a, ds, g, n, m, x, y, l, rfl, R, ha, g1, g2, g3, g4, hn, fun H' r s1 hr' e' => k.pure R s1 hr' e'⟩
end
end Wp

set_option Elab.async false
set_option linter.all false
set_option maxRecDepth 100000
set_option maxHeartbeats 2000000
namespace Wp
open PySem PySem.Spec PyProof.Rows L2 Wr
open Ra13Neutral (step start)
open PyFlat (told played)
theorem GrAt.upd {C p dx lm lf l : Addr} {H : Hp} {g : Ra13.Abs} {ds : List Addr} (R : GrAt C H p g dx lm lf ds) (h : l ∉ p :: lm :: lf :: ds) (o : HO) : GrAt C (upd H l o) p g dx lm lf ds := by
  have n : ∀ x ∈ p :: lm :: lf :: ds, x ≠ l := fun x hx => ne_mem hx h
  refine ⟨?_, ?_, ?_, R.mf, R.len, R.nd, fun j x hx => ?_, R.fit⟩
  · rw [upd_ne (n p (List.mem_cons_self ..))]; exact R.ins
  · rw [upd_ne (n lm (List.mem_cons_of_mem _ (List.mem_cons_self ..)))]; exact R.mrk
  · rw [upd_ne (n lf (List.mem_cons_of_mem _ (List.mem_cons_of_mem _ (List.mem_cons_self ..))))]; exact R.fo
  · rw [upd_ne (n x (List.mem_cons_of_mem _ (List.mem_cons_of_mem _ (List.mem_cons_of_mem _ (List.mem_of_getElem? hx)))))]; exact R.at_ j x hx
theorem asked_row {c : List (List Int)} (h : Ra13Neutral.asked1 c = true) : ∃ x l, c = [x :: l] := by
  rcases Wm.asked_form h with ⟨z, rfl⟩ | ⟨x, y, rfl⟩ | ⟨x, y, rfl, _⟩ | ⟨n, l, rfl, _⟩ | ⟨n, m, x, y, l, rfl, _⟩ <;> exact ⟨_, _, rfl⟩
theorem zs_app (l m : List Int) : zs (l ++ m) = zs l ++ zs m := by unfold zs; rw [List.map_append]
section
variable {P : Program} {w : World} {K : PySem.W.Frag} {mg : Str → Option Value} {base : Heap} {G W : Addr}
/-! ### answers -/
def spAns (K : PySem.W.Frag) : Sp := fun vs H Q _ => ∃ (a : Addr) (ns : List Int), vs = [.ref a] ∧ SqL K H a (ns.map V.int) ∧ PyRa13.answers_asked ns = true ∧ ∀ (H' : Hp) (r : Addr), H' r = some (.lst ((PyRa13.answers ns).map V.int)) → Q (.ref r) H'
theorem scAns : FnScope ["calls", "graph", "given", "at", "size", "answer"] ["calls"] (defScope sAns) := ⟨rfl, rfl, rfl, by decide +kernel, rfl, by decide +kernel, by decide +kernel⟩
theorem ok_ans {f : Addr} {fd : FuncData} (F : Fun K "answers" "answers" sAns f fd) (T : Txt K mg G W) (FG : MakeC P w K mg base 1 G "Graph" ["self"] (spGInit G)) (FC : Callee P w K mg base 11 "answer_call" ["graph", "call", "numbers"] (spCall G)) : FnOk P w K mg base CX0 13 f fd ["calls"] (spAns K) := by
  refine F.ok scAns (fun vs H Q E h => ?_) (fun cdv A outer s H vs Q E hr h => ?_)
  · obtain ⟨a, ns, rfl, _⟩ := h
    rfl
  · obtain ⟨a, ns, rfl, hS, hask, k⟩ := h
    obtain ⟨cs, L⟩ := Wm.line_of hask
    have hS : SqL K H a (zs ns) := hS
    refine ⟨_, pss_cons (ps_set (i := 1) scAns.nd rfl (Or.inl rfl) (pe_makee0 FG hr (by decide) rfl))
      (pss_cons (ps_set (i := 2) scAns.nd rfl (Or.inl rfl) (pe_lst pa_nil))
      (pss_cons (ps_set (i := 3) scAns.nd rfl (Or.inl rfl) pe_int)
      (pss_cons (ps_while PassesOwn.never (pt_cmpR op_lt (pv 3) (pe_callB call_len_seq rfl T.len PySem.boot_len (pa_cons (pv 0) pa_nil)) (nomark _))
        (pss_cons (ps_set (i := 4) scAns.nd rfl (Or.inl rfl) (pe_ix ix_list (pv 0) (pe_op op_add (pv 3) pe_int) (fun _ _ => rfl)))
        (pss_cons (ps_set (i := 5) scAns.nd rfl (Or.inl rfl) (pe_callee FC hr (by decide) rfl (pa_cons (pv 1) (pa_cons (pe_ix ix_list (pv 0) (pv 3) (fun _ _ => rfl)) (pa_cons (pe_slice sl_list (pv 0) (po_some (pe_op op_add (pv 3) pe_int)) (po_some (pe_op op_add (pe_op op_add (pv 3) pe_int) (pv 4)))) pa_nil)))))
        (pss_cons (ps_expr (pe_bm PySem.F.plainAttrs_list PySem.F.slot_list_append PySem.F.type_list_append mt_append (pv 2) (pa_cons (pe_callB call_len_seq rfl T.len PySem.boot_len (pa_cons (pv 5) pa_nil)) pa_nil)))
        (pss_cons (ps_expr (pe_bm PySem.F.plainAttrs_list PySem.F.slot_list_extend PySem.F.type_list_extend mt_extend (pv 2) (pa_cons (pv 5) pa_nil)))
        (pss_one (ps_aug (i := 3) scAns.nd rfl (Or.inl rfl) (pe_op op_add (pv 4) pe_int) ip_add)))))))
      (pss_one (ps_ret (pv 2)))))), ?_⟩
    -- graph = Graph()
    intro p dx np ndx nep
    have s0 : Same H (upd (upd H dx (.own p)) p (.ins G dx [])) := fun b o e => by
      rw [upd_ne (ne_of_none e np), upd_ne (ne_of_none e ndx)]; exact e
    refine ⟨p, dx, rfl, upd_same, fun H1 lm lf R1 kp n1 n2 => ⟨rfl, ?_⟩⟩
    have s1 : Same H H1 := fun b o e => kp b o (s0 b o e) (ne_of_none e np)
    -- given = []; at = 0
    refine ⟨sz (by decide), fun lg hlg => ?_⟩
    have hlgH : H lg = none := s1.free hlg
    have nlg : lg ∉ p :: lm :: lf :: ([] : List Addr) := fun m => by obtain ⟨o, e⟩ := R1.mem lg m; rw [e] at hlg; cases hlg
    refine ⟨fun m σ H' => ∃ (done rest : List Ra13Neutral.Call) (lm lf : Addr) (ds : List Addr) (v4 v5 : Option V), cs = done ++ rest ∧ σ = [some (.ref a), some (.ref p), some (.ref lg), some (.int ((PyWide.put done).length : Int)), v4, v5] ∧
      GrAt G H' p (absOf (Wm.runS start done)) dx lm lf ds ∧ H' lg = some (.lst (zs (told (played step start done)))) ∧ lg ∉ p :: lm :: lf :: ds ∧ Same H H' ∧ (∀ x ∈ p :: lm :: lf :: ds, H x = none) ∧ Wm.Ready (Wm.runS start done) rest ∧ Wm.edgesLe (Wm.runS start done) ∧
      (told (played step start done)).length ≤ 51 * done.length ∧ m = rest.length,
      ⟨_, [], cs, lm, lf, [], none, none, rfl, rfl, R1.same (same_new _ hlg), upd_same, nlg, s1.trans (same_new _ hlg), fun x hx => ?_, L.ready, fun g hg => (by cases hg), Nat.zero_le _, rfl⟩, ?_⟩
    · rcases List.mem_cons.mp hx with rfl | hx
      · exact np
      rcases List.mem_cons.mp hx with rfl | hx
      · exact s0.free n1
      · have := List.mem_singleton.mp hx
        rw [this]
        exact s0.free n2
    rintro m σ H' ⟨done, rest, lm, lf, ds, v4, v5, hcs, rfl, R, eg, ng, sm, nfp, rdy, hed, hlen, rfl⟩
    have hns : ns = PyWide.put done ++ PyWide.put rest := by rw [L.is, hcs, Wm.put_app]
    refine ⟨_, rfl, _, rfl, a, _, rfl, .inl (sm.seq hS), _, _, rfl, rfl, _, rfl, iteD (fun hlt => ?_) (fun hlt => ?_)⟩
    · cases rest with
      | nil =>
        exfalso
        rw [zs_len, hns] at hlt
        have : (PyWide.put done ++ PyWide.put []).length = (PyWide.put done).length := by
          rw [List.length_append]; rfl
        omega
      | cons c rest =>
        have hask1 := L.all c (by rw [hcs]; simp)
        have hfew := Wm.few_app done (c := c) (b := rest) (s := start) (by rw [← hcs]; exact L.few)
        obtain ⟨x, l, rfl⟩ := asked_row hask1
        have hns2 : ns = PyWide.put done ++ (x :: (l.length : Int) :: (l ++ [0])) ++ PyWide.put rest := by
          rw [hns]
          show PyWide.put done ++ (PyWide.put1 [x :: l] ++ PyWide.put rest) = _
          rw [Wm.put_one, List.append_assoc]
        have i0 : ns[(PyWide.put done).length]? = some x := by
          rw [hns2, List.append_assoc, List.getElem?_append_right (Nat.le_refl _), Nat.sub_self]; rfl
        have i1 : ns[(PyWide.put done).length + 1]? = some (l.length : Int) := by
          rw [hns2, List.append_assoc, List.getElem?_append_right (by omega), Nat.add_sub_cancel_left]; rfl
        have hdl : done.length < 120 := by
          have := L.len
          rw [hcs, List.length_append, List.length_cons] at this
          omega
        have nsl : ns.length = (PyWide.put done).length + (l.length + 3) + (PyWide.put rest).length := by
          rw [hns2]; simp only [List.length_append, List.length_cons, List.length_nil]
        have ecut : cutV (zs ns) (some (((PyWide.put done).length : Int) + 2)) (some (((PyWide.put done).length : Int) + 2 + (l.length : Int))) = zs l := by
          have e1 : ((PyWide.put done).length : Int) + 2 = (((PyWide.put done).length + 2 : Nat) : Int) := by omega
          have e2 : ((PyWide.put done).length : Int) + 2 + (l.length : Int) = (((PyWide.put done).length + 2 + l.length : Nat) : Int) := by omega
          rw [e2, e1, cut_mid _ (by omega) (by omega), Nat.add_sub_cancel_left]
          congr 1
          rw [hns2, List.append_assoc, ← List.drop_drop, List.drop_append_of_le_length (Nat.le_refl _), List.drop_length, List.nil_append]
          show ((l ++ [0]) ++ PyWide.put rest).take l.length = l
          rw [List.append_assoc, List.take_append_of_le_length (Nat.le_refl _), List.take_length]
        refine ⟨fun σ H' => ∃ (lm lf : Addr) (ds : List Addr) (v4 v5 : Option V), σ = [some (.ref a), some (.ref p), some (.ref lg), some (.int ((PyWide.put (done ++ [[x :: l]])).length : Int)), v4, v5] ∧
          GrAt G H' p (absOf (Wm.runS start (done ++ [[x :: l]]))) dx lm lf ds ∧ H' lg = some (.lst (zs (told (played step start (done ++ [[x :: l]]))))) ∧ lg ∉ p :: lm :: lf :: ds ∧ Same H H' ∧ (∀ x ∈ p :: lm :: lf :: ds, H x = none), ?_, ?_⟩
        · rintro σ' H2 ⟨lm, lf, ds, v4, v5, rfl, R2, eg2, ng2, sm2, nfp2⟩
          refine ⟨rest.length, by rw [List.length_cons]; omega, done ++ [[x :: l]], rest, lm, lf, ds, v4, v5, by rw [hcs]; simp, rfl, R2, eg2, ng2, sm2, nfp2, ?_, ?_, ?_, rfl⟩
          · rw [Wm.runS_app]; exact rdy.next
          · rw [Wm.runS_app]; exact Wm.step_edges _ _ hed
          · rw [Wm.played_app, Wm.told_app, List.length_append, List.length_append]
            show _ + (told [(step (Wm.runS start done) [x :: l]).2]).length ≤ 51 * (done.length + 1)
            rw [Wm.told_one, List.length_cons]
            have : (step (Wm.runS start done) [x :: l]).2.length ≤ 50 := by
              cases hs : Wm.runS start done with
              | some g =>
                rw [hs] at hfew R
                exact Wm.step_len R.fit hask1 hfew
              | none =>
                rcases rdy hs with h | ⟨z, r', h, _⟩
                · cases h
                · have h' : ([x :: l] : List (List Int)) = [[1, z]] := (List.cons.inj h).1
                  rw [h', Wm.step_1]
                  show (Wm.ans (if Ra13.within z 1 4096 = true then (some (Ra13.opened z.toNat), ({} : Ra13.Ans)) else (none, Ra13.refused)).2).length ≤ 50
                  split
                  · show 1 ≤ 50; omega
                  · show 1 ≤ 50; omega
            omega
        · -- size = calls[at + 1]
          refine ⟨_, rfl, _, rfl, _, _, rfl, rfl, a, _, _, V.int (l.length : Int), rfl, rfl, sm.seq hS, at_of (j := (PyWide.put done).length + 1) (by omega) (zs_get i1), ?_⟩
          -- answer = answer_call(graph, calls[at], calls[at + 2:at + 2 + size])
          refine ⟨_, rfl, _, rfl, _, rfl, a, _, _, V.int x, rfl, rfl, sm.seq hS, zs_at i0, _, rfl, _, rfl, _, _, rfl, rfl, _, rfl, _, rfl, _, _, rfl, rfl, _, rfl, _, _, rfl, rfl, _, rfl, a, _, rfl, sm.seq hS, fun l1 h1 => ?_⟩
          rw [ecut]
          have s3 := same_new (.lst (zs l)) h1
          refine ⟨p, dx, lm, lf, l1, ds, Wm.runS start done, x, l, rfl, R.same s3, upd_same, hask1, hfew, fun hs => ?_, hed, fun H4 r lm' lf' ds' R4 k4 new4 f4 nr4 e4 => ?_⟩
          · rcases rdy hs with h | ⟨z, r', h, _⟩
            · cases h
            · have h' : ([x :: l] : List (List Int)) = [[1, z]] := (List.cons.inj h).1
              cases h'; rfl
          have eg4 : H4 lg = some (.lst (zs (told (played step start done)))) := k4 _ _ (s3 _ _ eg) ng
          have nrl : r ≠ lg := fun q => by rw [q, s3 _ _ eg] at f4; cases f4
          have hal : (step (Wm.runS start done) [x :: l]).2.length ≤ 50 := by
            cases hs : Wm.runS start done with
            | some g =>
              rw [hs] at hfew R
              exact Wm.step_len R.fit hask1 hfew
            | none =>
              rcases rdy hs with h | ⟨z, r', h, _⟩
              · cases h
              · have h' : ([x :: l] : List (List Int)) = [[1, z]] := (List.cons.inj h).1
                rw [h', Wm.step_1]
                show (Wm.ans (if Ra13.within z 1 4096 = true then (some (Ra13.opened z.toNat), ({} : Ra13.Ans)) else (none, Ra13.refused)).2).length ≤ 50
                split
                · show 1 ≤ 50; omega
                · show 1 ≤ 50; omega
          -- given.append(len(answer))
          refine ⟨_, rfl, .inl ⟨rfl, _, SqL.of eg4⟩, _, rfl, r, _, rfl, .inl (SqL.of e4), lg, _, _, rfl, rfl, eg4, by rw [zs_len]; exact szl (by omega), ?_⟩
          -- given.extend(answer)
          refine ⟨_, rfl, .inl ⟨rfl, _, SqL.of upd_same⟩, _, rfl, lg, r, _, _, rfl, rfl, upd_same, by rw [upd_ne nrl]; exact e4, ?_, ?_⟩
          · rw [List.length_append, zs_len, zs_len]
            exact sz (by show _ + 1 + _ ≤ _; omega)
          rw [upd_upd]
          -- at += size + 3
          refine ⟨_, rfl, _, rfl, _, _, rfl, rfl, _, _, rfl, rfl, lm', lf', ds', some (V.int (l.length : Int)), some (V.ref r), ?_, ?_, ?_, ?_, fun b o e => ?_, fun y hy => ?_⟩
          · have : ((PyWide.put (done ++ [[x :: l]])).length : Int) = ((PyWide.put done).length : Int) + ((l.length : Int) + 3) := by
              rw [Wm.put_app, List.length_append]
              show (((PyWide.put done).length + (PyWide.put1 [x :: l] ++ []).length : Nat) : Int) = _
              rw [List.append_nil, Wm.put_len]
              omega
            rw [this]
            rfl
          · rw [Wm.runS_app]
            refine R4.upd (fun mm => ?_) _
            rcases List.mem_cons.mp mm with q | mm
            · exact ng (by rw [q]; exact List.mem_cons_self ..)
            · rcases new4 lg mm with q | q
              · exact ng (List.mem_cons_of_mem _ q)
              · rw [s3 _ _ eg] at q; cases q
          · rw [upd_same, Wm.played_app, Wm.told_app]
            show some (HO.lst (zs _ ++ [V.int ((zs (step (Wm.runS start done) [x :: l]).2).length : Int)] ++ zs (step (Wm.runS start done) [x :: l]).2)) = some (HO.lst (zs (_ ++ told [(step (Wm.runS start done) [x :: l]).2])))
            rw [Wm.told_one, zs_app, zs_len, List.append_assoc]
            rfl
          · intro mm
            rcases List.mem_cons.mp mm with q | mm
            · exact ng (by rw [q]; exact List.mem_cons_self ..)
            · rcases new4 lg mm with q | q
              · exact ng (List.mem_cons_of_mem _ q)
              · rw [s3 _ _ eg] at q; cases q
          · rw [upd_ne (ne_of_none e hlgH)]
            exact k4 b o (s3 _ _ (sm b o e)) (fun mm => by have := nfp b mm; rw [e] at this; cases this)
          · rcases List.mem_cons.mp hy with rfl | hy
            · exact nfp _ (List.mem_cons_self ..)
            · rcases new4 y hy with q | q
              · exact nfp y (List.mem_cons_of_mem _ q)
              · exact sm.free (s3.free q)
    · -- return given
      have hr0 : rest = [] := by
        cases rest with
        | nil => rfl
        | cons c rest =>
          exfalso
          have hask1 := L.all c (by rw [hcs]; simp)
          obtain ⟨x, l, rfl⟩ := asked_row hask1
          rw [zs_len, hns] at hlt
          have : (PyWide.put done ++ PyWide.put ([x :: l] :: rest)).length = (PyWide.put done).length + ((l.length + 3) + (PyWide.put rest).length) := by
            rw [List.length_append]
            show _ + (PyWide.put1 [x :: l] ++ PyWide.put rest).length = _
            rw [List.length_append, Wm.put_len]
          omega
      subst hr0
      rw [List.append_nil] at hcs
      subst hcs
      refine ⟨_, rfl, k H' lg ?_⟩
      rw [L.ans]
      exact eg
end
end Wp

set_option Elab.async false
set_option linter.all false
set_option maxRecDepth 100000
set_option maxHeartbeats 2000000
namespace Wp
open PySem PySem.Spec PyProof.Rows L2 Wr
/-! ### what the top has written -/
abbrev Kof {K : PySem.W.Frag} {h : Heap} (_ : K.In h) : PySem.W.Frag := K
def BindsOf (fd : FuncData) (ps : List Str) : Prop := ∀ us : List Value, us.length = ps.length → bindArgs fd ⟨us, []⟩ = pure (ps.zip us)
def ModF (K : PySem.W.Frag) (mg : Str → Option Value) (x : Str) (st : Stmt) (ps : List Str) : Prop := ∃ f fd, mg x = some (.ref f) ∧ Fun K x x st f fd ∧ BindsOf fd ps
def MethF (K : PySem.W.Frag) (C : Addr) (x qual : Str) (st : Stmt) (ps : List Str) : Prop := ∃ f fd, Meth K C x f ∧ Fun K x qual st f fd ∧ BindsOf fd ps
def MakeF (K : PySem.W.Frag) (C : Addr) (qual : Str) (st : Stmt) (ps : List Str) : Prop := ∃ f fd, Mk K C f ∧ Fun K "__init__" qual st f fd ∧ BindsOf fd ps
section
variable {K : PySem.W.Frag} {h : Heap} {mg : Str → Option Value}
theorem modf_mk (X : K.In h) (G : h.Ns mainGlobals mg) {x : Str} {st : Stmt} {ps : List Str} {f : Addr} {oc : Value} {od an : Option Addr} {osl : Array (Option Value)} {kV doc pm cdv ct : Value} (a : PySem.W.nsIn K mainGlobals x = some (some (.ref f)))
    (l : K.lookup f = some ⟨oc, od, .func (PySem.W.fnOf x x (defArgs st) (defBody st) (defScope st) .none kV doc pm an cdv ct), osl⟩) (c : PySem.W.codeIn K cdv x = true) (k : PySem.W.keepIn K (.ref f) = true)
    (b : BindsOf (PySem.W.fnOf x x (defArgs st) (defBody st) (defScope st) .none kV doc pm an cdv ct) ps) : ModF K mg x st ps := ⟨f, _, PySem.W.mg_of X G a, fun_mk l c k, b⟩
theorem methf_mk {C : Addr} {x qual : Str} {st : Stmt} {ps : List Str} {f : Addr} {oc : Value} {od an : Option Addr} {osl : Array (Option Value)} {kV doc pm cdv ct : Value} (a : PySem.W.findIn K (.ref C) x = some (some (.ref f))) (i : PySem.W.isFn K (.ref f) = true)
    (l : K.lookup f = some ⟨oc, od, .func (PySem.W.fnOf x qual (defArgs st) (defBody st) (defScope st) .none kV doc pm an cdv ct), osl⟩) (c : PySem.W.codeIn K cdv qual = true) (k : PySem.W.keepIn K (.ref f) = true)
    (b : BindsOf (PySem.W.fnOf x qual (defArgs st) (defBody st) (defScope st) .none kV doc pm an cdv ct) ps) : MethF K C x qual st ps := ⟨f, _, ⟨a, i, k⟩, fun_mk l c k, b⟩
theorem makef_mk {C : Addr} {qual : Str} {st : Stmt} {ps : List Str} {f : Addr} {oc : Value} {od an : Option Addr} {osl : Array (Option Value)} {kV doc pm cdv ct : Value} (a : PySem.W.findIn K (.ref C) "__init__" = some (some (.ref f))) (i : PySem.W.isFn K (.ref f) = true)
    (l : K.lookup f = some ⟨oc, od, .func (PySem.W.fnOf "__init__" qual (defArgs st) (defBody st) (defScope st) .none kV doc pm an cdv ct), osl⟩) (c : PySem.W.codeIn K cdv qual = true) (k : PySem.W.keepIn K (.ref f) = true) (m : PySem.W.makesIn K C = true) (kc : PySem.W.keepIn K (.ref C) = true)
    (b : BindsOf (PySem.W.fnOf "__init__" qual (defArgs st) (defBody st) (defScope st) .none kV doc pm an cdv ct) ps) : MakeF K C qual st ps := ⟨f, _, ⟨m, a, i, kc⟩, fun_mk l c k, b⟩
theorem gi_mk (X : K.In h) (G : h.Ns mainGlobals mg) {x : Str} {i : Int} {t : Tok} (a : PySem.W.nsIn K mainGlobals x = some (some (.int i t))) : GI mg x i := ⟨t, PySem.W.mg_of X G a⟩
theorem gt_mk (X : K.In h) (G : h.Ns mainGlobals mg) {x : Str} {ns : List Int} {b : Addr} {o : Obj} {its : Array Value} {n : Nat} (a : PySem.W.nsIn K mainGlobals x = some (some (.ref b))) (l : K.lookup b = some o) (hc : o.cls = .type "tuple") (hd : o.data = .seq its n) (hz : its.size ≤ sizeLine) (hv : Vals (ns.map V.int) its.toList) : GT K mg x ns :=
  ⟨b, PySem.W.mg_of X G a, fun H => .inr ⟨o, its, n, l, hc, hd, hz, hv⟩⟩
end
section
variable {P : Program} {w : World} {K : PySem.W.Frag} {mg : Str → Option Value} {base : Heap}
theorem ModF.callee {x : Str} {st : Stmt} {ps : List Str} {k : Nat} {sp : Sp} (M : ModF K mg x st ps) (ok : ∀ f fd, Fun K x x st f fd → FnOk P w K mg base CX0 k f fd ps sp) : Callee P w K mg base k x ps sp :=
  let ⟨f, fd, h1, h2, h3⟩ := M
  ⟨f, fd, h1, h2.kp, .all h3, ok f fd h2⟩
theorem MethF.meth {C : Addr} {x qual : Str} {st : Stmt} {ps : List Str} {k : Nat} {sp : Sp} (M : MethF K C x qual st ps) (ok : ∀ f fd, Fun K x qual st f fd → FnOk P w K mg base CX0 k f fd ps sp) : MethC P w K mg base k C x ps sp :=
  let ⟨f, fd, h1, h2, h3⟩ := M
  ⟨f, fd, h1, .all h3, ok f fd h2⟩
theorem MakeF.make {C : Addr} {y qual : Str} {st : Stmt} {ps : List Str} {k : Nat} {sp : Sp} (M : MakeF K C qual st ps) (hy : mg y = some (.ref C)) (ok : ∀ f fd, Fun K "__init__" qual st f fd → FnOk P w K mg base CX0 k f fd ps sp) : MakeC P w K mg base k C y ps sp :=
  let ⟨f, fd, h1, h2, h3⟩ := M
  ⟨f, fd, h1, hy, .all h3, ok f fd h2⟩
end
structure GraphF (K : PySem.W.Frag) (mg : Str → Option Value) (G : Addr) : Prop where
  nm : mg "Graph" = some (.ref G)
  cl : Cls K G
  gS : NoAttr K G "state_count"
  gE : NoAttr K G "edge_count"
  gM : NoAttr K G "marks_of"
  gF : NoAttr K G "following"
  ini : MakeF K G "Graph.__init__" sGInit ["self"]
  has : MethF K G "has_state" "Graph.has_state" sHas ["self", "state"]
  opn : MethF K G "open_graph" "Graph.open_graph" sOpen ["self", "states"]
  edg : MethF K G "add_edge" "Graph.add_edge" sEdge ["self", "a", "b"]
  mrk : MethF K G "set_marks" "Graph.set_marks" sMarks ["self", "state", "marks"]
structure WaysF (K : PySem.W.Frag) (mg : Str → Option Value) (W : Addr) : Prop where
  nm : mg "Ways" = some (.ref W)
  cl : Cls K W
  wA : NoAttr K W "after"
  wB : NoAttr K W "before"
  ini : MakeF K W "Ways.__init__" sWInit ["self", "graph"]
  so2 : MethF K W "some_second" "Ways.some_second" sSome2 ["self", "p"]
  ev2 : MethF K W "every_second" "Ways.every_second" sEvery2 ["self", "p"]
  soU : MethF K W "some_until" "Ways.some_until" sSomeU ["self", "p", "q"]
  evU : MethF K W "every_until" "Ways.every_until" sEveryU ["self", "p", "q"]
  spr : MethF K W "spread" "Ways.spread" sSpread ["self", "p", "q", "needed"]
structure DefsF (K : PySem.W.Frag) (mg : Str → Option Value) : Prop where
  tak : ModF K mg "how_many_taken" sTaken ["number"]
  rig : ModF K mg "is_right" sRight ["formula"]
  whe : ModF K mg "where_yes" sWhere ["graph", "formula"]
  non : ModF K mg "of_none" sNone ["graph", "number"]
  one : ModF K mg "of_one" sOne ["ways", "number", "p"]
  two : ModF K mg "of_two" sTwo ["ways", "number", "p", "q"]
  opp : ModF K mg "opposite" sOpp ["p"]
  few : ModF K mg "fewest_row" sFew ["graph", "start", "p", "q"]
  nxl : ModF K mg "next_layer" sNextL ["graph", "layer", "came_from"]
  row : ModF K mg "row_to" sRowTo ["came_from", "last"]
  ans : ModF K mg "answers" sAns ["calls"]
  cal : ModF K mg "answer_call" sCall ["graph", "call", "numbers"]
  isl : ModF K mg "is_length" sIsLen ["n"]
  awh : ModF K mg "answer_where" sAWhere ["graph", "numbers"]
  awy : ModF K mg "answer_way" sAWay ["graph", "numbers"]
/-- all of it together -/
theorem whole {P : Program} {w : World} {K : PySem.W.Frag} {mg : Str → Option Value} {G W fa : Addr} (hfa : mg "answers" = some (.ref fa)) (T : Txt K mg G W) (GF : GraphF K mg G) (WF : WaysF K mg W) (D : DefsF K mg) :
    ∃ fd : FuncData, (∀ (s : Shared) (us : List Value), us.length = (["calls"] : List Str).length → BindsTo s fd ⟨us, []⟩ ((["calls"] : List Str).zip us)) ∧ ∀ base : Heap, K.In base → base.Ns mainGlobals mg → FnOk P w K mg base CX0 13 fa fd ["calls"] (spAns K) := by
  obtain ⟨f, fd, h1, h2, h3⟩ := D.ans
  have e := hfa.symm.trans h1
  cases e
  refine ⟨fd, fun s us hu => .of_eq (h3 us hu), fun base _ _ => ?_⟩
  have FT : Callee P w K mg base 1 "how_many_taken" ["number"] spTaken := D.tak.callee fun f fd F => ok_taken F T
  have FR : Callee P w K mg base 3 "is_right" ["formula"] (spRight K) := D.rig.callee fun f fd F => ok_right F T FT
  have FO : Callee P w K mg base 1 "opposite" ["p"] (spOpp K) := D.opp.callee fun f fd F => ok_opp F T
  have FH : MethC P w K mg base 1 G "has_state" ["self", "state"] (spHas G) := GF.has.meth fun f fd F => ok_has F T
  have FOp : MethC P w K mg base 1 G "open_graph" ["self", "states"] (spOpen G) := GF.opn.meth fun f fd F => ok_open F T
  have FE : MethC P w K mg base 3 G "add_edge" ["self", "a", "b"] (spEdge G) := GF.edg.meth fun f fd F => ok_edge F T FH
  have FM : MethC P w K mg base 3 G "set_marks" ["self", "state", "marks"] (spMarks G) := GF.mrk.meth fun f fd F => ok_marks F T FH
  have FG : MakeC P w K mg base 1 G "Graph" ["self"] (spGInit G) := GF.ini.make GF.nm fun f fd F => ok_ginit F T
  have FWa : MakeC P w K mg base 1 W "Ways" ["self", "graph"] (spWInit G W) := WF.ini.make WF.nm fun f fd F => ok_winit F T
  have F1 : MethC P w K mg base 1 W "some_second" ["self", "p"] (spSec W fun g x => g.each (g.some_ x)) := WF.so2.meth fun f fd F => ok_some2 F T
  have F2 : MethC P w K mg base 1 W "every_second" ["self", "p"] (spSec W fun g x => g.each (g.all_ x)) := WF.ev2.meth fun f fd F => ok_every2 F T
  have FS : MethC P w K mg base 1 W "spread" ["self", "p", "q", "needed"] (spSpread W) := WF.spr.meth fun f fd F => ok_spread F T
  have F3 : MethC P w K mg base 3 W "some_until" ["self", "p", "q"] (spUntil W fun g p q => g.someTill p q) := WF.soU.meth fun f fd F => ok_someU F T FS
  have F4 : MethC P w K mg base 3 W "every_until" ["self", "p", "q"] (spUntil W fun g p q => g.allTill p q) := WF.evU.meth fun f fd F => ok_everyU F T FS
  have C0 : Callee P w K mg base 1 "of_none" ["graph", "number"] (spNone G) := D.non.callee fun f fd F => ok_none F T
  have C1 : Callee P w K mg base 5 "of_one" ["ways", "number", "p"] (spOne W) := D.one.callee fun f fd F => ok_one F T FO F1 F2 F3 F4
  have C2 : Callee P w K mg base 5 "of_two" ["ways", "number", "p", "q"] (spTwo W) := D.two.callee fun f fd F => ok_two F T F3 F4
  have FW : Callee P w K mg base 7 "where_yes" ["graph", "formula"] (spWhere K G) := D.whe.callee fun f fd F => ok_where F T FWa FT C0 C1 C2
  have FRo : Callee P w K mg base 1 "row_to" ["came_from", "last"] spRowTo := D.row.callee fun f fd F => ok_rowto F T
  have FN : Callee P w K mg base 1 "next_layer" ["graph", "layer", "came_from"] (spNextL K G) := D.nxl.callee fun f fd F => ok_nextl F T
  have FF : Callee P w K mg base 3 "fewest_row" ["graph", "start", "p", "q"] (spFew K G) := D.few.callee fun f fd F => ok_few F T FRo FN
  have FL : Callee P w K mg base 1 "is_length" ["n"] spIsLen := D.isl.callee fun f fd F => ok_islen F T
  have A1 : Callee P w K mg base 9 "answer_where" ["graph", "numbers"] (spAWhere G) := D.awh.callee fun f fd F => ok_awhere F T FL FR FW
  have A2 : Callee P w K mg base 9 "answer_way" ["graph", "numbers"] (spAWay G) := D.awy.callee fun f fd F => ok_away F T FL FR FW FH FF
  have FC : Callee P w K mg base 11 "answer_call" ["graph", "call", "numbers"] (spCall G) := D.cal.callee fun f fd F => ok_call F T FOp FE FM A1 A2
  exact ok_ans h2 T FG FC
end Wp

set_option Elab.async false
set_option linter.all false
set_option maxRecDepth 100000
set_option maxHeartbeats 2000000
open PySem PySem.W PyProof.Rows
set_option maxRecDepth 100000 in
set_option maxHeartbeats 0 in
theorem PySem.Challenge.cw_waysask_s01_answers_holds : PySem.Challenge.rw_waysask_s01_answers.Holds := by
  w_on; k_headS; (case hw => exact ⟨[.list [.int 1, .int 1, .int 3, .int 0]], by decide +kernel, by decide +kernel⟩)
  k_fillS
  refine L2.walk_specK (r := PySem.Challenge.rw_waysask_s01_answers) (k := 13) (CX := L2.CX0) (ps := ["calls"]) (sp := Wp.spAns) (by decide +kernel) rfl rfl ⟨rfl, by decide, by decide⟩ (fun w h Y => PySem.W.kIn_of Y) ?F ?S (fun _ _ _ _ z => z)
  case F =>
    intro w mg fa h Y KX G hmg
    have q_i64 : Wp.GI mg "EVERYWHERE" 64 := by
      refine' Wp.gi_mk KX G ?u1a; (case u1a => k_is)
    have q_i65 : Wp.GI mg "IS_NOT" 65 := by
      refine' Wp.gi_mk KX G ?u2a; (case u2a => k_is)
    have q_i66 : Wp.GI mg "BOTH" 66 := by
      refine' Wp.gi_mk KX G ?u3a; (case u3a => k_is)
    have q_i67 : Wp.GI mg "ONE_AT_LEAST" 67 := by
      refine' Wp.gi_mk KX G ?u4a; (case u4a => k_is)
    have q_i70 : Wp.GI mg "SOME_SECOND" 70 := by
      refine' Wp.gi_mk KX G ?u5a; (case u5a => k_is)
    have q_i71 : Wp.GI mg "EVERY_SECOND" 71 := by
      refine' Wp.gi_mk KX G ?u6a; (case u6a => k_is)
    have q_i72 : Wp.GI mg "SOME_COMES" 72 := by
      refine' Wp.gi_mk KX G ?u7a; (case u7a => k_is)
    have q_i73 : Wp.GI mg "EVERY_COMES" 73 := by
      refine' Wp.gi_mk KX G ?u8a; (case u8a => k_is)
    have q_i74 : Wp.GI mg "SOME_KEEPS" 74 := by
      refine' Wp.gi_mk KX G ?u9a; (case u9a => k_is)
    have q_i76 : Wp.GI mg "SOME_UNTIL" 76 := by
      refine' Wp.gi_mk KX G ?u10a; (case u10a => k_is)
    have q_oor : Wp.GI mg "OUT_OF_RANGE" (-2) := by
      refine' Wp.gi_mk KX G ?u11a; (case u11a => k_is)
    have q_ref : Wp.GI mg "REFUSED" (-1) := by
      refine' Wp.gi_mk KX G ?u12a; (case u12a => k_is)
    have q_mst : Wp.GI mg "MOST_STATES" 4096 := by
      refine' Wp.gi_mk KX G ?u13a; (case u13a => k_is)
    have q_med : Wp.GI mg "MOST_EDGES" 32768 := by
      refine' Wp.gi_mk KX G ?u14a; (case u14a => k_is)
    have q_mmk : Wp.GI mg "MOST_MARKS" 18446744073709551615 := by
      refine' Wp.gi_mk KX G ?u15a; (case u15a => k_is)
    have q_c1 : Wp.GI mg "OPEN_GRAPH" 1 := by
      refine' Wp.gi_mk KX G ?u16a; (case u16a => k_is)
    have q_c2 : Wp.GI mg "EDGE" 2 := by
      refine' Wp.gi_mk KX G ?u17a; (case u17a => k_is)
    have q_c3 : Wp.GI mg "MARKS" 3 := by
      refine' Wp.gi_mk KX G ?u18a; (case u18a => k_is)
    have q_c4 : Wp.GI mg "WHERE" 4 := by
      refine' Wp.gi_mk KX G ?u19a; (case u19a => k_is)
    have q_mnu : Wp.GI mg "MOST_NUMBERS" 256 := by
      refine' Wp.gi_mk KX G ?u20a; (case u20a => k_is)
    have q_ah1 : Wp.GI mg "AHEAD_OF_FORMULA" 1 := by
      refine' Wp.gi_mk KX G ?u21a; (case u21a => k_is)
    have q_ah4 : Wp.GI mg "AHEAD_OF_FORMULAS" 4 := by
      refine' Wp.gi_mk KX G ?u22a; (case u22a => k_is)
    have q_of1 : Wp.GT (Wp.Kof KX) mg "OF_ONE" [65, 70, 71, 72, 73, 74, 75] := by
      dsimp only [Wp.Kof]
      refine' Wp.gt_mk KX G ?u23a ?u23l ?u23hc ?u23hd ?u23hz ?u23hv; (case u23a => k_is); (case u23l => k_is); (case u23hc => rfl); (case u23hd => rfl); (case u23hz => decide +kernel)
      (case u23hv => exact (.cons ⟨_, rfl⟩ (.cons ⟨_, rfl⟩ (.cons ⟨_, rfl⟩ (.cons ⟨_, rfl⟩ (.cons ⟨_, rfl⟩ (.cons ⟨_, rfl⟩ (.cons ⟨_, rfl⟩ .nil))))))))
    have q_of2 : Wp.GT (Wp.Kof KX) mg "OF_TWO" [66, 67, 76, 77] := by
      dsimp only [Wp.Kof]
      refine' Wp.gt_mk KX G ?u24a ?u24l ?u24hc ?u24hd ?u24hz ?u24hv; (case u24a => k_is); (case u24l => k_is); (case u24hc => rfl); (case u24hd => rfl); (case u24hz => decide +kernel)
      (case u24hv => exact (.cons ⟨_, rfl⟩ (.cons ⟨_, rfl⟩ (.cons ⟨_, rfl⟩ (.cons ⟨_, rfl⟩ .nil)))))
    have q_range : mg "range" = none := by
      refine' PySem.W.mg_none_of KX G ?u25a; (case u25a => k_is)
    have q_len : mg "len" = none := by
      refine' PySem.W.mg_none_of KX G ?u26a; (case u26a => k_is)
    have q_list : mg "list" = none := by
      refine' PySem.W.mg_none_of KX G ?u27a; (case u27a => k_is)
    have q_enum : mg "enumerate" = none := by
      refine' PySem.W.mg_none_of KX G ?u28a; (case u28a => k_is)
    have q_zip : mg "zip" = none := by
      refine' PySem.W.mg_none_of KX G ?u29a; (case u29a => k_is)
    have q_any : mg "any" = none := by
      refine' PySem.W.mg_none_of KX G ?u30a; (case u30a => k_is)
    have q_all : mg "all" = none := by
      refine' PySem.W.mg_none_of KX G ?u31a; (case u31a => k_is)
    have q_srt : mg "sorted" = none := by
      refine' PySem.W.mg_none_of KX G ?u32a; (case u32a => k_is)
    have q_rev : mg "reversed" = none := by
      refine' PySem.W.mg_none_of KX G ?u33a; (case u33a => k_is)
    have D : Wp.DefsF (Wp.Kof KX) mg := by
      dsimp only [Wp.Kof]
      constructor
      · refine' Wp.modf_mk KX G ?u34a ?u34l ?u34c ?u34k ?u34b; (case u34a => k_is); (case u34l => k_is); (case u34c => k_is); (case u34k => k_is); (case u34b => exact fun us hl => match us, hl with | [_], _ => rfl)
      · refine' Wp.modf_mk KX G ?u35a ?u35l ?u35c ?u35k ?u35b; (case u35a => k_is); (case u35l => k_is); (case u35c => k_is); (case u35k => k_is); (case u35b => exact fun us hl => match us, hl with | [_], _ => rfl)
      · refine' Wp.modf_mk KX G ?u36a ?u36l ?u36c ?u36k ?u36b; (case u36a => k_is); (case u36l => k_is); (case u36c => k_is); (case u36k => k_is); (case u36b => exact fun us hl => match us, hl with | [_, _], _ => rfl)
      · refine' Wp.modf_mk KX G ?u37a ?u37l ?u37c ?u37k ?u37b; (case u37a => k_is); (case u37l => k_is); (case u37c => k_is); (case u37k => k_is); (case u37b => exact fun us hl => match us, hl with | [_, _], _ => rfl)
      · refine' Wp.modf_mk KX G ?u38a ?u38l ?u38c ?u38k ?u38b; (case u38a => k_is); (case u38l => k_is); (case u38c => k_is); (case u38k => k_is); (case u38b => exact fun us hl => match us, hl with | [_, _, _], _ => rfl)
      · refine' Wp.modf_mk KX G ?u39a ?u39l ?u39c ?u39k ?u39b; (case u39a => k_is); (case u39l => k_is); (case u39c => k_is); (case u39k => k_is); (case u39b => exact fun us hl => match us, hl with | [_, _, _, _], _ => rfl)
      · refine' Wp.modf_mk KX G ?u40a ?u40l ?u40c ?u40k ?u40b; (case u40a => k_is); (case u40l => k_is); (case u40c => k_is); (case u40k => k_is); (case u40b => exact fun us hl => match us, hl with | [_], _ => rfl)
      · refine' Wp.modf_mk KX G ?u41a ?u41l ?u41c ?u41k ?u41b; (case u41a => k_is); (case u41l => k_is); (case u41c => k_is); (case u41k => k_is); (case u41b => exact fun us hl => match us, hl with | [_, _, _, _], _ => rfl)
      · refine' Wp.modf_mk KX G ?u42a ?u42l ?u42c ?u42k ?u42b; (case u42a => k_is); (case u42l => k_is); (case u42c => k_is); (case u42k => k_is); (case u42b => exact fun us hl => match us, hl with | [_, _, _], _ => rfl)
      · refine' Wp.modf_mk KX G ?u43a ?u43l ?u43c ?u43k ?u43b; (case u43a => k_is); (case u43l => k_is); (case u43c => k_is); (case u43k => k_is); (case u43b => exact fun us hl => match us, hl with | [_, _], _ => rfl)
      · refine' Wp.modf_mk KX G ?u44a ?u44l ?u44c ?u44k ?u44b; (case u44a => k_is); (case u44l => k_is); (case u44c => k_is); (case u44k => k_is); (case u44b => exact fun us hl => match us, hl with | [_], _ => rfl)
      · refine' Wp.modf_mk KX G ?u45a ?u45l ?u45c ?u45k ?u45b; (case u45a => k_is); (case u45l => k_is); (case u45c => k_is); (case u45k => k_is); (case u45b => exact fun us hl => match us, hl with | [_, _, _], _ => rfl)
      · refine' Wp.modf_mk KX G ?u46a ?u46l ?u46c ?u46k ?u46b; (case u46a => k_is); (case u46l => k_is); (case u46c => k_is); (case u46k => k_is); (case u46b => exact fun us hl => match us, hl with | [_], _ => rfl)
      · refine' Wp.modf_mk KX G ?u47a ?u47l ?u47c ?u47k ?u47b; (case u47a => k_is); (case u47l => k_is); (case u47c => k_is); (case u47k => k_is); (case u47b => exact fun us hl => match us, hl with | [_, _], _ => rfl)
      · refine' Wp.modf_mk KX G ?u48a ?u48l ?u48c ?u48k ?u48b; (case u48a => k_is); (case u48l => k_is); (case u48c => k_is); (case u48k => k_is); (case u48b => exact fun us hl => match us, hl with | [_, _], _ => rfl)
    have GF : ∃ C, Wp.GraphF (Wp.Kof KX) mg C := by
      dsimp only [Wp.Kof]
      refine' ⟨_, PySem.W.mg_of KX G ?u49aC, ⟨?u49pg, ?u49hd, ?u49po, ?u49sa⟩, ?u49n1, ?u49n2, ?u49n3, ?u49n4, Wp.makef_mk ?u49ia ?u49ii ?u49il ?u49ic ?u49ik ?u49im ?u49ikc ?u49ib, Wp.methf_mk ?u49hasa ?u49hasi ?u49hasl ?u49hasc ?u49hask ?u49hasb, Wp.methf_mk ?u49opna ?u49opni ?u49opnl ?u49opnc ?u49opnk ?u49opnb, Wp.methf_mk ?u49edga ?u49edgi ?u49edgl ?u49edgc ?u49edgk ?u49edgb, Wp.methf_mk ?u49mrka ?u49mrki ?u49mrkl ?u49mrkc ?u49mrkk ?u49mrkb⟩
      (case u49aC => k_is); (case u49pg => k_is); (case u49hd => k_is); (case u49po => k_is); (case u49sa => k_is); (case u49n1 => unfold L2.NoAttr; k_is); (case u49n2 => unfold L2.NoAttr; k_is); (case u49n3 => unfold L2.NoAttr; k_is); (case u49n4 => unfold L2.NoAttr; k_is)
      (case u49ia => k_is); (case u49ii => k_is); (case u49il => k_is); (case u49ic => k_is); (case u49ik => k_is); (case u49im => k_is); (case u49ikc => k_is); (case u49ib => exact fun us hl => match us, hl with | [_], _ => rfl)
      (case u49hasa => k_is); (case u49hasi => k_is); (case u49hasl => k_is); (case u49hasc => k_is); (case u49hask => k_is); (case u49hasb => exact fun us hl => match us, hl with | [_, _], _ => rfl)
      (case u49opna => k_is); (case u49opni => k_is); (case u49opnl => k_is); (case u49opnc => k_is); (case u49opnk => k_is); (case u49opnb => exact fun us hl => match us, hl with | [_, _], _ => rfl)
      (case u49edga => k_is); (case u49edgi => k_is); (case u49edgl => k_is); (case u49edgc => k_is); (case u49edgk => k_is); (case u49edgb => exact fun us hl => match us, hl with | [_, _, _], _ => rfl)
      (case u49mrka => k_is); (case u49mrki => k_is); (case u49mrkl => k_is); (case u49mrkc => k_is); (case u49mrkk => k_is); (case u49mrkb => exact fun us hl => match us, hl with | [_, _, _], _ => rfl)
    have WF : ∃ C, Wp.WaysF (Wp.Kof KX) mg C := by
      dsimp only [Wp.Kof]
      refine' ⟨_, PySem.W.mg_of KX G ?u50aC, ⟨?u50pg, ?u50hd, ?u50po, ?u50sa⟩, ?u50n1, ?u50n2, Wp.makef_mk ?u50ia ?u50ii ?u50il ?u50ic ?u50ik ?u50im ?u50ikc ?u50ib, Wp.methf_mk ?u50s2a ?u50s2i ?u50s2l ?u50s2c ?u50s2k ?u50s2b, Wp.methf_mk ?u50e2a ?u50e2i ?u50e2l ?u50e2c ?u50e2k ?u50e2b, Wp.methf_mk ?u50sua ?u50sui ?u50sul ?u50suc ?u50suk ?u50sub, Wp.methf_mk ?u50eua ?u50eui ?u50eul ?u50euc ?u50euk ?u50eub, Wp.methf_mk ?u50spa ?u50spi ?u50spl ?u50spc ?u50spk ?u50spb⟩
      (case u50aC => k_is); (case u50pg => k_is); (case u50hd => k_is); (case u50po => k_is); (case u50sa => k_is); (case u50n1 => unfold L2.NoAttr; k_is); (case u50n2 => unfold L2.NoAttr; k_is)
      (case u50ia => k_is); (case u50ii => k_is); (case u50il => k_is); (case u50ic => k_is); (case u50ik => k_is); (case u50im => k_is); (case u50ikc => k_is); (case u50ib => exact fun us hl => match us, hl with | [_, _], _ => rfl)
      (case u50s2a => k_is); (case u50s2i => k_is); (case u50s2l => k_is); (case u50s2c => k_is); (case u50s2k => k_is); (case u50s2b => exact fun us hl => match us, hl with | [_, _], _ => rfl)
      (case u50e2a => k_is); (case u50e2i => k_is); (case u50e2l => k_is); (case u50e2c => k_is); (case u50e2k => k_is); (case u50e2b => exact fun us hl => match us, hl with | [_, _], _ => rfl)
      (case u50sua => k_is); (case u50sui => k_is); (case u50sul => k_is); (case u50suc => k_is); (case u50suk => k_is); (case u50sub => exact fun us hl => match us, hl with | [_, _, _], _ => rfl)
      (case u50eua => k_is); (case u50eui => k_is); (case u50eul => k_is); (case u50euc => k_is); (case u50euk => k_is); (case u50eub => exact fun us hl => match us, hl with | [_, _, _], _ => rfl)
      (case u50spa => k_is); (case u50spi => k_is); (case u50spl => k_is); (case u50spc => k_is); (case u50spk => k_is); (case u50spb => exact fun us hl => match us, hl with | [_, _, _, _], _ => rfl)
    obtain ⟨cg, GF⟩ := GF
    obtain ⟨cw, WF⟩ := WF
    exact Wp.whole hmg ⟨GF.cl, WF.cl, GF.gS, GF.gE, GF.gM, GF.gF, WF.wA, WF.wB, q_i64, q_i65, q_i66, q_i67, q_i70, q_i71, q_i72, q_i73, q_i74, q_i76, q_of1, q_of2, q_oor, q_ref, q_mst, q_med, q_mmk, q_c1, q_c2, q_c3, q_c4, q_mnu, q_ah1, q_ah4, q_range, q_len, q_list, q_enum, q_zip, q_any, q_all, q_srt, q_rev⟩ GF WF D
  case S =>
    intro K H xs a hO hwi hask hx
    cases hx with
    | cons h1 h2 =>
      cases h2
      cases h1 with
      | lst hs ha =>
        have e := L2.ints_dw a.1 _ ha
        subst e
        exact ⟨_, a.1, rfl, hs, hask, fun H' p hp => .lst (L2.SqL.of hp) (L2.dw_ints _)⟩
#print axioms PySem.Challenge.cw_waysask_s01_answers_holds

