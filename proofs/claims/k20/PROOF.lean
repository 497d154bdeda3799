import PyProof.Rows.All
import Wide.All
import OpenK.AllK
import Wide.FinOn
import Lean
import PyProof.EqAt
import PyProof.EqKinds
import PyProof.TupleCall
import PySem.Challenge.RW_secondread_k20_brought
set_option Elab.async false
set_option linter.all false
set_option maxRecDepth 100000
set_option maxHeartbeats 4000000
-- CHANGE: your row's module here, as the last of these rows
/-! THE HAND LAYER, for ints, bools, texts, own classes, LISTS and tuples (index, slices, in, append, pop ..), calls, loops. Paste it whole ahead of your own text; what your proof does not reach may be deleted. -/
namespace L2
open PySem PySem.Spec PyProof.Rows
/-- a key: an int or a str -/
abbrev Key := Sum Int Str
def keyIs : Key → Value → Bool
  | .inl k, v => Value.isInt k v
  | .inr x, v => Value.isStrOf x v
def keyH (w : World) : Key → Int
  | .inl k => hashInt k
  | .inr x => hashStr w x
theorem keyIs_shape : ∀ {k : Key} {v : Value}, keyIs k v = true → (∃ i t, k = Sum.inl i ∧ v = Value.int i t) ∨ (∃ x t, k = Sum.inr x ∧ v = Value.str x t)
  | .inl i, v, h => by
    obtain ⟨t, e⟩ := Value.isInt_shape (k := i) (v := v) h
    exact .inl ⟨i, t, rfl, e⟩
  | .inr x, v, h => by
    obtain ⟨t, e⟩ := Value.isStrOf_shape (x := x) (v := v) h
    exact .inr ⟨x, t, rfl, e⟩
theorem keyIs_int (i : Int) (t : Tok) : keyIs (.inl i) (.int i t) = true := by simp [keyIs, Value.isInt]
theorem keyIs_str (x : Str) (t : Tok) : keyIs (.inr x) (.str x t) = true := by simp [keyIs, Value.isStrOf]
theorem key_ll (a b : Int) : decide ((Sum.inl a : Key) = Sum.inl b) = (a == b) := by
  by_cases e : a = b
  · subst e; simp
  · have h : ¬ (Sum.inl a : Key) = Sum.inl b := fun q => e (Sum.inl.inj q)
    rw [decide_eq_false h]
    exact (beq_eq_false_iff_ne.mpr e).symm
theorem key_rr (a b : Str) : decide ((Sum.inr a : Key) = Sum.inr b) = decide (a = b) := by
  by_cases e : a = b
  · subst e; simp
  · have h : ¬ (Sum.inr a : Key) = Sum.inr b := fun q => e (Sum.inr.inj q)
    rw [decide_eq_false h, decide_eq_false e]
theorem key_lr (a : Int) (b : Str) : decide ((Sum.inl a : Key) = Sum.inr b) = false := decide_eq_false (fun q => nomatch q)
theorem key_rl (a : Str) (b : Int) : decide ((Sum.inr a : Key) = Sum.inl b) = false := decide_eq_false (fun q => nomatch q)
def mixKind (prog : Program) (w : World) : PySem.KeyKind prog w Key where
  is := keyIs
  hash := keyH w
  inj := fun v a b ha hb => by
    rcases keyIs_shape ha with ⟨i, t, rfl, rfl⟩ | ⟨x, t, rfl, rfl⟩
    · rcases keyIs_shape hb with ⟨j, u, rfl, e⟩ | ⟨y, u, rfl, e⟩
      · injection e with e1 _; rw [e1]
      · exact nomatch e
    · rcases keyIs_shape hb with ⟨j, u, rfl, e⟩ | ⟨y, u, rfl, e⟩
      · exact nomatch e
      · injection e with e1 _; rw [e1]
  byValue := fun k v h => by
    rcases keyIs_shape h with ⟨i, t, rfl, rfl⟩ | ⟨x, t, rfl, rfl⟩ <;> rfl
  pyHash := fun hv h => by
    rcases keyIs_shape hv with ⟨i, t, rfl, rfl⟩ | ⟨x, t, rfl, rfl⟩
    · exact wpAny_pyHash_int h
    · exact wpAny_pyHash_str h
  eqBool := fun hu hv h => by
    rcases keyIs_shape hu with ⟨i, t, rfl, rfl⟩ | ⟨x, t, rfl, rfl⟩
    · rcases keyIs_shape hv with ⟨j, u, rfl, rfl⟩ | ⟨y, u, rfl, rfl⟩
      · rw [key_ll] at h; exact wpAny_eqBool_int h
      · rw [key_lr] at h; exact SeqAt.EqAt.int_str i t y u _ _ _ _ h
    · rcases keyIs_shape hv with ⟨j, u, rfl, rfl⟩ | ⟨y, u, rfl, rfl⟩
      · rw [key_rl] at h; exact SeqAt.EqAt.str_int x t j u _ _ _ _ h
      · rw [key_rr] at h; exact wpAny_eqBool_str h
  «strs» := fun k x t v h => by
    rcases keyIs_shape h with ⟨i, u, rfl, e⟩ | ⟨y, u, rfl, e⟩
    · exact nomatch e
    · injection e with e1 _
      subst e1
      cases v <;> rfl
theorem mixKind_int (prog : Program) (w : World) (i : Int) (t : Tok) : (mixKind prog w).is (.inl i) (.int i t) = true := keyIs_int i t
theorem mixKind_str (prog : Program) (w : World) (x : Str) (t : Tok) : (mixKind prog w).is (.inr x) (.str x t) = true := keyIs_str x t
end L2
namespace L2
open PySem PySem.Spec PyProof.Rows
/-- a value, without the heap -/
inductive V where
  | non | bl (b : Bool) | int (i : Int) | str (x : Str) | byt (b : Array UInt8) | flt (b : UInt64) | ref (a : Addr) | ty (n : String)
  deriving DecidableEq
def RelV : V → Value → Prop
  | .non, u => u = Value.none
  | .bl b, u => u = Value.bool b
  | .int i, u => ∃ t, u = Value.int i t
  | .str x, u => ∃ t, u = Value.str x t
  | .byt b, u => ∃ t, u = Value.bytes b t
  | .flt b, u => ∃ t, u = Value.float b t
  | .ref a, u => u = Value.ref a
  | .ty n, u => u = Value.type n
abbrev Vals : List V → List Value → Prop := Paired RelV
theorem Vals.length {xs : List V} {us : List Value} (r : Vals xs us) : xs.length = us.length := Paired.length r
theorem Vals.get : ∀ {xs : List V} {us : List Value} {i : Nat} {x : V}, Vals xs us → xs[i]? = some x → ∃ u, us[i]? = some u ∧ RelV x u
  | _, _, _, _, .nil, e => by simp at e
  | _, _, 0, _, .cons r _, e => by simp at e; subst e; exact ⟨_, rfl, r⟩
  | _, _, i + 1, x, .cons _ t, e => by
    obtain ⟨u, h1, h2⟩ := Vals.get (i := i) (x := x) t (by simpa using e)
    exact ⟨u, by simpa using h1, h2⟩
theorem Vals.set {x : V} {u : Value} (r : RelV x u) : ∀ {xs : List V} {us : List Value} (i : Nat), Vals xs us → Vals (xs.set i x) (us.set i u)
  | _, _, _, .nil => .nil
  | _, _, 0, .cons _ t => .cons r t
  | _, _, i + 1, .cons q t => .cons q (Vals.set r i t)
theorem Vals.append : ∀ {xs ys : List V} {us ws : List Value}, Vals xs us → Vals ys ws → Vals (xs ++ ys) (us ++ ws)
  | _, _, _, _, .nil, s => s
  | _, _, _, _, .cons r t, s => .cons r (Vals.append t s)
theorem Vals.take : ∀ {xs : List V} {us : List Value} (n : Nat), Vals xs us → Vals (xs.take n) (us.take n)
  | _, _, 0, _ => .nil
  | _, _, _ + 1, .nil => .nil
  | _, _, n + 1, .cons r t => .cons r (Vals.take n t)
theorem Vals.drop : ∀ {xs : List V} {us : List Value} (n : Nat), Vals xs us → Vals (xs.drop n) (us.drop n)
  | _, _, 0, r => r
  | _, _, _ + 1, .nil => .nil
  | _, _, n + 1, .cons _ t => Vals.drop n t
theorem Vals.none_of : ∀ {xs : List V} {us : List Value} {i : Nat}, Vals xs us → xs[i]? = none → us[i]? = none := fun {xs us i} r e => by
  have h1 := r.length
  have h2 : xs.length ≤ i := List.getElem?_eq_none_iff.mp e
  exact List.getElem?_eq_none_iff.mpr (by omega)
def RelO : Option V → Option Value → Prop
  | some v, some u => RelV v u
  | none, none => True
  | _, _ => False
def KV {κ : Type} : List (κ × V) → List (κ × Value) → Prop := Paired fun (p : κ × V) (q : κ × Value) => p.1 = q.1 ∧ RelV p.2 q.2
/-- a key of a dict (00_mix): an int or a text -/
def kV : Key → V
  | .inl i => .int i
  | .inr x => .str x
/-- what stands at a tracked address -/
inductive HO where
  /-- a list -/
  | lst (xs : List V)
  /-- a tuple (never changes) -/
  | tup (xs : List V)
  /-- a dict whose keys are ints and texts; one whose keys are tuples of ints and texts (the empty one is both) -/
  | dK (kvs : List (Key × V)) | dT (kvs : List (List Key × V))
  /-- a set of ints: its members, its size -/
  | set (S : Int → Bool) (n : Nat)
  /-- an instance of the class at C, its dict at dx, its attributes -/
  | ins (C dx : Addr) (fs : List (Str × V))
  /-- the dict of the instance at x -/
  | own (x : Addr)
  /-- the dict of an exception -/
  | xd (fs : List (Str × V))
  /-- a bound method, f of x -/
  | met (f x : Addr)
  /-- a range object lo, lo + 1, .. below hi -/
  | rng (lo hi : Int)
  /-- a thing that is known to the object (the script; a dict while a loop walks it): read, never written while it is so -/
  | frz (o : Obj) (u : HO)
  /-- a code object's table -/
  | tbl (ps : Array Value)
  /-- any other thing, by what is true of its one object (a def of one's own: SetO a S n := HO.ext fun h => ..) -/
  | ext (φ : Heap → Prop)
abbrev Hp := Addr → Option HO
def upd (H : Hp) (a : Addr) (o : HO) : Hp := fun b => if b = a then some o else H b
theorem upd_same {H : Hp} {a : Addr} {o : HO} : upd H a o a = some o := by unfold upd; rw [if_pos rfl]
theorem upd_ne {H : Hp} {a b : Addr} {o : HO} (h : b ≠ a) : upd H a o b = H b := by unfold upd; rw [if_neg h]
theorem upd_upd {H : Hp} {a : Addr} {o u : HO} : upd (upd H a o) a u = upd H a u := by
  funext b; unfold upd; split <;> rfl
theorem ne_of_none {H : Hp} {a b : Addr} {o : HO} (h : H a = some o) (h' : H b = none) : a ≠ b := by
  intro e; subst e; rw [h] at h'; cases h'
section
variable (P : Program) (w : World)
def ObjOk (H : Hp) (h : Heap) (a : Addr) : HO → Prop
  | .lst xs => xs.length ≤ sizeLine ∧ ∃ (its : List Value) (n : Nat), Vals xs its ∧ h.get? a = some { cls := .type "list", data := .seq its.toArray n }
  | .tup xs => xs.length ≤ sizeLine ∧ ∃ its : List Value, Vals xs its ∧ IsTup h a its.toArray
  | .dK kvs => kvs.length ≤ sizeLine ∧ (a == sysModules) = false ∧ ∃ vs, KV kvs vs ∧ h.DictOf (mixKind P w) a vs
  | .dT kvs => kvs.length ≤ sizeLine ∧ (a == sysModules) = false ∧ ∃ xs : List (List Key × Addr × Value),
      Paired (fun (p : List Key × V) (q : List Key × Addr × Value) => p.1 = q.1 ∧ H q.2.1 = some (.tup (p.1.map kV)) ∧ RelV p.2 q.2.2) kvs xs ∧
      ∃ o es ep, h.get? a = some o ∧ o.ExactDict ∧ o.data = .dict es ep ∧ es.toList = xs.map (entryOfKey (tupleKind (mixKind P w))) ∧ (xs.map (·.1)).Nodup
  | .set S n => h.SetOf (intKind P w) a S n
  | .ins C dx fs => H dx = some (.own a) ∧ fs.length ≤ 1000 ∧ dx ≠ a ∧ h.get? a = some (PySem.W.instObj C dx) ∧
      ∃ mA, h.Ns1 dx mA ∧ (∀ f, RelO (fs.lookup f) (mA f)) ∧ PySem.Within mA (fs.map (·.1))
  | .own _ => ∃ o, h.get? a = some o
  | .xd fs => ∃ mA, h.Ns1 a mA ∧ ∀ f, RelO (fs.lookup f) (mA f)
  | .rng lo hi => ∃ t u v, h.get? a = some { cls := .type "range", data := .fields #[.int lo t, .int hi u, .int 1 v] }
  | .frz o u => h.get? a = some o ∧ ObjOk H h a u
  | .tbl ps => h.get? a = some { cls := .none, data := .fields ps }
  | .met f x => h.get? a = some (PySem.W.methodObj (.ref f) (.ref x))
  | .ext φ => φ h ∧ (∃ o, h.get? a = some o) ∧ ∀ h1 h2 : Heap, φ h1 → (∀ o, h1.get? a = some o → h2.get? a = some o) → φ h2
/-- the abstract heap is held -/
def HOk (H : Hp) (h : Heap) : Prop := ∀ a o, H a = some o → ObjOk P w H h a o
end
section
variable {P : Program} {w : World} {H H' : Hp} {h h' : Heap} {a : Addr} {o : HO}
theorem ObjOk.lt (x : ObjOk P w H h a o) : a < h.objs.size := by
  cases o with
  | lst xs => obtain ⟨_, _, _, _, e⟩ := x; exact Heap.lt_size e
  | tup xs => obtain ⟨_, _, _, p⟩ := x; exact p.lt
  | dK kvs => obtain ⟨_, _, _, _, o, _, _, e, _⟩ := x; exact Heap.lt_size e
  | dT kvs => obtain ⟨_, _, _, _, o, _, _, e, _⟩ := x; exact Heap.lt_size e
  | set S n => obtain ⟨o, _, _, _, e, _⟩ := x; exact Heap.lt_size e
  | ins C dx fs => obtain ⟨_, _, _, e, _⟩ := x; exact Heap.lt_size e
  | own y => obtain ⟨_, e⟩ := x; exact Heap.lt_size e
  | xd fs => obtain ⟨_, ⟨_, _, _, e, _⟩, _⟩ := x; exact Heap.lt_size e
  | rng lo hi => obtain ⟨_, _, _, e⟩ := x; exact Heap.lt_size e
  | frz ob u => obtain ⟨e, _⟩ := x; exact Heap.lt_size e
  | tbl ps => exact Heap.lt_size (show h.get? a = some _ from x)
  | met f y => exact Heap.lt_size (show h.get? a = some _ from x)
  | ext φ => obtain ⟨_, ⟨_, e⟩, _⟩ := x; exact Heap.lt_size e
theorem Paired.mapP {α β : Type} {F G : α → β → Prop} : ∀ {l₁ : List α} {l₂ : List β}, Paired F l₁ l₂ → (∀ a b, F a b → G a b) → Paired G l₁ l₂
  | _, _, .nil, _ => .nil
  | _, _, .cons r t, f => .cons (f _ _ r) (Paired.mapP t f)
/-- what an object's description leans on: its own object, its own dict, the tuples -/
theorem ObjOk.stay (x : ObjOk P w H h a o) (k : ∀ b u, (b = a ∨ H b = some (.own a)) → h.get? b = some u → h'.get? b = some u)
    (ho : ∀ b, H b = some (.own a) → H' b = some (.own a)) (ht : ∀ b xs, H b = some (.tup xs) → H' b = some (.tup xs)) : ObjOk P w H' h' a o := by
  induction o with
  | lst xs => obtain ⟨z, its, n, r, e⟩ := x; exact ⟨z, its, n, r, k _ _ (.inl rfl) e⟩
  | tup xs => obtain ⟨z, its, r, ob, e, c⟩ := x; exact ⟨z, its, r, ob, k _ _ (.inl rfl) e, c⟩
  | dK kvs => obtain ⟨z, y, vs, r, ob, es, ep, e, c⟩ := x; exact ⟨z, y, vs, r, ob, es, ep, k _ _ (.inl rfl) e, c⟩
  | dT kvs =>
    obtain ⟨z, y, xs, r, ob, es, ep, e, c⟩ := x
    exact ⟨z, y, xs, Paired.mapP r fun p q z => ⟨z.1, ht _ _ z.2.1, z.2.2⟩, ob, es, ep, k _ _ (.inl rfl) e, c⟩
  | set S n => obtain ⟨ob, es, ep, t, e, c⟩ := x; exact ⟨ob, es, ep, t, k _ _ (.inl rfl) e, c⟩
  | ins C dx fs =>
    obtain ⟨d, z, ne, e, mA, ⟨od, es, ep, e2, c⟩, r⟩ := x
    exact ⟨ho _ d, z, ne, k _ _ (.inl rfl) e, mA, ⟨od, es, ep, k _ _ (.inr d) e2, c⟩, r⟩
  | own y => obtain ⟨ob, e⟩ := x; exact ⟨ob, k _ _ (.inl rfl) e⟩
  | xd fs => obtain ⟨mA, ⟨od, es, ep, e, c⟩, r⟩ := x; exact ⟨mA, ⟨od, es, ep, k _ _ (.inl rfl) e, c⟩, r⟩
  | rng lo hi => obtain ⟨t, u, v, e⟩ := x; exact ⟨t, u, v, k _ _ (.inl rfl) e⟩
  | frz ob u ih => obtain ⟨e, q⟩ := x; exact ⟨k _ _ (.inl rfl) e, ih q⟩
  | tbl ps =>
    have e : h.get? a = some { cls := .none, data := .fields ps } := x
    show h'.get? a = some { cls := .none, data := .fields ps }
    exact k a _ (.inl rfl) e
  | met f y =>
    have e : h.get? a = some (PySem.W.methodObj (.ref f) (.ref y)) := x
    show h'.get? a = some (PySem.W.methodObj (.ref f) (.ref y))
    exact k a _ (.inl rfl) e
  | ext φ => obtain ⟨p, ⟨o, e⟩, st⟩ := x; exact ⟨st _ _ p fun o q => k _ _ (.inl rfl) q, ⟨o, k _ _ (.inl rfl) e⟩, st⟩
theorem HOk.lt (x : HOk P w H h) (e : H a = some o) : a < h.objs.size := (x a o e).lt
theorem HOk.fresh (x : HOk P w H h) (e : h.objs.size ≤ a) : H a = none := by
  cases q : H a with
  | none => rfl
  | some u => exact absurd (Nat.lt_of_lt_of_le (x.lt q) e) (Nat.lt_irrefl _)
/-- every object of the heap is kept -/
theorem HOk.kept (x : HOk P w H h) (k : ∀ b u, h.get? b = some u → h'.get? b = some u) : HOk P w H h' := fun a o e =>
  (x a o e).stay (fun b u _ q => k b u q) (fun _ q => q) fun _ _ q => q
/-- a new object is laid and tracked -/
theorem HOk.laid (x : HOk P w H h) (k : ∀ b u, h.get? b = some u → h'.get? b = some u) (hp : h.objs.size ≤ a) (new : ObjOk P w (upd H a o) h' a o) : HOk P w (upd H a o) h' := fun b u e => by
  have hn := x.fresh hp
  by_cases hb : b = a
  · subst hb; rw [upd_same] at e; cases e; exact new
  · rw [upd_ne hb] at e
    exact (x b u e).stay (fun c v _ q => k c v q) (fun c q => by rw [upd_ne (ne_of_none q hn)]; exact q) fun c xs q => by rw [upd_ne (ne_of_none q hn)]; exact q
end
/-- what may be read as u: it is u, or a known u -/
def Rd (H : Hp) (a : Addr) (u : HO) : Prop := H a = some u ∨ ∃ o, H a = some (.frz o u)
theorem Rd.of {H : Hp} {a : Addr} {u : HO} (h : H a = some u) : Rd H a u := .inl h
theorem Rd.ok {P : Program} {w : World} {H : Hp} {h : Heap} {a : Addr} {u : HO} (r : Rd H a u) (x : HOk P w H h) : ObjOk P w H h a u := by
  rcases r with r | ⟨o, r⟩
  · exact x a u r
  · obtain ⟨_, q⟩ := x a _ r
    exact q
/-- what may be written -/
def Mut : Option HO → Prop
  | some (.lst _) => True
  | some (.dK _) => True
  | some (.dT _) => True
  | some (.set _ _) => True
  | some (.ins _ _ _) => True
  | some (.ext _) => True
  | _ => False
section
variable {P : Program} {w : World} {H : Hp} {h h' : Heap} {x e : Addr} {o' : HO}
/-- the object at e is changed: x itself, or the dict of the instance x -/
theorem HOk.write (ok : HOk P w H h) (mu : Mut (H x)) (he : e = x ∨ H e = some (.own x)) (k : ∀ b u, b ≠ e → h.get? b = some u → h'.get? b = some u) (heo : ∃ u, h'.get? e = some u)
    (new : ObjOk P w (upd H x o') h' x o') : HOk P w (upd H x o') h' := fun b u q => by
  have nown : ∀ c y, H c = some (.own y) → c ≠ x := fun c y r z => by subst z; rw [r] at mu; exact mu
  have ntup : ∀ c xs, H c = some (.tup xs) → c ≠ x := fun c xs r z => by subst z; rw [r] at mu; exact mu
  by_cases hb : b = x
  · subst hb; rw [upd_same] at q; cases q; exact new
  · rw [upd_ne hb] at q
    by_cases hbe : b = e
    · have q' : H b = some (.own x) := by
        rcases he with z | z
        · exact absurd (hbe.trans z) hb
        · rw [hbe]; exact z
      rw [q] at q'; cases q'
      obtain ⟨v, hv⟩ := heo
      exact ⟨v, by rw [hbe]; exact hv⟩
    · refine (ok b u q).stay (fun c v hc r => k c v ?_ r) (fun c r => by rw [upd_ne (nown c b r)]; exact r) fun c xs r => by rw [upd_ne (ntup c xs r)]; exact r
      rcases hc with rfl | hc
      · exact hbe
      · rintro rfl
        rcases he with z | z
        · exact nown c b hc z
        · rw [hc] at z; cases z; exact hb rfl
end
/-! ### kept unless tracked; of the frames at fs (the callers') the slots may change (an exception that passes writes there); of the records at ex (iterators) nothing is said -/
structure Un (fs ex : List Addr) (H H' : Hp) (h h' : Heap) : Prop where
  keep : ∀ b o, h.get? b = some o → H b = none → b ∉ fs → b ∉ ex → h'.get? b = some o
  slot : ∀ b o, h.get? b = some o → H b = none → b ∈ fs → b ∉ ex → ∃ sl, h'.get? b = some { o with slots := sl }
  free : ∀ b o, h.get? b = some o → H b = none → b ∉ ex → H' b = none
  there : ∀ b o, h.get? b = some o → b ∉ ex → ∃ o', h'.get? b = some o'
  tups : ∀ b xs, H b = some (.tup xs) → H' b = some (.tup xs)
  frzs : ∀ b o u, H b = some (.frz o u) → H' b = some (.frz o u)
  tbls : ∀ b ps, H b = some (.tbl ps) → ∃ more, H' b = some (.tbl (ps ++ more))
section
variable {fs fs' ex ex' : List Addr} {H H1 H2 : Hp} {h h1 h2 h' : Heap} {a x e : Addr} {o : HO}
theorem Un.any (u : Un fs ex H H1 h h1) {b : Addr} {ob : Obj} (q : h.get? b = some ob) (n : H b = none) (hx : b ∉ ex) : ∃ sl, h1.get? b = some { ob with slots := sl } := by
  by_cases hb : b ∈ fs
  · exact u.slot b ob q n hb hx
  · exact ⟨ob.slots, u.keep b ob q n hb hx⟩
theorem Un.trans (a : Un fs ex H H1 h h1) (b : Un fs ex H1 H2 h1 h2) : Un fs ex H H2 h h2 where
  keep := fun c ob q n hc hx => b.keep c ob (a.keep c ob q n hc hx) (a.free c ob q n hx) hc hx
  slot := fun c ob q n hc hx => by
    obtain ⟨sl, e1⟩ := a.slot c ob q n hc hx
    obtain ⟨sl', e2⟩ := b.slot c _ e1 (a.free c ob q n hx) hc hx
    exact ⟨sl', e2⟩
  free := fun c ob q n hx => by
    obtain ⟨o', e1⟩ := a.there c ob q hx
    exact b.free c o' e1 (a.free c ob q n hx) hx
  there := fun c ob q hx => by
    obtain ⟨o', e1⟩ := a.there c ob q hx
    exact b.there c o' e1 hx
  tups := fun c xs q => b.tups c xs (a.tups c xs q)
  frzs := fun c ob xs q => b.frzs c ob xs (a.frzs c ob xs q)
  tbls := fun c ps q => by
    obtain ⟨m1, e1⟩ := a.tbls c ps q
    obtain ⟨m2, e2⟩ := b.tbls c _ e1
    exact ⟨m1 ++ m2, by rw [e2, Array.append_assoc]⟩
theorem Un.kept (k : ∀ b u, h.get? b = some u → h'.get? b = some u) : Un fs ex H H h h' :=
  ⟨fun b ob q _ _ _ => k b ob q, fun b ob q _ _ _ => ⟨ob.slots, k b ob q⟩, fun _ _ _ n _ => n, fun b ob q _ => ⟨ob, k b ob q⟩, fun _ _ q => q, fun _ _ _ q => q, fun _ ps q => ⟨#[], by rw [q]; simp⟩⟩
theorem Un.refl : Un fs ex H H h h := Un.kept fun _ _ q => q
theorem Un.laid (k : ∀ b u, h.get? b = some u → h'.get? b = some u) (hp : h.objs.size ≤ a) (hn : H a = none) : Un fs ex H (upd H a o) h h' where
  keep := fun b u q _ _ _ => k b u q
  slot := fun b u q _ _ _ => ⟨u.slots, k b u q⟩
  free := fun b u q n _ => by rw [upd_ne (Nat.ne_of_lt (Nat.lt_of_lt_of_le (Heap.lt_size q) hp))]; exact n
  there := fun b u q _ => ⟨u, k b u q⟩
  tups := fun b xs q => by rw [upd_ne (ne_of_none q hn)]; exact q
  frzs := fun b u xs q => by rw [upd_ne (ne_of_none q hn)]; exact q
  tbls := fun b ps q => ⟨#[], by rw [upd_ne (ne_of_none q hn), q]; simp⟩
theorem Un.write (mu : Mut (H x)) (he : e = x ∨ H e = some (.own x)) (k : ∀ b u, b ≠ e → h.get? b = some u → h'.get? b = some u) (heo : ∃ u, h'.get? e = some u) : Un fs ex H (upd H x o) h h' := by
  have hx : ∀ b, H b = none → b ≠ x := fun b n z => by subst z; rw [n] at mu; exact mu
  have hb : ∀ b, H b = none → b ≠ e := fun b n z => by
    subst z
    rcases he with r | r
    · exact hx b n r
    · rw [n] at r; cases r
  have hm : ∀ b u, H b = some u → ¬ Mut (some u) → b ≠ x := fun b u q nm z => by subst z; rw [q] at mu; exact nm mu
  refine ⟨fun b u q n _ _ => k b u (hb b n) q, fun b u q n _ _ => ⟨u.slots, k b u (hb b n) q⟩, fun b u q n _ => by rw [upd_ne (hx b n)]; exact n, fun b u q _ => ?_,
    fun b xs q => by rw [upd_ne (hm b _ q fun z => z)]; exact q, fun b u xs q => by rw [upd_ne (hm b _ q fun z => z)]; exact q, fun b ps q => ⟨#[], by rw [upd_ne (hm b _ q fun z => z), q]; simp⟩⟩
  by_cases hbe : b = e
  · subst hbe; exact heo
  · exact ⟨u, k b u hbe q⟩
theorem Un.mono (u : Un fs ex H H1 h h1) (hs : ∀ b ∈ fs, b ∈ fs') (hx : ∀ b ∈ ex, b ∈ ex') : Un fs' ex' H H1 h h1 :=
  ⟨fun b ob q n hb he => u.keep b ob q n (fun z => hb (hs b z)) fun z => he (hx b z), fun _ _ q n _ he => u.any q n fun z => he (hx _ z), fun b ob q n he => u.free b ob q n fun z => he (hx b z), fun b ob q he => u.there b ob q fun z => he (hx b z), u.tups, u.frzs, u.tbls⟩
end
/-! ### the heap without what is tracked -/
def trk (h : Heap) (H : Hp) : List Addr := (List.range h.objs.size).filter fun a => (H a).isSome
def hidT (h : Heap) (H : Hp) : Heap := PySem.W.hideAll h (trk h H)
theorem hidT_size (h : Heap) (H : Hp) : (hidT h H).objs.size = h.objs.size := PySem.W.hideAll_size _ _
theorem hidT_get {h : Heap} {H : Hp} {b : Addr} {o : Obj} (e : h.get? b = some o) (n : H b = none) : (hidT h H).get? b = some o :=
  PySem.W.hideAll_get _ e fun hm => by
    have q : (H b).isSome = true := (List.mem_filter.mp hm).2
    rw [n] at q; simp at q
theorem of_hidT {h : Heap} {H : Hp} {b : Addr} {o : Obj} (e : (hidT h H).get? b = some o) : h.get? b = some o ∧ H b = none := by
  have e' : h.get? b = some o := PySem.W.of_hideAll (trk h H) e
  refine ⟨e', ?_⟩
  cases q : H b with
  | none => rfl
  | some x =>
    have hm : b ∈ trk h H := List.mem_filter.mpr ⟨List.mem_range.mpr (Heap.lt_size e'), by simp [q]⟩
    have z : (hidT h H).get? b = none := PySem.W.hideAll_none (trk h H) hm
    rw [z] at e; cases e
/-! ### OpenK's ledger, filled with every new object but one -/
def allNews (g h : Heap) (L : Addr) : List (Addr × Obj) := (List.range h.objs.size).filterMap fun a => if a = L ∨ (g.get? a).isSome = true then none else (h.get? a).map fun o => (a, o)
def rest (g h : Heap) (L d : Addr) : List (Addr × Obj) := (allNews g h L).filter fun p => decide (p.1 ≠ d)
end L2
namespace L2
open PySem PySem.Spec PyProof.Rows
/-- the module's facts, over the base: the heap at the law's entry without what is tracked there -/
structure Mod (K : PySem.W.Frag) (mg : Str → Option Value) (base : Heap) : Prop where
  kin : K.In base
  glob : base.Ns mainGlobals mg
  blt : ∃ mb, base.Ns builtinsNs mb ∧ ∀ x : Str, x ≠ "__name__" → mb x = bootBuiltins x
  nolimit : base.NoLimit
/-- the context: a def's body (or a comprehension's block) running. base: fixed through the whole law; s₀, H₀: the entry; outer: the frames whose slots others may change (a def's callers); stack: all frames that run;
   ex: iterators that were made ahead of the entry and are walked here (a comprehension's); fn: the names whose cells were made at the entry (a def: all; a comprehension's block: its own); calm: not within an except suite; pn: pins that every state bears; xe: what is wanted of an exception that leaves the code -/
structure Cx where
  prog : Program
  w : World
  K : PySem.W.Frag
  mg : Str → Option Value
  base : Heap
  A : Around
  N : List Str
  s₀ : Shared
  H₀ : Hp
  env : Env
  outer : List Env
  stack : List Env
  ex : List Addr
  fn : Str → Bool
  calm : Bool
  pn : List (Addr × Obj)
  xe : Value → Shared → Prop
/-- the callers' frames -/
def frs (l : List Env) : List Addr := l.filterMap (·.frame)
abbrev Cx.fs (X : Cx) : List Addr := frs X.outer
def Vis (sc : Scope) (x : Str) : Prop := sc.names.lookup x = some .local ∨ sc.names.lookup x = some .cell ∨ sc.names.lookup x = some .free
def Loc (sc : Scope) (x : Str) : Prop := sc.names.lookup x = some .local ∨ sc.names.lookup x = some .cell
def Look (env : Env) (h : Heap) (m : Str → Option Value) (x : Str) (u : Value) : Prop :=
  (env.kindOf x = some .local ∧ m x = some u) ∨ ((env.kindOf x = some .cell ∨ env.kindOf x = some .free) ∧ ∃ c, env.cells.lookup x = some c ∧ h.IsCell c (some u))
structure Cx.Ok (X : Cx) : Prop where
  mod : Mod X.K X.mg X.base
  kind : X.env.scope.kind = .function
  glob : X.env.globals = mainGlobals
  blt : X.env.builtins = builtinsNs
  above : X.s₀.heap.objs.size ≤ X.env.locals
  inj : ∀ x y c, X.env.cells.lookup x = some c → X.env.cells.lookup y = some c → x = y
  has : ∀ x, (X.env.kindOf x = some .cell ∨ X.env.kindOf x = some .free) → ∃ c, X.env.cells.lookup x = some c
  cab : ∀ x c, X.fn x = true → X.env.cells.lookup x = some c → X.s₀.heap.objs.size ≤ c
  hd : X.calm = true → X.A.handled = none
  frames : X.A.frames = some X.stack
  stk : X.stack = X.outer ∨ (X.stack = X.env :: X.outer ∧ X.env.frame = some X.env.locals)
  exf : ∀ b ∈ X.ex, b ≠ X.env.locals ∧ ∀ x c, X.env.cells.lookup x = some c → c ≠ b
  bs : ∀ b o, X.base.get? b = some o → X.s₀.heap.get? b = some o ∧ X.H₀ b = none
  bsz : X.base.objs.size ≤ X.s₀.heap.objs.size
  noex : ∀ b o, X.base.get? b = some o → b ∉ X.ex
  exfs : ∀ b ∈ X.ex, b ∉ X.fs
  funs : X.s₀.heap.FunFrames X.base X.outer
  frf : ∀ b ∈ X.fs, X.H₀ b = none
structure Inv (X : Cx) (pins : List (Addr × Obj)) (σ : List (Option V)) (H : Hp) (s : Shared) : Prop where
  ok : X.Ok
  os : s.os = X.s₀.os
  bare : AllBare s.gens
  base : Un X.fs X.ex X.H₀ H X.s₀.heap s.heap
  loc : ∃ m, s.heap.Ns X.env.locals m ∧ ∀ (i : Nat) (x : Str) (v : V), X.N[i]? = some x → σ[i]? = some (some v) → Vis X.env.scope x → ∃ u, RelV v u ∧ Look X.env s.heap m x u
  cell : ∀ x c, X.env.cells.lookup x = some c → ∃ v, s.heap.IsCell c v
  free : H X.env.locals = none
  freeC : ∀ x c, X.env.cells.lookup x = some c → H c = none
  pin : ∀ p ∈ X.pn ++ pins, s.heap.get? p.1 = some p.2 ∧ H p.1 = none ∧ p.1 ≠ X.env.locals ∧ p.1 ∉ X.fs ∧ ∀ v, p.2.data ≠ .cell v
  hok : HOk X.prog X.w H s.heap
  len : σ.length = X.N.length
section
variable {X : Cx} {pins : List (Addr × Obj)} {σ : List (Option V)} {H H' : Hp} {s : Shared} {h' : Heap}
theorem Cx.Ok.nofr (ok : X.Ok) {b : Addr} {o : Obj} (e : X.base.get? b = some o) : b ∉ X.fs := fun hb => by
  have := (ok.funs.mem hb).1
  rw [e] at this; cases this
theorem Inv.bs (I : Inv X pins σ H s) : ∀ b o, X.base.get? b = some o → s.heap.get? b = some o ∧ H b = none := fun b o e =>
  ⟨I.base.keep b o (I.ok.bs b o e).1 (I.ok.bs b o e).2 (I.ok.nofr e) (I.ok.noex b o e), I.base.free b o (I.ok.bs b o e).1 (I.ok.bs b o e).2 (I.ok.noex b o e)⟩
theorem Inv.bk (I : Inv X pins σ H s) : ∀ b o, X.base.get? b = some o → s.heap.get? b = some o := fun b o e => (I.bs b o e).1
theorem Inv.mod (I : Inv X pins σ H s) : Mod X.K X.mg X.base := I.ok.mod
theorem Inv.kIn (I : Inv X pins σ H s) : X.K.In s.heap := I.ok.mod.kin.keeps I.bk
theorem Inv.nolimit (I : Inv X pins σ H s) : s.heap.NoLimit := I.ok.mod.nolimit.keeps I.bk
/-- the frame over the base: for OpenK's rules (K.In X.base is I.mod.kin) -/
theorem Inv.fr (I : Inv X pins σ H s) : ∃ m, Fr X.base X.env.locals s.heap m :=
  let ⟨m, hn, _⟩ := I.loc
  ⟨m, hn, I.bk, Nat.le_trans I.ok.bsz I.ok.above⟩
theorem Inv.lt (I : Inv X pins σ H s) : X.env.locals < s.heap.objs.size := let ⟨_, hn, _⟩ := I.loc; hn.lt
theorem Inv.sz (I : Inv X pins σ H s) : X.s₀.heap.objs.size ≤ s.heap.objs.size := Nat.le_trans I.ok.above (Nat.le_of_lt I.lt)
theorem Inv.nofs (I : Inv X pins σ H s) {a : Addr} (h : s.heap.objs.size ≤ a) : a ∉ X.fs := fun hb => by
  obtain ⟨_, o, ho, _⟩ := I.ok.funs.mem hb
  exact absurd (Nat.lt_of_lt_of_le (Heap.lt_size ho) (Nat.le_trans I.sz h)) (Nat.lt_irrefl _)
theorem Inv.cne (I : Inv X pins σ H s) : ∀ x c, X.env.cells.lookup x = some c → c ≠ X.env.locals := fun x c e z => by
  obtain ⟨v, o, ho, hd⟩ := I.cell x c e
  obtain ⟨m, ⟨o', es, ep, ho', hd', _⟩, _⟩ := I.loc
  rw [z, ho'] at ho; cases ho; rw [hd'] at hd; cases hd
theorem Inv.funs (I : Inv X pins σ H s) : s.heap.FunFrames X.base X.outer := by
  have all : ∀ (l : List Env), (∀ b ∈ frs l, b ∈ X.fs) → X.s₀.heap.FunFrames X.base l → s.heap.FunFrames X.base l := by
    intro l
    induction l with
    | nil => intro _ _; trivial
    | cons env r ih =>
      intro hs hl
      obtain ⟨hk, ⟨L, o, hf, hn, ho, hd⟩, hr⟩ := hl
      have hL : L ∈ X.fs := hs L (by unfold frs; rw [List.filterMap_cons, hf]; exact List.mem_cons_self)
      obtain ⟨sl, e⟩ := I.base.slot L o ho (I.ok.frf L hL) hL fun z => I.ok.exfs L z hL
      exact ⟨hk, ⟨L, _, hf, hn, e, hd⟩, ih (fun b hb => hs b (by unfold frs; rw [List.filterMap_cons, hf]; exact List.mem_cons_of_mem _ hb)) hr⟩
  exact all X.outer (fun _ hb => hb) I.ok.funs
/-- the frames that run, for a call -/
theorem Inv.stack (I : Inv X pins σ H s) : s.heap.FunFrames X.base X.stack := by
  rcases I.ok.stk with e | ⟨e, hf⟩
  · rw [e]; exact I.funs
  · rw [e]
    obtain ⟨m, hn, _⟩ := I.loc
    refine .cons (by rw [I.ok.kind]; decide) hf hn ?_ I.funs
    exact Heap.get?_none_of_le (Nat.le_trans I.ok.bsz I.ok.above)
theorem Inv.stkSub (I : Inv X pins σ H s) : ∀ b ∈ frs X.stack, b ∈ X.env.locals :: X.fs := fun b hb => by
  rcases I.ok.stk with e | ⟨e, hf⟩
  · rw [e] at hb; exact List.mem_cons_of_mem _ hb
  · rw [e] at hb
    unfold frs at hb
    rw [List.filterMap_cons, hf] at hb
    exact hb
theorem Inv.stkFree (I : Inv X pins σ H s) : ∀ b ∈ frs X.stack, H b = none := fun b hb => by
  rcases List.mem_cons.mp (I.stkSub b hb) with e | hb
  · rw [e]; exact I.free
  · obtain ⟨_, o, ho, _⟩ := I.ok.funs.mem hb
    exact I.base.free b o ho (I.ok.frf b hb) fun z => I.ok.exfs b z hb
/-- THE STEP: the untracked objects but the frame and the records at ch are kept (the callers' frames up to slots), the frame's map is kept, the new abstract heap is held -/
theorem Inv.step {g' : Array GenState} {t' : Nat} {d' : Drawn} {ch : List Addr} (I : Inv X pins σ H s)
    (hch : ∀ b ∈ ch, (b ∈ X.ex ∨ X.s₀.heap.objs.size ≤ b) ∧ b ≠ X.env.locals ∧ (∀ x c, X.env.cells.lookup x = some c → c ≠ b) ∧ ∀ p ∈ X.pn ++ pins, p.1 ≠ b)
    (keep : ∀ b o, b ≠ X.env.locals → b ∉ X.fs → b ∉ ch → s.heap.get? b = some o → H b = none → h'.get? b = some o)
    (slot : ∀ b o, b ≠ X.env.locals → b ∈ X.fs → b ∉ ch → s.heap.get? b = some o → H b = none → ∃ sl, h'.get? b = some { o with slots := sl }) (free : ∀ b o, b ∉ ch → s.heap.get? b = some o → H b = none → H' b = none)
    (there : ∀ b o, b ∉ ch → s.heap.get? b = some o → ∃ o', h'.get? b = some o')
    (tups : ∀ b xs, H b = some (.tup xs) → H' b = some (.tup xs)) (frzs : ∀ b o u, H b = some (.frz o u) → H' b = some (.frz o u)) (tbls : ∀ b ps, H b = some (.tbl ps) → ∃ more, H' b = some (.tbl (ps ++ more)))
    (ns : ∀ m, s.heap.Ns X.env.locals m → h'.Ns X.env.locals m) (hok : HOk X.prog X.w H' h') (hg : AllBare g') :
    Inv X pins σ H' { s with heap := h', gens := g', drawn := d', toks := t' } := by
  have neL : ∀ b o, X.s₀.heap.get? b = some o → b ≠ X.env.locals := fun b o e => Nat.ne_of_lt (Nat.lt_of_lt_of_le (Heap.lt_size e) I.ok.above)
  have neC : ∀ b o, X.s₀.heap.get? b = some o → b ∉ X.ex → b ∉ ch := fun b o e hx hb => by
    rcases (hch b hb).1 with z | z
    · exact hx z
    · exact absurd (Nat.lt_of_lt_of_le (Heap.lt_size e) z) (Nat.lt_irrefl _)
  have cellK : ∀ x c, X.env.cells.lookup x = some c → ∀ v, s.heap.IsCell c v → h'.IsCell c v := fun x c e v ⟨o, ho, hd⟩ => by
    have nch : c ∉ ch := fun z => (hch c z).2.2.1 x c e rfl
    by_cases hc : c ∈ X.fs
    · obtain ⟨sl, q⟩ := slot c o (I.cne x c e) hc nch ho (I.freeC x c e)
      exact ⟨_, q, hd⟩
    · exact ⟨o, keep c o (I.cne x c e) hc nch ho (I.freeC x c e), hd⟩
  refine ⟨I.ok, I.os, hg, ⟨fun b o e n hb hx => ?_, fun b o e n hb hx => ?_, fun b o e n hx => ?_, fun b o e hx => ?_, fun b xs e => tups b xs (I.base.tups b xs e), fun b o xs e => frzs b o xs (I.base.frzs b o xs e), fun b ps e => ?_⟩, ?_, fun x c e => ?_, ?_, fun x c e => ?_, fun p hp => ?_, hok, I.len⟩
  · exact keep b o (neL b o e) hb (neC b o e hx) (I.base.keep b o e n hb hx) (I.base.free b o e n hx)
  · obtain ⟨sl, e1⟩ := I.base.slot b o e n hb hx
    obtain ⟨sl', e2⟩ := slot b _ (neL b o e) hb (neC b o e hx) e1 (I.base.free b o e n hx)
    exact ⟨sl', e2⟩
  · obtain ⟨o', e1⟩ := I.base.there b o e hx
    exact free b o' (neC b o e hx) e1 (I.base.free b o e n hx)
  · obtain ⟨o', e1⟩ := I.base.there b o e hx
    exact there b o' (neC b o e hx) e1
  · obtain ⟨m1, e1⟩ := I.base.tbls b ps e
    obtain ⟨m2, e2⟩ := tbls b _ e1
    exact ⟨m1 ++ m2, by rw [e2, Array.append_assoc]⟩
  · obtain ⟨m, hn, hl⟩ := I.loc
    refine ⟨m, ns m hn, fun i x v e1 e2 e3 => ?_⟩
    obtain ⟨u, r, l⟩ := hl i x v e1 e2 e3
    refine ⟨u, r, ?_⟩
    rcases l with l | ⟨k, c, e, z⟩
    · exact .inl l
    · exact .inr ⟨k, c, e, cellK x c e _ z⟩
  · obtain ⟨v, z⟩ := I.cell x c e
    exact ⟨v, cellK x c e v z⟩
  · obtain ⟨m, ⟨o, _, _, ho, _⟩, _⟩ := I.loc
    exact free _ o (fun z => (hch _ z).2.1 rfl) ho I.free
  · obtain ⟨v, o, ho, hd⟩ := I.cell x c e
    exact free c o (fun z => (hch c z).2.2.1 x c e rfl) ho (I.freeC x c e)
  · obtain ⟨e, n, ne, nf, d⟩ := I.pin p hp
    have nch : p.1 ∉ ch := fun z => (hch p.1 z).2.2.2 p hp rfl
    exact ⟨keep p.1 p.2 ne nf nch e n, free p.1 p.2 nch e n, ne, nf, d⟩
/-- .. where the frame's own object is kept too -/
theorem Inv.un {t' : Nat} (I : Inv X pins σ H s) (u : Un X.fs [] H H' s.heap h') (hok : HOk X.prog X.w H' h') : Inv X pins σ H' { s with heap := h', toks := t' } := by
  obtain ⟨m, ⟨o, es, ep, ho, r⟩, _⟩ := id I.loc
  obtain ⟨sl, hL⟩ := u.any ho I.free (by simp)
  exact I.step (g' := s.gens) (d' := s.drawn) (ch := []) (fun _ z => nomatch z) (fun b o _ hb _ e n => u.keep b o e n hb (by simp)) (fun b o _ hb _ e n => u.slot b o e n hb (by simp)) (fun b o _ e n => u.free b o e n (by simp)) (fun b o _ e => u.there b o e (by simp)) u.tups u.frzs u.tbls (fun m' hm => by
    obtain ⟨o', es', ep', ho', r'⟩ := hm
    rw [ho] at ho'; cases ho'
    exact ⟨_, es', ep', hL, r'⟩) hok I.bare
/-- behind a call (or a comprehension's block): the slots of this frame may have changed too, the records at ch may have turned -/
theorem Inv.call {g' : Array GenState} {t' : Nat} {d' : Drawn} {ch : List Addr} (I : Inv X pins σ H s) (u : Un (frs X.stack) ch H H' s.heap h') (hok : HOk X.prog X.w H' h') (hg : AllBare g')
    (hch : ∀ b ∈ ch, (b ∈ X.ex ∨ X.s₀.heap.objs.size ≤ b) ∧ b ≠ X.env.locals ∧ (∀ x c, X.env.cells.lookup x = some c → c ≠ b) ∧ ∀ p ∈ X.pn ++ pins, p.1 ≠ b) :
    Inv X pins σ H' { s with heap := h', gens := g', drawn := d', toks := t' } := by
  obtain ⟨m, ⟨o, es, ep, ho, r⟩, _⟩ := id I.loc
  obtain ⟨sl, hL⟩ := u.any ho I.free fun z => (hch _ z).2.1 rfl
  exact I.step (ch := ch) hch (fun b o hL hb hc e n => u.keep b o e n (fun z => (List.mem_cons.mp (I.stkSub b z)).elim hL hb) hc) (fun b o _ _ hc e n => u.any e n hc) (fun b o hc e n => u.free b o e n hc) (fun b o hc e => u.there b o e hc) u.tups u.frzs u.tbls (fun m' hm => by
    obtain ⟨o', es', ep', ho', r'⟩ := hm
    rw [ho] at ho'; cases ho'
    exact ⟨_, es', ep', hL, r'⟩) hok hg
/-- an untracked record of ours (an iterator) has turned -/
theorem Inv.turned {t' : Nat} {it : Addr} (I : Inv X pins σ H s) (k : ∀ b o, b ≠ it → s.heap.get? b = some o → h'.get? b = some o) (hn : H it = none) (hL : it ≠ X.env.locals)
    (h1 : it ∈ X.ex ∨ X.s₀.heap.objs.size ≤ it) (h2 : ∀ x c, X.env.cells.lookup x = some c → c ≠ it) (h3 : ∀ p ∈ X.pn ++ pins, p.1 ≠ it) : Inv X pins σ H { s with heap := h', toks := t' } := by
  have nit : ∀ b u, H b = some u → b ≠ it := fun b u e z => by rw [z, hn] at e; cases e
  refine I.step (g' := s.gens) (d' := s.drawn) (ch := [it]) (fun b hb => ?_) (fun b o _ _ hc e _ => k b o (fun z => hc (by simp [z])) e) (fun b o _ _ hc e _ => ⟨o.slots, k b o (fun z => hc (by simp [z])) e⟩) (fun _ _ _ _ n => n)
    (fun b o hc e => ⟨o, k b o (fun z => hc (by simp [z])) e⟩) (fun _ _ e => e) (fun _ _ _ e => e) (fun b ps e => ⟨#[], by rw [e]; simp⟩) (fun m hm => ?_) (fun b u e => ?_) I.bare
  · have e : b = it := by simpa using hb
    subst e
    exact ⟨h1, hL, h2, h3⟩
  · obtain ⟨o, es, ep, ho, r⟩ := hm
    exact ⟨o, es, ep, k _ o (Ne.symm hL) ho, r⟩
  · refine (I.hok b u e).stay (fun c v hc q => k c v ?_ q) (fun _ q => q) fun _ _ q => q
    rcases hc with z | z
    · rw [z]; exact nit b u e
    · exact nit c _ z
theorem Inv.tok (I : Inv X pins σ H s) (t : Nat) : Inv X pins σ H { s with toks := t } := I.un (h' := s.heap) (t' := t) Un.refl I.hok
/-- all objects kept -/
theorem Inv.kept {t' : Nat} (I : Inv X pins σ H s) (k : ∀ b u, s.heap.get? b = some u → h'.get? b = some u) : Inv X pins σ H { s with heap := h', toks := t' } := I.un (Un.kept k) (I.hok.kept k)
/-- a new object laid and tracked -/
theorem Inv.laid {a : Addr} {o : HO} {t' : Nat} (I : Inv X pins σ H s) (k : ∀ b u, s.heap.get? b = some u → h'.get? b = some u) (hp : s.heap.objs.size ≤ a) (new : ObjOk X.prog X.w (upd H a o) h' a o) :
    Inv X pins σ (upd H a o) { s with heap := h', toks := t' } := I.un (Un.laid k hp (I.hok.fresh hp)) (I.hok.laid k hp new)
/-- an object written -/
theorem Inv.write {x e : Addr} {o : HO} {t' : Nat} (I : Inv X pins σ H s) (mu : Mut (H x)) (he : e = x ∨ H e = some (.own x)) (k : ∀ b u, b ≠ e → s.heap.get? b = some u → h'.get? b = some u) (heo : ∃ u, h'.get? e = some u)
    (new : ObjOk X.prog X.w (upd H x o) h' x o) : Inv X pins σ (upd H x o) { s with heap := h', toks := t' } := I.un (Un.write mu he k heo) (I.hok.write mu he k heo new)
theorem Inv.pins_of {pins' : List (Addr × Obj)} (I : Inv X pins σ H s) (h : ∀ p ∈ pins', s.heap.get? p.1 = some p.2 ∧ H p.1 = none ∧ p.1 ≠ X.env.locals ∧ p.1 ∉ X.fs ∧ ∀ v, p.2.data ≠ .cell v) : Inv X pins' σ H s :=
  ⟨I.ok, I.os, I.bare, I.base, I.loc, I.cell, I.free, I.freeC, fun p hp => (List.mem_append.mp hp).elim (fun z => I.pin p (List.mem_append_left _ z)) (h p), I.hok, I.len⟩
theorem nodup_ix {N : List Str} (hN : N.Nodup) {i j : Nat} {x : Str} (a : N[i]? = some x) (b : N[j]? = some x) : i = j := by
  obtain ⟨h1, e1⟩ := List.getElem?_eq_some_iff.mp a
  obtain ⟨h2, e2⟩ := List.getElem?_eq_some_iff.mp b
  exact (List.getElem_inj hN).mp (e1.trans e2.symm)
/-- a name is stored; what changed -/
theorem store_ok2 {M : Model} {A : Around} {E : Value → Shared → Prop} {i : Nat} {x : Str} {v : V} {u : Value} {Q : Unit → Shared → Prop} (I : Inv X pins σ H s) (hN : X.N.Nodup) (hi : X.N[i]? = some x) (hx : Loc X.env.scope x) (r : RelV v u)
    (h : ∀ s', Inv X pins (σ.set i (some v)) H s' → (∃ a, Heap.SameBut a s.heap s'.heap ∧ (a = X.env.locals ∨ X.env.cells.lookup x = some a)) → Q () s') (hf : X.fn x = true ∨ X.env.scope.names.lookup x = some .local := by first | exact .inl rfl | exact .inr rfl | assumption) : wpAny M A (storeName X.env x u) Q E s := by
  obtain ⟨m, hn, hl⟩ := id I.loc
  have hcls : (X.env.scope.kind == .class || (X.env.scope.kind == .module && X.env.locals != X.env.globals)) = false := by rw [I.ok.kind]; rfl
  have hiσ : i < σ.length := by rw [I.len]; exact (List.getElem?_eq_some_iff.mp hi).1
  have cne := I.cne
  have tracked : ∀ {a : Addr} {h' : Heap}, (∃ o, s.heap.get? a = some o ∧ H a = none) → Heap.SameBut a s.heap h' → HOk X.prog X.w H h' := fun {a h'} ha hs b ob e => by
    obtain ⟨_, _, hfree⟩ := ha
    refine (I.hok b ob e).stay (fun c w' hc q => (hs.2 c ?_).trans q) (fun _ q => q) fun _ _ q => q
    rintro rfl
    rcases hc with rfl | hc
    · rw [hfree] at e; cases e
    · rw [hfree] at hc; cases hc
  rcases hx with hk | hk
  · refine wpAny_storeName_local hk hn (fun h' hn' hs => ?_) hcls
    obtain ⟨oL, _, _, hoL, _⟩ := id hn
    refine h _ ⟨I.ok, I.os, I.bare, ⟨fun b o e n hb hx => ?_, fun b o e n hb hx => ?_, I.base.free, fun b o e hx => ?_, I.base.tups, I.base.frzs, I.base.tbls⟩, ⟨_, hn', fun j y v' e1 e2 e3 => ?_⟩, fun y c e => ?_, I.free, I.freeC, fun p hp => ?_, tracked ⟨oL, hoL, I.free⟩ hs, by simpa using I.len⟩ ⟨_, hs, .inl rfl⟩
    · exact (hs.2 b (Nat.ne_of_lt (Nat.lt_of_lt_of_le (Heap.lt_size e) I.ok.above))).trans (I.base.keep b o e n hb hx)
    · obtain ⟨sl, e1⟩ := I.base.slot b o e n hb hx
      exact ⟨sl, (hs.2 b (Nat.ne_of_lt (Nat.lt_of_lt_of_le (Heap.lt_size e) I.ok.above))).trans e1⟩
    · obtain ⟨o', e1⟩ := I.base.there b o e hx
      exact ⟨o', (hs.2 b (Nat.ne_of_lt (Nat.lt_of_lt_of_le (Heap.lt_size e) I.ok.above))).trans e1⟩
    · by_cases hj : j = i
      · subst hj
        rw [hi] at e1; cases e1
        rw [List.getElem?_set_self hiσ] at e2
        cases e2
        exact ⟨u, r, .inl ⟨hk, by simp⟩⟩
      · rw [List.getElem?_set_ne (Ne.symm hj)] at e2
        obtain ⟨u', r', q⟩ := hl j y v' e1 e2 e3
        refine ⟨u', r', ?_⟩
        rcases q with ⟨k, e⟩ | ⟨k, c, e, z⟩
        · refine .inl ⟨k, ?_⟩
          have : y ≠ x := fun e => hj (nodup_ix hN e1 (e ▸ hi))
          simp [this, e]
        · exact .inr ⟨k, c, e, z.sameBut hs (cne y c e)⟩
    · obtain ⟨w', z⟩ := I.cell y c e
      exact ⟨w', z.sameBut hs (cne y c e)⟩
    · obtain ⟨e, n, ne, nf, d⟩ := I.pin p hp
      exact ⟨(hs.2 p.1 ne).trans e, n, ne, nf, d⟩
  · have hfn : X.fn x = true := by
      rcases hf with z | z
      · exact z
      · rw [z] at hk; cases hk
    obtain ⟨c, hc⟩ := I.ok.has x (.inl hk)
    obtain ⟨w', z⟩ := I.cell x c hc
    refine wpAny_storeName_cell I.ok.kind hk hc z (fun h' hc' hs => ?_)
    obtain ⟨oc, hoc, hocd⟩ := id z
    refine h { s with heap := h' } ⟨I.ok, I.os, I.bare, ⟨fun b o e n hb hx => ?_, fun b o e n hb hx => ?_, I.base.free, fun b o e hx => ?_, I.base.tups, I.base.frzs, I.base.tbls⟩, ⟨m, hn.sameBut hs (Ne.symm (cne x c hc)), fun j y v' e1 e2 e3 => ?_⟩, fun y c' e => ?_, I.free, I.freeC, fun p hp => ?_, tracked ⟨oc, hoc, I.freeC x c hc⟩ hs, by simpa using I.len⟩ ⟨c, hs, .inr hc⟩
    · exact (hs.2 b (Nat.ne_of_lt (Nat.lt_of_lt_of_le (Heap.lt_size e) (I.ok.cab x c hfn hc)))).trans (I.base.keep b o e n hb hx)
    · obtain ⟨sl, e1⟩ := I.base.slot b o e n hb hx
      exact ⟨sl, (hs.2 b (Nat.ne_of_lt (Nat.lt_of_lt_of_le (Heap.lt_size e) (I.ok.cab x c hfn hc)))).trans e1⟩
    · obtain ⟨o', e1⟩ := I.base.there b o e hx
      exact ⟨o', (hs.2 b (Nat.ne_of_lt (Nat.lt_of_lt_of_le (Heap.lt_size e) (I.ok.cab x c hfn hc)))).trans e1⟩
    · by_cases hj : j = i
      · subst hj
        rw [hi] at e1; cases e1
        rw [List.getElem?_set_self hiσ] at e2
        cases e2
        exact ⟨u, r, .inr ⟨.inl hk, c, hc, hc'⟩⟩
      · rw [List.getElem?_set_ne (Ne.symm hj)] at e2
        obtain ⟨u', r', q⟩ := hl j y v' e1 e2 e3
        refine ⟨u', r', ?_⟩
        rcases q with q | ⟨k, c', e, z'⟩
        · exact .inl q
        · refine .inr ⟨k, c', e, z'.sameBut hs ?_⟩
          rintro rfl
          exact hj (nodup_ix hN e1 (I.ok.inj _ _ _ e hc ▸ hi))
    · by_cases hcc : c' = c
      · subst hcc; exact ⟨_, hc'⟩
      · obtain ⟨w2, z2⟩ := I.cell y c' e
        exact ⟨w2, z2.sameBut hs hcc⟩
    · obtain ⟨e, n, ne, nf, d⟩ := I.pin p hp
      refine ⟨(hs.2 p.1 ?_).trans e, n, ne, nf, d⟩
      intro q
      rw [q, hoc] at e
      have q' : oc = p.2 := Option.some.inj e
      exact d w' (by rw [← q']; exact hocd)
theorem store_ok {M : Model} {A : Around} {E : Value → Shared → Prop} {i : Nat} {x : Str} {v : V} {u : Value} {Q : Unit → Shared → Prop} (I : Inv X pins σ H s) (hN : X.N.Nodup) (hi : X.N[i]? = some x) (hx : Loc X.env.scope x) (r : RelV v u)
    (h : ∀ s', Inv X pins (σ.set i (some v)) H s' → Q () s') (hf : X.fn x = true ∨ X.env.scope.names.lookup x = some .local := by first | exact .inl rfl | exact .inr rfl | assumption) : wpAny M A (storeName X.env x u) Q E s :=
  store_ok2 I hN hi hx r (fun s' I' _ => h s' I') hf
/-- behind a call or a block, the state as it is -/
theorem Inv.call' {s' : Shared} {ch : List Addr} (I : Inv X pins σ H s) (ho : s'.os = s.os) (u : Un (frs X.stack) ch H H' s.heap s'.heap) (hok : HOk X.prog X.w H' s'.heap) (hg : AllBare s'.gens)
    (hch : ∀ b ∈ ch, (b ∈ X.ex ∨ X.s₀.heap.objs.size ≤ b) ∧ b ≠ X.env.locals ∧ (∀ x c, X.env.cells.lookup x = some c → c ≠ b) ∧ ∀ p ∈ X.pn ++ pins, p.1 ≠ b) : Inv X pins σ H' s' := by
  obtain ⟨h', g', d', t', o'⟩ := s'
  have e : o' = s.os := ho
  subst e
  exact I.call (g' := g') (t' := t') (d' := d') u hok hg hch
end
/-! ### the judgements -/
/-- an exception: its class, its own dict's address (where it has one), the abstract heap behind it -/
abbrev XK := Value → Option Addr → Hp → Prop
abbrev St := List (Option V)
abbrev VK := V → Hp → Prop
/-- an expression's reading; a test's; an argument list's -/
abbrev TE := St → Hp → VK → Prop
abbrev TT := St → Hp → (Bool → Hp → Prop) → Prop
abbrev TA := St → Hp → (List V → Hp → Prop) → Prop
/-- what is wanted behind a statement -/
structure Ends where
  nx : St → Hp → Prop
  rt : VK
  bk : St → Hp → Prop := fun _ _ => False
  ct : St → Hp → Prop := fun _ _ => False
abbrev TS := Ends → St → Hp → Prop
def EP (X : Cx) (pins : List (Addr × Obj)) (σ : St) (Q : VK) (u : Value) (s' : Shared) : Prop := ∃ v H', Inv X pins σ H' s' ∧ RelV v u ∧ Q v H'
def TP (X : Cx) (pins : List (Addr × Obj)) (σ : St) (Q : Bool → Hp → Prop) (b : Bool) (s' : Shared) : Prop := ∃ H', Inv X pins σ H' s' ∧ Q b H'
def AP (X : Cx) (pins : List (Addr × Obj)) (σ : St) (Q : List V → Hp → Prop) (us : List Value) (s' : Shared) : Prop := ∃ vs H', Inv X pins σ H' s' ∧ Vals vs us ∧ Q vs H'
def SP (X : Cx) (pins : List (Addr × Obj)) (D : Ends) (f : Flow) (s' : Shared) : Prop :=
  match f with
  | .next => ∃ σ' H', Inv X pins σ' H' s' ∧ D.nx σ' H'
  | .brk => ∃ σ' H', Inv X pins σ' H' s' ∧ D.bk σ' H'
  | .cont => ∃ σ' H', Inv X pins σ' H' s' ∧ D.ct σ' H'
  | .ret u => ∃ v σ' H', Inv X pins σ' H' s' ∧ RelV v u ∧ D.rt v H'
def PE (X : Cx) (e : Expr) (t : TE) : Prop :=
  ∀ (pins : List (Addr × Obj)) (s : Shared) (σ : St) (H : Hp) (Q : VK), Inv X pins σ H s → t σ H Q → wpAny (model X.prog X.w) X.A (eval e X.env) (EP X pins σ Q) X.xe s
def PT (X : Cx) (e : Expr) (t : TT) : Prop :=
  ∀ (pins : List (Addr × Obj)) (s : Shared) (σ : St) (H : Hp) (Q : Bool → Hp → Prop), Inv X pins σ H s → t σ H Q → wpAny (model X.prog X.w) X.A (isTrue e X.env (eval e X.env)) (TP X pins σ Q) X.xe s
/-- a test whatever its 'whole' is (and, or) -/
def PW (X : Cx) (e : Expr) (t : TT) : Prop :=
  ∀ (whole : Sem Value) (pins : List (Addr × Obj)) (s : Shared) (σ : St) (H : Hp) (Q : Bool → Hp → Prop), Inv X pins σ H s → t σ H Q → wpAny (model X.prog X.w) X.A (isTrue e X.env whole) (TP X pins σ Q) X.xe s
theorem PW.pt {X : Cx} {e : Expr} {t : TT} (h : PW X e t) : PT X e t := h _
/-- an argument list (no star), from the left -/
def PA (X : Cx) (es : List Expr) (t : TA) : Prop :=
  ∀ (pos : Pos) (pins : List (Addr × Obj)) (s : Shared) (σ : St) (H : Hp) (Q : List V → Hp → Prop), Inv X pins σ H s → t σ H Q → wpAny (model X.prog X.w) X.A (spliced (backTo pos (starEach es X.env))) (AP X pins σ Q) X.xe s
def PS (X : Cx) (st : Stmt) (t : TS) : Prop :=
  ∀ (pins : List (Addr × Obj)) (s : Shared) (σ : St) (H : Hp) (D : Ends), Inv X pins σ H s → t D σ H → wpAny (model X.prog X.w) X.A (exec st X.env) (SP X pins D) X.xe s
def PSs (X : Cx) (st : List Stmt) (t : TS) : Prop :=
  ∀ (pins : List (Addr × Obj)) (s : Shared) (σ : St) (H : Hp) (D : Ends), Inv X pins σ H s → t D σ H → wpAny (model X.prog X.w) X.A (execs st X.env) (SP X pins D) X.xe s
/-- weaken the end -/
theorem thn {α : Type} {t : Sem α} {Q Q' : α → Shared → Prop} {M : Model} {A : Around} {E : Value → Shared → Prop} {s : Shared} (h : wpAny M A t Q E s) (hQ : ∀ a s, Q a s → Q' a s) : wpAny M A t Q' E s := wpAny_mono h hQ fun _ _ x => x
end L2
namespace L2
open PySem PySem.Spec PyProof.Rows
section
variable {X : Cx}
/-- two expressions in a row -/
theorem bin {a b : Expr} {ta tb : TE} (ha : PE X a ta) (hb : PE X b tb) {pins : List (Addr × Obj)} {s : Shared} {σ : St} {H : Hp} {R : V → V → Hp → Prop} (I : Inv X pins σ H s) (h : ta σ H fun x H1 => tb σ H1 fun y H2 => R x y H2)
    {α : Type} {Q : α → Shared → Prop} {f : Value → Value → Sem α}
    (hf : ∀ v u s2 x y H2, Inv X pins σ H2 s2 → RelV x v → RelV y u → R x y H2 → wpAny (model X.prog X.w) X.A (f v u) Q X.xe s2) :
    wpAny (model X.prog X.w) X.A (eval a X.env) (fun v s₁ => wpAny (model X.prog X.w) X.A (eval b X.env) (fun u s₂ => wpAny (model X.prog X.w) X.A (f v u) Q X.xe s₂) X.xe s₁) X.xe s := by
  refine thn (ha pins s σ H _ I h) fun v s1 ⟨x, H1, I1, r1, q1⟩ => ?_
  refine thn (hb pins s1 σ H1 _ I1 q1) fun u s2 ⟨y, H2, I2, r2, q2⟩ => ?_
  exact hf v u s2 x y H2 I2 r1 r2 q2
/-! ### names and constants -/
def tVar (i : Nat) : TE := fun σ H Q => ∃ v, σ[i]? = some (some v) ∧ Q v H
def tC (v : V) : TE := fun _ H Q => Q v H
theorem pe_var {i : Nat} {x : Str} {pos : Pos} (hN : X.N[i]? = some x) (hv : Vis X.env.scope x) (hd : (x == ("__debug__" : Str)) = false := by decide) (hcd : (x == ("__classdict__" : Str)) = false := by decide) : PE X (.Name x pos) (tVar i) := by
  intro pins s σ H Q I h
  obtain ⟨v, e, h⟩ := h
  obtain ⟨m, hn, hl⟩ := I.loc
  obtain ⟨u, r, l⟩ := hl i x v hN e hv
  have fin : EP X pins σ Q u s := ⟨v, H, I, r, h⟩
  rcases l with ⟨hk, hm⟩ | ⟨hk, c, hc, hcell⟩
  · exact wpAny_Name (wpAny_loadName_local I.ok.kind hk hn hm fin) hd
  · rcases hk with hk | hk
    · exact wpAny_Name (wpAny_loadName_cell I.ok.kind hk hc hcell fin) hd
    · exact wpAny_Name (wpAny_loadName_free I.ok.kind hk hc hcell fin hcd) hd
theorem pe_int {i j pos} : PE X (.Constant (.int i) j pos) (tC (.int i)) := fun _ _ _ H _ I h => wpAny_Constant_int ⟨.int i, H, I.tok _, ⟨_, rfl⟩, h⟩
theorem pe_bl {b j pos} : PE X (.Constant (.bool b) j pos) (tC (.bl b)) := fun _ _ _ H _ I h => Constant_bool ⟨.bl b, H, I, rfl, h⟩
theorem pe_non {j pos} : PE X (.Constant .none j pos) (tC .non) := fun _ _ _ H _ I h => Constant_none ⟨.non, H, I, rfl, h⟩
/-- a global name of the def -/
def Gl (X : Cx) (x : Str) : Prop := X.env.kindOf x = some .globalImplicit
theorem ld_glob {E : Value → Shared → Prop} {pins : List (Addr × Obj)} {s : Shared} {σ : St} {H : Hp} {x : Str} {u : Value} {pos : Pos} {Q : Value → Shared → Prop} (I : Inv X pins σ H s) (hg : Gl X x) (hm : X.mg x = some u) (h : Q u s)
    (hd : (x == ("__debug__" : Str)) = false := by decide) : wpAny (model X.prog X.w) X.A (eval (.Name x pos) X.env) Q E s :=
  Calls.Name_function_global I.ok.kind hg (Calls.loadGlobal_global (by rw [I.ok.glob]; exact I.mod.glob.keeps I.bk) hm h) hd
theorem ld_blt {E : Value → Shared → Prop} {pins : List (Addr × Obj)} {s : Shared} {σ : St} {H : Hp} {x : Str} {u : Value} {pos : Pos} {Q : Value → Shared → Prop} (I : Inv X pins σ H s) (hg : Gl X x) (hm : X.mg x = none) (hv : bootBuiltins x = some u) (h : Q u s)
    (hn : x ≠ "__name__" := by decide) (hd : (x == ("__debug__" : Str)) = false := by decide) : wpAny (model X.prog X.w) X.A (eval (.Name x pos) X.env) Q E s := by
  obtain ⟨mb, h1, h2⟩ := I.mod.blt
  exact Calls.Name_function_global I.ok.kind hg (Calls.loadGlobal_builtin (by rw [I.ok.glob]; exact I.mod.glob.keeps I.bk) hm (by rw [I.ok.blt]; exact h1.keeps I.bk) ((h2 x hn).trans hv) h) hd
/-- a module's constant, a class, a function, as a value -/
theorem pe_glob {x : Str} {v : V} {u : Value} {pos : Pos} (hg : Gl X x) (hm : X.mg x = some u) (r : RelV v u) (hd : (x == ("__debug__" : Str)) = false := by decide) : PE X (.Name x pos) (tC v) :=
  fun _ _ _ H _ I h => ld_glob I hg hm ⟨v, H, I, r, h⟩ hd
theorem pe_bltn {x : Str} {v : V} {u : Value} {pos : Pos} (hg : Gl X x) (hm : X.mg x = none) (hv : bootBuiltins x = some u) (r : RelV v u) (hn : x ≠ "__name__" := by decide) (hd : (x == ("__debug__" : Str)) = false := by decide) : PE X (.Name x pos) (tC v) :=
  fun _ _ _ H _ I h => ld_blt I hg hm hv ⟨v, H, I, r, h⟩ hn hd
/-! ### arithmetic -/
variable {a b : Expr} {ta tb : TE} {pos : Pos}
/-! ### comparisons -/
def PC (X : Cx) (op : CmpOp) (a b : Expr) (t : TE) : Prop :=
  ∀ (pins : List (Addr × Obj)) (s : Shared) (σ : St) (H : Hp) (Q : VK), Inv X pins σ H s → t σ H Q →
    wpAny (model X.prog X.w) X.A (eval a X.env) (fun v s₁ => wpAny (model X.prog X.w) X.A (eval b X.env) (fun u s₂ => wpAny (model X.prog X.w) X.A (compareOp op v u) (EP X pins σ Q) X.xe s₂) X.xe s₁) X.xe s
theorem nobehind (b : Expr) {op : CmpOp} (h : op ≠ .In) (h2 : op ≠ .NotIn) : behindInMarks op b = false := by
  have e1 : (op == CmpOp.In) = false := by cases op <;> first | rfl | exact absurd rfl h
  have e2 : (op == CmpOp.NotIn) = false := by cases op <;> first | rfl | exact absurd rfl h2
  cases b <;> simp [behindInMarks, e1, e2]
/-- a comparison as a value, as a test -/
def tB (t : TE) : TT := fun σ H Q => t σ H fun x H1 => ∃ c, x = .bl c ∧ Q c H1
theorem pt_cmp {op : CmpOp} {t : TE} (h : PC X op a b t) (h1 : behindInMarks op b = false := by first | exact nobehind _ (by decide) (by decide) | rfl) : PT X (.Compare a [op] [b] pos) (tB t) := by
  intro pins s σ H Q I hw
  refine wpAny_isTrue_Compare1 (thn (h pins s σ H _ I hw) fun v s1 h1 => thn h1 fun u s2 h2 => thn h2 fun c s3 ⟨x, H1, I1, r1, q1⟩ => ?_) h1
  obtain ⟨d, rfl, q⟩ := q1
  cases r1
  exact wpAny_truthy_bool ⟨H1, I1, q⟩
/-! ### and, or, not -/
variable {tA tB' : TT} {rest : List Expr}
def tAnd (t u : TT) : TT := fun σ H Q => t σ H fun c H1 => if c = true then u σ H1 Q else Q false H1
def tOr (t u : TT) : TT := fun σ H Q => t σ H fun c H1 => if c = true then Q true H1 else u σ H1 Q
def tNot (t : TT) : TT := fun σ H Q => t σ H fun c H1 => Q (!c) H1
theorem pw_and1 (ha : PT X a tA) : PW X (.BoolOp .And [a] pos) tA := by
  intro wh pins s σ H Q I h
  refine isTrue_and (thn (ha pins s σ H Q I h) fun c s1 e => ?_)
  cases c with
  | true => exact isTrue_and_nil e
  | false => exact e
theorem pw_or1 (ha : PT X a tA) : PW X (.BoolOp .Or [a] pos) tA := by
  intro wh pins s σ H Q I h
  refine isTrue_or (thn (ha pins s σ H Q I h) fun c s1 e => ?_)
  cases c with
  | false => exact isTrue_or_nil e
  | true => exact e
theorem pw_and (ha : PT X a tA) (hb : PW X (.BoolOp .And (b :: rest) pos) tB') : PW X (.BoolOp .And (a :: b :: rest) pos) (tAnd tA tB') := by
  intro wh pins s σ H Q I h
  refine isTrue_and (thn (ha pins s σ H _ I h) fun c s1 ⟨H1, I1, q1⟩ => ?_)
  cases c with
  | true => exact hb wh pins s1 σ H1 Q I1 q1
  | false => exact ⟨H1, I1, q1⟩
theorem pw_or (ha : PT X a tA) (hb : PW X (.BoolOp .Or (b :: rest) pos) tB') : PW X (.BoolOp .Or (a :: b :: rest) pos) (tOr tA tB') := by
  intro wh pins s σ H Q I h
  refine isTrue_or (thn (ha pins s σ H _ I h) fun c s1 ⟨H1, I1, q1⟩ => ?_)
  cases c with
  | true => exact ⟨H1, I1, q1⟩
  | false => exact hb wh pins s1 σ H1 Q I1 q1
theorem pt_not (ha : PT X a tA) : PT X (.UnaryOp .Not a pos) (tNot tA) := by
  intro pins s σ H Q I h
  exact isTrue_not (ha pins s σ H (fun c H1 => Q (!c) H1) I h)
/-- .. as values (bools) -/
def tAndV (ta tb : TE) : TE := fun σ H Q => ta σ H fun x H1 => ∃ c, x = .bl c ∧ if c = true then tb σ H1 Q else Q (.bl false) H1
def tNotV (ta : TE) : TE := fun σ H Q => ta σ H fun x H1 => ∃ c, x = .bl c ∧ Q (.bl (!c)) H1
theorem pe_one {op} {t : TE} (h : PE X a t) : PE X (.BoolOp op [a] pos) t := fun pins s σ H Q I hw => BoolOp_one (h pins s σ H Q I hw)
theorem pe_and (ha : PE X a ta) (hb : PE X (.BoolOp .And (b :: rest) pos) tb) : PE X (.BoolOp .And (a :: b :: rest) pos) (tAndV ta tb) := by
  intro pins s σ H Q I h
  refine BoolOp_and (thn (ha pins s σ H _ I h) fun v s1 ⟨x, H1, I1, r1, q1⟩ => ?_)
  obtain ⟨c, rfl, q1⟩ := q1
  cases r1
  refine wpAny_truthy_bool ?_
  cases c with
  | true => exact hb pins s1 σ H1 Q I1 q1
  | false => exact ⟨.bl false, H1, I1, rfl, q1⟩
theorem pe_not (ha : PE X a ta) : PE X (.UnaryOp .Not a pos) (tNotV ta) := by
  intro pins s σ H Q I h
  refine UnaryOp_ (thn (ha pins s σ H _ I h) fun v s1 ⟨x, H1, I1, r1, q1⟩ => ?_)
  obtain ⟨c, rfl, q1⟩ := q1
  cases r1
  exact not_of (wpAny_truthy_bool ⟨.bl (!c), H1, I1, rfl, q1⟩)
end
end L2
namespace L2
open PySem PySem.Spec PyProof.Rows
/-! ### a list, a tuple that is read: tracked, frozen, or an object of the module -/
def SqL (K : PySem.W.Frag) (H : Hp) (a : Addr) (xs : List V) : Prop :=
  Rd H a (.lst xs) ∨
    ∃ (o : Obj) (its : Array Value) (n : Nat), K.lookup a = some o ∧ o.cls = .type "list" ∧ o.dict = none ∧ o.data = .seq its n ∧ its.size ≤ sizeLine ∧ Vals xs its.toList
def SqT (K : PySem.W.Frag) (H : Hp) (a : Addr) (xs : List V) : Prop :=
  Rd H a (.tup xs) ∨
    ∃ (o : Obj) (its : Array Value) (n : Nat), K.lookup a = some o ∧ o.cls = .type "tuple" ∧ o.data = .seq its n ∧ its.size ≤ sizeLine ∧ Vals xs its.toList
def absV : Value → Option V
  | .none => some .non
  | .bool b => some (.bl b)
  | .int i _ => some (.int i)
  | .str x _ => some (.str x)
  | .bytes b _ => some (.byt b)
  | .float b _ => some (.flt b)
  | .ref a => some (.ref a)
  | .type n => some (.ty n)
  | _ => none
theorem RelV.abs {x : V} {u : Value} (r : RelV x u) : absV u = some x := by
  cases x with
  | non => cases r; rfl
  | bl _ => cases r; rfl
  | int _ => obtain ⟨t, rfl⟩ := r; rfl
  | str _ => obtain ⟨t, rfl⟩ := r; rfl
  | byt _ => obtain ⟨t, rfl⟩ := r; rfl
  | flt _ => obtain ⟨t, rfl⟩ := r; rfl
  | ref _ => cases r; rfl
  | ty _ => cases r; rfl
theorem RelV.inj {x y : V} {u : Value} (r : RelV x u) (q : RelV y u) : x = y := Option.some.inj (r.abs.symm.trans q.abs)
theorem Vals.inj : ∀ {xs ys : List V} {us : List Value}, Vals xs us → Vals ys us → xs = ys
  | _, _, _, .nil, .nil => rfl
  | _, _, _, .cons r t, .cons r' t' => by rw [r.inj r', Vals.inj t t']
section
variable {X : Cx} {pins : List (Addr × Obj)} {σ : St} {H : Hp} {s : Shared} {a : Addr} {xs ys : List V}
theorem SqL.of {K : PySem.W.Frag} (h : H a = some (.lst xs)) : SqL K H a xs := .inl (.inl h)
theorem SqT.of {K : PySem.W.Frag} (h : H a = some (.tup xs)) : SqT K H a xs := .inl (.inl h)
theorem Inv.list (I : Inv X pins σ H s) (h : SqL X.K H a xs) : ∃ its : List Value, Vals xs its ∧ PlainL s.heap a its.toArray ∧ xs.length ≤ sizeLine := by
  rcases h with h | ⟨o, its, n, hk, hc, hd, hs, hz, r⟩
  · obtain ⟨z, its, n, r, e⟩ := h.ok I.hok
    exact ⟨its, r, ⟨_, n, e, rfl, rfl, rfl⟩, z⟩
  · refine ⟨its.toList, r, ⟨o, n, I.kIn a o hk, hc, hd, by simpa using hs⟩, ?_⟩
    have e := r.length
    simp only [Array.length_toList] at e
    omega
theorem Inv.tuple (I : Inv X pins σ H s) (h : SqT X.K H a xs) : ∃ its : List Value, Vals xs its ∧ IsTup s.heap a its.toArray ∧ xs.length ≤ sizeLine := by
  rcases h with h | ⟨o, its, n, hk, hc, hs, hz, r⟩
  · obtain ⟨z, its, r, p⟩ := h.ok I.hok
    exact ⟨its, r, p, z⟩
  · refine ⟨its.toList, r, ⟨o, I.kIn a o hk, hc, n, by simpa using hs⟩, ?_⟩
    have e := r.length
    simp only [Array.length_toList] at e
    omega
theorem Inv.list_inj (I : Inv X pins σ H s) (h : SqL X.K H a xs) (h' : SqL X.K H a ys) : xs = ys := by
  obtain ⟨its, r, ⟨o, n, e, _, _, d⟩, _⟩ := I.list h
  obtain ⟨its', r', ⟨o', n', e', _, _, d'⟩, _⟩ := I.list h'
  rw [e] at e'; cases e'
  rw [d] at d'
  injection d' with d1 _
  have : its = its' := by simpa using congrArg Array.toList d1
  subst this
  exact r.inj r'
end
/-! ### another wish about exceptions -/
abbrev Cx.wish (X : Cx) (E : Value → Shared → Prop) : Cx := { X with xe := E }
/-- no exception leaves -/
abbrev Cx.nox (X : Cx) : Cx := X.wish fun _ _ => False
theorem Cx.Ok.wish {X : Cx} (ok : X.Ok) (E : Value → Shared → Prop) : (X.wish E).Ok :=
  ⟨ok.mod, ok.kind, ok.glob, ok.blt, ok.above, ok.inj, ok.has, ok.cab, ok.hd, ok.frames, ok.stk, ok.exf, ok.bs, ok.bsz, ok.noex, ok.exfs, ok.funs, ok.frf⟩
theorem Cx.Ok.unwish {X : Cx} {E : Value → Shared → Prop} (ok : (X.wish E).Ok) : X.Ok :=
  ⟨ok.mod, ok.kind, ok.glob, ok.blt, ok.above, ok.inj, ok.has, ok.cab, ok.hd, ok.frames, ok.stk, ok.exf, ok.bs, ok.bsz, ok.noex, ok.exfs, ok.funs, ok.frf⟩
section
variable {X : Cx} {pins : List (Addr × Obj)} {σ : St} {H : Hp} {s : Shared} {E : Value → Shared → Prop}
theorem Inv.wish (I : Inv X pins σ H s) (E : Value → Shared → Prop) : Inv (X.wish E) pins σ H s := ⟨I.ok.wish E, I.os, I.bare, I.base, I.loc, I.cell, I.free, I.freeC, I.pin, I.hok, I.len⟩
theorem Inv.unwish (I : Inv (X.wish E) pins σ H s) : Inv X pins σ H s := ⟨I.ok.unwish, I.os, I.bare, I.base, I.loc, I.cell, I.free, I.freeC, I.pin, I.hok, I.len⟩
theorem SP.unwish {D : Ends} {f : Flow} {s' : Shared} (h : SP (X.wish E) pins D f s') : SP X pins D f s' := by
  cases f with
  | next => obtain ⟨σ', H', I, q⟩ := h; exact ⟨σ', H', I.unwish, q⟩
  | brk => obtain ⟨σ', H', I, q⟩ := h; exact ⟨σ', H', I.unwish, q⟩
  | cont => obtain ⟨σ', H', I, q⟩ := h; exact ⟨σ', H', I.unwish, q⟩
  | ret u => obtain ⟨v, σ', H', I, r, q⟩ := h; exact ⟨v, σ', H', I.unwish, r, q⟩
theorem PE.nox {e : Expr} {t : TE} (h : PE X.nox e t) : PE X e t := fun pins s σ H Q I hw =>
  wpAny_mono (h pins s σ H Q (I.wish _) hw) (fun _ _ ⟨v, H', I', r, q⟩ => ⟨v, H', I'.unwish, r, q⟩) fun _ _ z => False.elim z
theorem PT.nox {e : Expr} {t : TT} (h : PT X.nox e t) : PT X e t := fun pins s σ H Q I hw =>
  wpAny_mono (h pins s σ H Q (I.wish _) hw) (fun _ _ ⟨H', I', q⟩ => ⟨H', I'.unwish, q⟩) fun _ _ z => False.elim z
theorem PSs.nox {st : List Stmt} {t : TS} (h : PSs X.nox st t) : PSs X st t := fun pins s σ H D I hw =>
  wpAny_mono (h pins s σ H D (I.wish _) hw) (fun _ _ q => q.unwish) fun _ _ z => False.elim z
end
/-! ### blocks and small statements -/
section
variable {X : Cx} {st : Stmt} {rest : List Stmt} {t u : TS} {e : Expr} {te : TE} {pos : Pos}
def tNext : TS := fun D σ H => D.nx σ H
def tSeq (t u : TS) : TS := fun D σ H => t { D with nx := u D } σ H
theorem pss_nil : PSs X [] tNext := fun _ _ σ H _ I h => wpAny_execs_nil ⟨σ, H, I, h⟩
theorem pss_cons (h1 : PS X st t) (h2 : PSs X rest u) : PSs X (st :: rest) (tSeq t u) := by
  intro pins s σ H D I h
  refine wpAny_execs_cons (thn (h1 pins s σ H { D with nx := u D } I h) fun f s1 q => ?_)
  cases f with
  | next =>
    obtain ⟨σ', H', I', q⟩ := q
    exact h2 pins s1 σ' H' D I' q
  | ret v => exact q
  | brk => exact q
  | cont => exact q
theorem pss_one (h1 : PS X st t) : PSs X [st] t := by
  intro pins s σ H D I h
  refine wpAny_execs_cons (thn (h1 pins s σ H D I h) fun f s1 q => ?_)
  cases f with
  | next => exact wpAny_execs_nil q
  | ret v => exact q
  | brk => exact q
  | cont => exact q
/-- in a def's body nothing is shown -/
theorem Inv.quiet {pins : List (Addr × Obj)} {σ : St} {H : Hp} {s : Shared} (I : Inv X pins σ H s) : interactive X.env = false := by simp [interactive, I.ok.kind]
/-- an expression whose value is dropped -/
def tDrop (te : TE) : TS := fun D σ H => te σ H fun _ H1 => D.nx σ H1
theorem ps_expr (he : PE X e te) (hs : swapsWith e none pos.line X.env = pure false := by rfl) : PS X (.Expr e pos) (tDrop te) := by
  intro pins s σ H D I h
  exact wpAny_Expr_any (thn (he pins s σ H _ I h) fun v s1 ⟨x, H1, I1, r1, q1⟩ => ⟨σ, H1, I1, q1⟩) I.quiet hs
def tRet (te : TE) : TS := fun D σ H => te σ H D.rt
theorem ps_ret (he : PE X e te) : PS X (.Return (some e) pos) (tRet te) := by
  intro pins s σ H D I h
  exact wpAny_Return_some (thn (he pins s σ H _ I h) fun v s1 ⟨x, H1, I1, r1, q1⟩ => ⟨x, σ, H1, I1, r1, q1⟩)
def tIfS (c : TT) (t u : TS) : TS := fun D σ H => c σ H fun b H1 => if b = true then t D σ H1 else u D σ H1
theorem ps_if {c : Expr} {a b : List Stmt} {tc : TT} (hc : PT X c tc) (ha : PSs X a t) (hb : PSs X b u) : PS X (.If c a b pos) (tIfS tc t u) := by
  intro pins s σ H D I h
  refine wpAny_If (thn (hc pins s σ H _ I h) fun d s1 ⟨H1, I1, q1⟩ => ?_)
  cases d with
  | true => exact ha pins s1 σ H1 D I1 q1
  | false => exact hb pins s1 σ H1 D I1 q1
/-- code that the proof never comes to -/
def tNever : TS := fun _ _ _ => False
theorem ps_never : PS X st tNever := fun _ _ _ _ _ _ h => h.elim
end
/-! ### targets -/
abbrev TG := V → St → Hp → (St → Hp → Prop) → Prop
abbrev TGs := List V → St → Hp → (St → Hp → Prop) → Prop
def PG (X : Cx) (target : Expr) (t : TG) : Prop :=
  ∀ (pins : List (Addr × Obj)) (s : Shared) (σ : St) (H : Hp) (v : V) (u : Value) (Q : St → Hp → Prop), Inv X pins σ H s → RelV v u → t v σ H Q →
    wpAny (model X.prog X.w) X.A (assign target X.env u) (fun _ s' => ∃ σ' H', Inv X pins σ' H' s' ∧ Q σ' H') X.xe s
/-- several targets, one after another -/
def PGs (X : Cx) (ts : List Expr) (t : TGs) : Prop :=
  ∀ (pins : List (Addr × Obj)) (s : Shared) (σ : St) (H : Hp) (vs : List V) (us : List Value) (Q : St → Hp → Prop), Inv X pins σ H s → Vals vs us → t vs σ H Q →
    wpAny (model X.prog X.w) X.A (assignInOrder ((assignEach ts X.env).map (·.2)) us) (fun _ s' => ∃ σ' H', Inv X pins σ' H' s' ∧ Q σ' H') X.xe s
section
variable {X : Cx} {pos : Pos}
def gName (i : Nat) : TG := fun v σ H Q => Q (σ.set i (some v)) H
theorem pg_name {i : Nat} {x : Str} (hN : X.N.Nodup) (hi : X.N[i]? = some x) (hx : Loc X.env.scope x) (hf : X.fn x = true ∨ X.env.scope.names.lookup x = some .local := by first | exact .inl rfl | exact .inr rfl | assumption) : PG X (.Name x pos) (gName i) := by
  intro pins s σ H v u Q I r h
  exact wpAny_assign_Name (store_ok I hN hi hx r (fun s' I' => ⟨_, H, I', h⟩) hf)
def gNil : TGs := fun vs σ H Q => vs = [] ∧ Q σ H
def gCons (t : TG) (u : TGs) : TGs := fun vs σ H Q => ∃ v r, vs = v :: r ∧ t v σ H fun σ' H' => u r σ' H' Q
theorem pgs_nil : PGs X [] gNil := by
  intro pins s σ H vs us Q I r h
  obtain ⟨e, h⟩ := h
  subst e
  cases r
  exact assignInOrder_nil ⟨σ, H, I, h⟩
theorem pgs_cons {e : Expr} {es : List Expr} {t : TG} {u : TGs} (h1 : PG X e t) (h2 : PGs X es u)
    (hs : (assignEach (e :: es) X.env).map (·.2) = assign e X.env :: (assignEach es X.env).map (·.2) := by rfl) : PGs X (e :: es) (gCons t u) := by
  intro pins s σ H vs us Q I r h
  obtain ⟨v, vr, e1, h⟩ := h
  subst e1
  cases r with
  | cons r rr =>
    rw [hs]
    refine assignInOrder_cons (thn (h1 pins s σ H _ _ _ I r h) fun _ s1 ⟨σ1, H1, I1, q1⟩ => ?_)
    exact h2 pins s1 σ1 H1 _ _ Q I1 rr q1
/-- (a, b, ..) = a tuple of that length -/
def gTup (K : PySem.W.Frag) (n : Nat) (t : TGs) : TG := fun v σ H Q => ∃ a xs, v = .ref a ∧ SqT K H a xs ∧ xs.length = n ∧ t xs σ H Q
theorem pg_tup {es : List Expr} {k : Nat} {t : TGs} {n : Nat} (hc : X.calm = true) (h : PGs X es t)
    (hn : (assignEach es X.env).length = n := by rfl) (hst : (assignEach es X.env).findIdx? (·.1) = none := by rfl) : PG X (.Tuple es k pos) (gTup X.K n t) := by
  intro pins s σ H v u Q I r hw
  obtain ⟨a, xs, e1, hq, hl, hw⟩ := hw
  subst e1
  cases r
  obtain ⟨its, rv, ht, hz⟩ := I.tuple hq
  refine assign_Tuple_tuple (I.ok.hd hc) ht (by simp [hn, ← hl, rv.length]) hst fun h' hx => ?_
  have I1 : Inv X pins σ H { s with heap := h' } := I.kept (t' := s.toks) fun b o e => hx b o (Nat.ne_of_lt (Heap.lt_size e)) e
  exact h pins _ σ H xs _ Q I1 (by simpa using rv) hw
/-- target = value -/
def tAsg (te : TE) (g : TG) : TS := fun D σ H => te σ H fun x H1 => g x σ H1 D.nx
/-- name = value -/
theorem ps_set {i : Nat} {x : Str} {e : Expr} {te : TE} {pos' : Pos} (hN : X.N.Nodup) (hi : X.N[i]? = some x) (hx : Loc X.env.scope x) (he : PE X e te) (hs : swapsWith e (some (.Name x pos')) pos.line X.env = pure false := by rfl) (hf : X.fn x = true ∨ X.env.scope.names.lookup x = some .local := by first | exact .inl rfl | exact .inr rfl | assumption) :
    PS X (.Assign [.Name x pos'] e pos) (tAsg te (gName i)) := by
  intro pins s σ H D I h
  refine wpAny_Assign_Name (thn (he pins s σ H _ I h) fun v s1 ⟨y, H1, I1, r1, q1⟩ => ?_) hs
  exact store_ok I1 hN hi hx r1 (fun s2 I2 => ⟨_, H1, I2, q1⟩) hf
end
/-! ### while -/
section
variable {X : Cx} {pos : Pos}
/-- the invariant W with its measure -/
def tWhile (c : TT) (tb : TS) : TS := fun D σ H => ∃ W : Nat → St → Hp → Prop, (∃ m, W m σ H) ∧ ∀ m σ H, W m σ H →
  c σ H fun b H1 => if b = true then ∃ N : St → Hp → Prop, (∀ σ' H', N σ' H' → ∃ m', m' < m ∧ W m' σ' H') ∧ tb { D with nx := N, ct := N, bk := D.nx } σ H1 else D.nx σ H1
theorem ps_while {c : Expr} {body : List Stmt} {tc : TT} {tb : TS} (hp : PassesOwn (model X.prog X.w) X.A X.env X.xe) (hc : PT X c tc) (hb : PSs X body tb) : PS X (.While c body [] pos) (tWhile tc tb) := by
  intro pins s σ H D I h
  obtain ⟨W, ⟨m0, w0⟩, turn⟩ := h
  refine wpAny_While (codeAny_whileLoop (fun n s' => ∃ σ' H', Inv X pins σ' H' s' ∧ W n σ' H') ?_ m0 ⟨σ, H, I, w0⟩)
  rintro n s1 ⟨σ1, H1, I1, w1⟩
  refine wpAny_passesOwn hp (thn (hc pins s1 σ1 H1 _ I1 (turn n σ1 H1 w1)) fun b s2 ⟨H2, I2, q2⟩ => ?_)
  cases b with
  | true =>
    obtain ⟨N, hN, q2⟩ := q2
    rw [if_pos rfl]
    refine wpAny_passesOwn hp (thn (hb pins s2 σ1 H2 _ I2 q2) fun f s3 q3 => ?_)
    cases f with
    | next =>
      obtain ⟨σ3, H3, I3, n3⟩ := q3
      obtain ⟨m', hm, w3⟩ := hN σ3 H3 n3
      exact ⟨m', hm, σ3, H3, I3, w3⟩
    | cont =>
      obtain ⟨σ3, H3, I3, n3⟩ := q3
      obtain ⟨m', hm, w3⟩ := hN σ3 H3 n3
      exact ⟨m', hm, σ3, H3, I3, w3⟩
    | brk => exact q3
    | ret v => exact q3
  | false =>
    rw [if_neg Bool.false_ne_true]
    exact wpAny_execs_nil ⟨σ1, H2, I2, q2⟩
end
/-! ### what a loop or a comprehension walks -/
/-- at turn i: it yields x (the heap may grow), or it stops -/
structure It where
  go : Nat → Hp → Prop
  yld : Nat → Hp → V → Hp → Prop
  stop : Nat → Hp → Prop
/-- the iterator's own objects may turn: they are not the frame's, not pinned, younger than the entry (or a comprehension's own) -/
def FpOk (X : Cx) (pins : List (Addr × Obj)) (H : Hp) (b : Addr) : Prop :=
  H b = none ∧ b ≠ X.env.locals ∧ b ∉ X.fs ∧ (b ∈ X.ex ∨ X.s₀.heap.objs.size ≤ b) ∧ (∀ x c, X.env.cells.lookup x = some c → c ≠ b) ∧ ∀ p ∈ X.pn ++ pins, p.1 ≠ b
theorem Inv.fpOk {X : Cx} {pins : List (Addr × Obj)} {σ : St} {H H' : Hp} {s : Shared} {b : Addr} (I : Inv X pins σ H s) (hb : s.heap.objs.size ≤ b) (hn : H' b = none) : FpOk X pins H' b := by
  refine ⟨hn, Nat.ne_of_gt (Nat.lt_of_lt_of_le I.lt hb), I.nofs hb, .inr (Nat.le_trans I.sz hb), fun x c e z => ?_, fun p hp z => ?_⟩
  · obtain ⟨v, q⟩ := I.cell x c e
    exact absurd (Nat.lt_of_lt_of_le q.lt (by rw [z]; exact hb)) (Nat.lt_irrefl _)
  · exact absurd (Nat.lt_of_lt_of_le (Heap.lt_size (I.pin p hp).1) (by rw [z]; exact hb)) (Nat.lt_irrefl _)
structure Turn (P : Program) (w : World) (K : PySem.W.Frag) (tg : Expr) (J : It) (fp : List Addr) (it : Addr) (tn : Nat → Heap → Prop) : Prop where
  mem : it ∈ fp
  obj : ∀ i h, tn i h → ∀ b ∈ fp, ∃ o, h.get? b = some o ∧ ∀ v, o.data ≠ .cell v
  keep : ∀ i h h', tn i h → (∀ b ∈ fp, ∀ o, h.get? b = some o → h'.get? b = some o) → tn i h'
  item : ∀ (X : Cx), X.prog = P → X.w = w → X.K = K → X.calm = true → ∀ (i : Nat) (pins : List (Addr × Obj)) (s : Shared) (σ : St) (H : Hp) (E : Value → Shared → Prop), Inv X pins σ H s → (∀ b ∈ fp, FpOk X pins H b) → tn i s.heap → J.go i H →
    wpAny (model P w) X.A (pyNext (.ref it)) (fun r s1 => ∃ u, r = some u ∧
      wpAny (model P w) X.A (letOwnedTupleGo tg (.ref it) u) (fun _ s2 => ∃ x H', Inv X pins σ H' s2 ∧ RelV x u ∧ J.yld i H x H' ∧ tn (i + 1) s2.heap ∧ ∀ b ∈ fp, H' b = none) E s1) E s
  done : ∀ (X : Cx), X.prog = P → X.w = w → X.K = K → X.calm = true → ∀ (i : Nat) (pins : List (Addr × Obj)) (s : Shared) (σ : St) (H : Hp) (E : Value → Shared → Prop), Inv X pins σ H s → (∀ b ∈ fp, FpOk X pins H b) → tn i s.heap → J.stop i H →
    wpAny (model P w) X.A (pyNext (.ref it)) (fun r s1 => r = none ∧ Inv X pins σ H s1) E s
  self : ∀ (A : Around) (i : Nat) (s : Shared) (Q : Value → Shared → Prop) (E : Value → Shared → Prop), tn i s.heap → Q (.ref it) s → wpAny (model P w) A (pyIter (.ref it)) Q E s
abbrev TI := St → Hp → (It → Hp → Prop) → Prop
/-- an iterator has come -/
def PIE (X : Cx) (pins : List (Addr × Obj)) (σ : St) (tg : Expr) (R : It → Hp → Prop) (itv : Value) (s2 : Shared) : Prop :=
  ∃ (it : Addr) (fp : List Addr) (tn : Nat → Heap → Prop) (J : It) (H' : Hp), itv = .ref it ∧ Inv X pins σ H' s2 ∧ Turn X.prog X.w X.K tg J fp it tn ∧ tn 0 s2.heap ∧ (∀ b ∈ fp, FpOk X pins H' b) ∧ R J H'
def PI (X : Cx) (tg iter : Expr) (wi : TI) : Prop :=
  ∀ (pins : List (Addr × Obj)) (s : Shared) (σ : St) (H : Hp) (R : It → Hp → Prop), Inv X pins σ H s → wi σ H R →
    wpAny (model X.prog X.w) X.A (eval iter X.env) (fun v s1 => wpAny (model X.prog X.w) X.A (pyIter v) (PIE X pins σ tg R) X.xe s1) X.xe s
/-- the step ahead of the store is nothing for an iterator that keeps no tuple -/
theorem go_of {M : Model} {A : Around} {E : Value → Shared → Prop} {s : Shared} {tg : Expr} {it : Addr} {u : Value} {o : Obj} {n : String} {vs : Array Value} {Q : Unit → Shared → Prop} (ho : s.heap.get? it = some o) (hc : o.cls = .type n) (hd : o.data = .fields vs)
    (hn : ["enumerate", "zip", "dict_itemiterator", "dict_reverseitemiterator", "odict_iterator", "itertools.zip_longest", "itertools.pairwise"].contains n = false) (hQ : Q () s) : wpAny M A (letOwnedTupleGo tg (.ref it) u) Q E s := by
  unfold letOwnedTupleGo
  cases tg <;> first
    | exact wpAny_pure hQ
    | (cases u <;> first
        | exact wpAny_pure hQ
        | (refine wpAny_bind (wpAny_load ho ?_)
           rw [hc, hd]
           show wpAny M A (if (["enumerate", "zip", "dict_itemiterator", "dict_reverseitemiterator", "odict_iterator", "itertools.zip_longest", "itertools.pairwise"].contains n && vs[0]? == some (rawInt _)) = true then _ else _) Q E s
           rw [if_neg (by intro h; rw [hn, Bool.false_and] at h; cases h)]
           exact wpAny_pure hQ))
/-- the list at a, as it stands at each turn (a loop may append to it) -/
def Itl (K : PySem.W.Frag) (a : Addr) : It :=
  ⟨fun i H => ∃ xs x, SqL K H a xs ∧ xs[i]? = some x, fun i H x H' => H' = H ∧ ∀ xs, SqL K H a xs → xs[i]? = some x, fun i H => ∃ xs, SqL K H a xs ∧ xs.length ≤ i⟩
/-- lo, lo + 1, .. (n of them) -/
def Itr (lo : Int) (n : Nat) : It := ⟨fun i _ => i < n, fun i H x H' => H' = H ∧ x = .int (lo + i), fun i _ => n ≤ i⟩
theorem turn_list {P : Program} {w : World} {K : PySem.W.Frag} {tg : Expr} (a it : Addr) : Turn P w K tg (Itl K a) [it] it (fun i h => h.IsListIter it a i) where
  mem := by simp
  obj := fun i h st b hb => by
    have e : b = it := by simpa using hb
    subst e
    obtain ⟨o, e, c, d⟩ := st
    exact ⟨o, e, fun v z => by rw [d] at z; cases z⟩
  keep := fun i h h' st k => st.at fun o e => k it (by simp) o e
  item := by
    intro X hP hw hK hc i pins s σ H E I hf st hg
    subst hP hw hK
    obtain ⟨xs, x, hq, hx⟩ := hg
    obtain ⟨its, rv, p, hz⟩ := I.list hq
    obtain ⟨u, hu, ru⟩ := rv.get hx
    obtain ⟨f0, f1, f2, f3, f4, f5⟩ := hf it (by simp)
    refine wpAny_pyNext_list_item st p.isList (x := u) (by simpa using hu) fun h' st' sb => ?_
    have I1 : Inv X pins σ H { s with heap := h' } := I.turned (t' := s.toks) (fun b o hb e => (sb.2 b hb).trans e) f0 f1 f3 f4 f5
    obtain ⟨o, e, c, d⟩ := id st'
    exact ⟨u, rfl, go_of (s := { s with heap := h' }) e c d (by decide) ⟨x, H, I1, ru, ⟨rfl, fun ys hy => by rw [I.list_inj hy hq]; exact hx⟩, st', fun b hb => (hf b hb).1⟩⟩
  done := by
    intro X hP hw hK hc i pins s σ H E I hf st hg
    subst hP hw hK
    obtain ⟨xs, hq, hx⟩ := hg
    obtain ⟨its, rv, p, hz⟩ := I.list hq
    obtain ⟨f0, f1, f2, f3, f4, f5⟩ := hf it (by simp)
    have hl := rv.length
    exact wpAny_pyNext_list_end (I.ok.hd hc) st p.isList (by simp; omega) fun h' eb => ⟨rfl, I.turned (t' := s.toks) (fun b o hb e => eb b o hb e) f0 f1 f3 f4 f5⟩
  self := fun _ _ _ _ _ st h => wpAny_pyIter_listiter st h
theorem turn_range {P : Program} {w : World} {K : PySem.W.Frag} {tg : Expr} (it : Addr) (lo : Int) (n : Nat) : Turn P w K tg (Itr lo n) [it] it (fun i h => IsRangeIter h it (lo + (i : Nat) * 1) ((n : Int) - (i : Nat)) 1) where
  mem := by simp
  obj := fun i h st b hb => by
    have e : b = it := by simpa using hb
    subst e
    exact ⟨_, st, fun v z => by
      have z' : Data.fields _ = Data.cell v := z
      cases z'⟩
  keep := fun i h h' st k => k it (by simp) _ st
  item := by
    intro X hP hw hK hc i pins s σ H E I hf st hg
    subst hP hw hK
    obtain ⟨f0, f1, f2, f3, f4, f5⟩ := hf it (by simp)
    have W := Walks.range (prog := X.prog) (w := X.w) (I.ok.hd hc) it lo 1 n
    refine W.item i s _ _ hg st fun v h' tk hv st' kk => ?_
    obtain ⟨t, rfl⟩ := hv
    have I1 : Inv X pins σ H { s with heap := h', toks := tk } := I.turned (fun b o hb e => kk b o (by simpa using hb) e) f0 f1 f3 f4 f5
    refine ⟨_, rfl, go_of (s := { s with heap := h', toks := tk }) (n := "range_iterator") st' rfl rfl (by decide) ⟨.int (lo + i), H, I1, ⟨t, ?_⟩, ⟨rfl, rfl⟩, st', fun b hb => (hf b hb).1⟩⟩
    rw [Int.mul_one]
  done := by
    intro X hP hw hK hc i pins s σ H E I hf st hg
    subst hP hw hK
    obtain ⟨f0, f1, f2, f3, f4, f5⟩ := hf it (by simp)
    exact wpAny_pyNext_range_end (I.ok.hd hc) st (by have : n ≤ i := hg; omega) fun h' eb => ⟨rfl, I.turned (t' := s.toks) (fun b o hb e => eb b o hb e) f0 f1 f3 f4 f5⟩
  self := fun _ _ _ _ _ st h => wpAny_pyIter_rangeiter st h
end L2
namespace L2
open PySem PySem.Spec PyProof.Rows
section
variable {X : Cx} {tg : Expr}
def iList (K : PySem.W.Frag) (tl : TE) : TI := fun σ H R => tl σ H fun x H1 => ∃ a, x = .ref a ∧ (∃ xs, SqL K H1 a xs) ∧ R (Itl K a) H1
theorem pi_list {l : Expr} {tl : TE} (hl : PE X l tl) : PI X tg l (iList X.K tl) := by
  intro pins s σ H R I h
  refine thn (hl pins s σ H _ I h) fun v s1 ⟨x, H1, I1, r1, q1⟩ => ?_
  obtain ⟨a, e, ⟨xs, hq⟩, q⟩ := q1
  subst e
  cases r1
  obtain ⟨its, rv, p, hz⟩ := I1.list hq
  refine wpAny_pyIter_list p.isList ?_
  refine ⟨s1.heap.objs.size, [s1.heap.objs.size], _, _, H1, rfl, I1.kept (t' := s1.toks) fun b o e => Heap.get?_push_of_some _ e, turn_list a _, ⟨_, Heap.get?_push_size _ rfl, rfl, rfl⟩, fun b hb => ?_, q⟩
  have e : b = s1.heap.objs.size := by simpa using hb
  subst e
  exact I1.fpOk (Nat.le_refl _) (I1.hok.fresh (Nat.le_refl _))
/-- a range object just made, walked -/
theorem range_it {pins : List (Addr × Obj)} {σ : St} {H : Hp} {s : Shared} {R : It → Hp → Prop} {E : Value → Shared → Prop} {lo hi : Int} {t u v : Tok} {tk : Nat} (I : Inv X pins σ H s) (h1 : -(2 ^ 62) ≤ lo) (h2 : lo < 2 ^ 62) (h3 : -(2 ^ 62) ≤ hi) (h4 : hi < 2 ^ 62)
    (q : R (Itr lo (hi - lo).toNat) H) : wpAny (model X.prog X.w) X.A (pyIter (.ref s.heap.objs.size)) (PIE X pins σ tg R) E { s with heap := s.heap.push { cls := .type "range", data := .fields #[.int lo t, .int hi u, .int 1 v] }, toks := tk } := by
  refine wpAny_pyIter_range (IsRange.new ..) (small_one h1 h2 h3 h4) ?_
  have I1 : Inv X pins σ H { s with heap := s.heap.push { cls := .type "range", data := .fields #[.int lo t, .int hi u, .int 1 v] }, toks := tk } := I.kept fun b o e => Heap.get?_push_of_some _ e
  refine ⟨(s.heap.push { cls := .type "range", data := .fields #[.int lo t, .int hi u, .int 1 v] }).objs.size, [(s.heap.push { cls := .type "range", data := .fields #[.int lo t, .int hi u, .int 1 v] }).objs.size], _, _, H, rfl,
    I1.kept (t' := tk) fun b o e => Heap.get?_push_of_some _ e, turn_range _ lo (hi - lo).toNat, ?_, fun b hb => ?_, q⟩
  · have e1 : lo + ((0 : Nat) : Int) * 1 = lo := by simp
    have e2 : (((hi - lo).toNat : Nat) : Int) - ((0 : Nat) : Int) = Builtin.Range.rangeSize lo hi 1 := by rw [rangeSize_one]; split <;> omega
    show IsRangeIter _ _ (lo + ((0 : Nat) : Int) * 1) ((((hi - lo).toNat : Nat) : Int) - ((0 : Nat) : Int)) 1
    rw [e1, e2]
    exact Heap.get?_push_size _ rfl
  · have e : b = (s.heap.push { cls := .type "range", data := .fields #[.int lo t, .int hi u, .int 1 v] }).objs.size := by simpa using hb
    subst e
    exact I1.fpOk (Nat.le_refl _) (I1.hok.fresh (Nat.le_refl _))
def iRng1 (ta : TA) : TI := fun σ H R => ta σ H fun vs H1 => ∃ j : Int, vs = [.int j] ∧ -(2 ^ 62) ≤ j ∧ j < 2 ^ 62 ∧ R (Itr 0 j.toNat) H1
def iRng2 (ta : TA) : TI := fun σ H R => ta σ H fun vs H1 => ∃ i j : Int, vs = [.int i, .int j] ∧ (-(2 ^ 62) ≤ i ∧ i < 2 ^ 62 ∧ -(2 ^ 62) ≤ j ∧ j < 2 ^ 62) ∧ R (Itr i (j - i).toNat) H1
theorem pi_range1 {a : Expr} {ta : TA} {p pos : Pos} (hg : Gl X "range") (hm : X.mg "range" = none) (ha : PA X [a] ta) (hs : starEach [a] X.env = [(false, eval a X.env)] := by rfl) : PI X tg (.Call (.Name "range" p) [a] [] pos) (iRng1 ta) := by
  intro pins s σ H R I h
  refine Call_ (ld_blt I hg hm boot_range (PyProof.Rows.callWith_type1 (thn (ha pos pins s σ H _ I h) fun us s1 ⟨vs, H1, I1, r1, q1⟩ => ?_) hs rfl))
  obtain ⟨j, e, q1, q2, q⟩ := q1
  subst e
  cases r1 with
  | cons r rr =>
    cases rr
    obtain ⟨t, rfl⟩ := r
    exact call_range_1 (range_it I1 (by omega) (by omega) q1 q2 (by simpa using q))
theorem pi_range2 {a b : Expr} {ta : TA} {p pos : Pos} (hg : Gl X "range") (hm : X.mg "range" = none) (ha : PA X [a, b] ta) (hs : starEach [a, b] X.env = [(false, eval a X.env), (false, eval b X.env)] := by rfl) (hs2 : starEach [b] X.env = [(false, eval b X.env)] := by rfl) :
    PI X tg (.Call (.Name "range" p) [a, b] [] pos) (iRng2 ta) := by
  intro pins s σ H R I h
  refine Call_ (ld_blt I hg hm boot_range (PyProof.Rows.callWith_type1 (thn (ha pos pins s σ H _ I h) fun us s1 ⟨vs, H1, I1, r1, q1⟩ => ?_) (by rw [hs, hs2]) (by rw [hs2]; rfl)))
  obtain ⟨i, j, e, ⟨q1, q2, q3, q4⟩, q⟩ := q1
  subst e
  cases r1 with
  | cons r rr =>
    cases rr with
    | cons r' rr =>
      cases rr
      obtain ⟨t, rfl⟩ := r
      obtain ⟨t', rfl⟩ := r'
      exact call_range_2 (range_it I1 q1 q2 q3 q4 q)
/-! ### for -/
/-- W: the invariant by the turn and a measure; N: what the body is to reach -/
def tFor (wi : TI) (g : TG) (tb : TS) : TS := fun D σ H => wi σ H fun J H1 => ∃ W : Nat → Nat → St → Hp → Prop, (∃ m, W 0 m σ H1) ∧ ∀ i m σ H, W i m σ H →
  (J.stop i H ∧ D.nx σ H) ∨ (J.go i H ∧ ∃ N : St → Hp → Prop, (∀ σ' H', N σ' H' → ∃ m', m' < m ∧ W (i + 1) m' σ' H') ∧ ∀ x H', J.yld i H x H' → g x σ H' fun σ2 H2 => tb { D with nx := N, ct := N, bk := D.nx } σ2 H2)
/-- the records at fp as they stand -/
def pinsAt (fp : List Addr) (h : Heap) : List (Addr × Obj) := fp.filterMap fun b => (h.get? b).map fun o => (b, o)
theorem mem_pinsAt {fp : List Addr} {h : Heap} {b : Addr} {o : Obj} (hb : b ∈ fp) (e : h.get? b = some o) : (b, o) ∈ pinsAt fp h := List.mem_filterMap.mpr ⟨b, hb, by rw [e]; rfl⟩
theorem of_pinsAt {fp : List Addr} {h : Heap} {p : Addr × Obj} (hp : p ∈ pinsAt fp h) : p.1 ∈ fp ∧ h.get? p.1 = some p.2 := by
  obtain ⟨b, hb, e⟩ := List.mem_filterMap.mp hp
  cases q : h.get? b with
  | none => rw [q] at e; cases e
  | some o =>
    rw [q] at e
    have e' : (b, o) = p := Option.some.inj e
    subst e'
    exact ⟨hb, q⟩
theorem Inv.pinned {pins : List (Addr × Obj)} {σ : St} {H : Hp} {s : Shared} {fp : List Addr} (I : Inv X pins σ H s) (hf : ∀ b ∈ fp, FpOk X pins H b) (ho : ∀ b ∈ fp, ∃ o, s.heap.get? b = some o ∧ ∀ v, o.data ≠ .cell v) : Inv X (pins ++ pinsAt fp s.heap) σ H s :=
  I.pins_of fun p hp => (List.mem_append.mp hp).elim (fun z => I.pin p (List.mem_append_right _ z)) fun z => by
    obtain ⟨hb, e⟩ := of_pinsAt z
    obtain ⟨f0, f1, f2, _⟩ := hf p.1 hb
    obtain ⟨o, e', d⟩ := ho p.1 hb
    rw [e] at e'; cases e'
    exact ⟨e, f0, f1, f2, d⟩
theorem Inv.unpinned {pins pl : List (Addr × Obj)} {σ : St} {H : Hp} {s : Shared} (I : Inv X (pins ++ pl) σ H s) : Inv X pins σ H s := I.pins_of fun p hp => I.pin p (List.mem_append_right _ (List.mem_append_left _ hp))
theorem ps_for {iter : Expr} {body : List Stmt} {wi : TI} {g : TG} {tb : TS} {pos : Pos} (hp : PassesOwn (model X.prog X.w) X.A X.env X.xe) (hc : X.calm = true) (hi : PI X tg iter wi) (hg : PG X tg g) (hb : PSs X body tb)
    (hs : ∀ x, foldedSetIterable iter X.env x = pure x := by intro _; rfl) : PS X (.For tg iter body [] pos) (tFor wi g tb) := by
  intro pins s σ H D I h
  refine wpAny_For (thn (hi pins s σ H _ I h) fun v s1 h1 => thn h1 fun itv s2 h2 => ?_) hs
  obtain ⟨it, fp, tn, J, H2, e, I2, T, st2, f2, W, ⟨m0, w0⟩, turn⟩ := h2
  subst e
  -- what stays true of the iterator's objects through the loop
  have stat : ∀ {H' : Hp}, (∀ b ∈ fp, H' b = none) → ∀ b ∈ fp, FpOk X pins H' b := fun hn b hb => ⟨hn b hb, (f2 b hb).2⟩
  refine codeAny_forLoop_any (fun n s' => ∃ i σ' H', Inv X pins σ' H' s' ∧ tn i s'.heap ∧ (∀ b ∈ fp, H' b = none) ∧ W i n σ' H') ?_ m0 ⟨0, σ, H2, I2, st2, fun b hb => (f2 b hb).1, w0⟩
  rintro n s3 ⟨i, σ3, H3, I3, st3, fr3, w3⟩
  rcases turn i n σ3 H3 w3 with ⟨stop, qn⟩ | ⟨go, N, hN, step⟩
  · refine wpAny_passesOwn hp (thn (T.done X rfl rfl rfl hc i pins s3 σ3 H3 X.xe I3 (stat fr3) st3 stop) fun r s4 ⟨hr, I4⟩ => ?_)
    subst hr
    exact wpAny_execs_nil ⟨σ3, H3, I4, qn⟩
  · refine wpAny_passesOwn hp (thn (T.item X rfl rfl rfl hc i pins s3 σ3 H3 X.xe I3 (stat fr3) st3 go) fun r s4 ⟨u, hr, h4⟩ => ?_)
    subst hr
    refine wpAny_passesOwn hp (thn h4 fun _ s5 ⟨x, H5, I5, r5, y5, st5, fr5⟩ => ?_)
    have I5' := I5.pinned (stat fr5) (T.obj _ _ st5)
    refine wpAny_passesOwn hp (thn (hg _ s5 σ3 H5 x u _ I5' r5 (step x H5 y5)) fun _ s6 ⟨σ6, H6, I6, q6⟩ => ?_)
    refine wpAny_passesOwn hp (thn (hb _ s6 σ6 H6 _ I6 q6) fun f s7 q7 => ?_)
    have again : ∀ {σ7 : St} {H7 : Hp}, Inv X (pins ++ pinsAt fp s5.heap) σ7 H7 s7 → N σ7 H7 → ∃ m, m < n ∧ ∃ i σ' H', Inv X pins σ' H' s7 ∧ tn i s7.heap ∧ (∀ b ∈ fp, H' b = none) ∧ W i m σ' H' := fun {σ7 H7} I7 n7 => by
      obtain ⟨m', hm, w7⟩ := hN σ7 H7 n7
      refine ⟨m', hm, i + 1, σ7, H7, I7.unpinned, T.keep _ _ _ st5 fun b hb o e => (I7.pin (b, o) (List.mem_append_right _ (List.mem_append_right _ (mem_pinsAt hb e)))).1, fun b hb => ?_, w7⟩
      obtain ⟨o, e, d⟩ := T.obj _ _ st5 b hb
      exact (I7.pin (b, o) (List.mem_append_right _ (List.mem_append_right _ (mem_pinsAt hb e)))).2.1
    cases f with
    | next => obtain ⟨σ7, H7, I7, n7⟩ := q7; exact again I7 n7
    | cont => obtain ⟨σ7, H7, I7, n7⟩ := q7; exact again I7 n7
    | brk => obtain ⟨σ7, H7, I7, q7⟩ := q7; exact ⟨σ7, H7, I7.unpinned, q7⟩
    | ret v => obtain ⟨x7, σ7, H7, I7, r7, q7⟩ := q7; exact ⟨x7, σ7, H7, I7.unpinned, r7, q7⟩
end
/-! ### the forms one uses -/
/-- over a list that the body leaves as it is -/
theorem for_list {K : PySem.W.Frag} {a : Addr} {xs : List V} {g : TG} {tb : TS} {D : Ends} {σ : St} {H : Hp} (Pv : Nat → St → Hp → Prop) (h0 : Pv 0 σ H) (hl : ∀ i σ H, i ≤ xs.length → Pv i σ H → SqL K H a xs)
    (hs : ∀ i x σ H, xs[i]? = some x → Pv i σ H → g x σ H fun σ2 H2 => tb { D with nx := Pv (i + 1), ct := Pv (i + 1), bk := D.nx } σ2 H2) (hd : ∀ σ H, Pv xs.length σ H → D.nx σ H) :
    ∃ W : Nat → Nat → St → Hp → Prop, (∃ m, W 0 m σ H) ∧ ∀ i m σ H, W i m σ H →
      ((Itl K a).stop i H ∧ D.nx σ H) ∨ ((Itl K a).go i H ∧ ∃ N : St → Hp → Prop, (∀ σ' H', N σ' H' → ∃ m', m' < m ∧ W (i + 1) m' σ' H') ∧ ∀ x H', (Itl K a).yld i H x H' → g x σ H' fun σ2 H2 => tb { D with nx := N, ct := N, bk := D.nx } σ2 H2) := by
  refine ⟨fun i m σ H => m = xs.length - i ∧ i ≤ xs.length ∧ Pv i σ H, ⟨xs.length, by simp, Nat.zero_le _, h0⟩, ?_⟩
  rintro i m σ H ⟨rfl, hi, p⟩
  have q := hl i σ H hi p
  by_cases hlt : i < xs.length
  · refine .inr ⟨⟨xs, xs[i], q, by simp [hlt]⟩, Pv (i + 1), fun σ' H' p' => ⟨xs.length - (i + 1), by omega, rfl, hlt, p'⟩, fun x H' y => ?_⟩
    obtain ⟨e, y⟩ := y
    subst e
    exact hs i x σ _ (y xs q) p
  · have e : i = xs.length := by omega
    subst e
    exact .inl ⟨⟨xs, q, Nat.le_refl _⟩, hd σ H p⟩
theorem for_range {lo : Int} {n : Nat} {g : TG} {tb : TS} {D : Ends} {σ : St} {H : Hp} (Pv : Nat → St → Hp → Prop) (h0 : Pv 0 σ H)
    (hs : ∀ i σ H, i < n → Pv i σ H → g (.int (lo + i)) σ H fun σ2 H2 => tb { D with nx := Pv (i + 1), ct := Pv (i + 1), bk := D.nx } σ2 H2) (hd : ∀ σ H, Pv n σ H → D.nx σ H) :
    ∃ W : Nat → Nat → St → Hp → Prop, (∃ m, W 0 m σ H) ∧ ∀ i m σ H, W i m σ H →
      ((Itr lo n).stop i H ∧ D.nx σ H) ∨ ((Itr lo n).go i H ∧ ∃ N : St → Hp → Prop, (∀ σ' H', N σ' H' → ∃ m', m' < m ∧ W (i + 1) m' σ' H') ∧ ∀ x H', (Itr lo n).yld i H x H' → g x σ H' fun σ2 H2 => tb { D with nx := N, ct := N, bk := D.nx } σ2 H2) := by
  refine ⟨fun i m σ H => m = n - i ∧ i ≤ n ∧ Pv i σ H, ⟨n, by simp, Nat.zero_le _, h0⟩, ?_⟩
  rintro i m σ H ⟨rfl, hi, p⟩
  by_cases hlt : i < n
  · refine .inr ⟨hlt, Pv (i + 1), fun σ' H' p' => ⟨n - (i + 1), by omega, rfl, hlt, p'⟩, fun x H' y => ?_⟩
    obtain ⟨e, y⟩ := y
    subst e y
    exact hs i σ _ hlt p
  · have e : i = n := by omega
    subst e
    exact .inl ⟨Nat.le_refl _, hd σ H p⟩
end L2
namespace L2
open PySem PySem.Spec PyProof.Rows
abbrev R2 := V → V → Hp → VK → Prop
/-- a two-place operation on values: f is binaryOp op, inplaceOp op or compareOp op -/
def OpR (X : Cx) (f : Value → Value → Sem Value) (r : R2) : Prop :=
  ∀ (pins : List (Addr × Obj)) (s : Shared) (σ : St) (H : Hp) (x y : V) (v u : Value) (Q : VK), Inv X pins σ H s → RelV x v → RelV y u → r x y H Q →
    wpAny (model X.prog X.w) X.A (f v u) (EP X pins σ Q) X.xe s
/-- a one-place operation -/
def UnR (X : Cx) (f : Value → Sem Value) (r : V → Hp → VK → Prop) : Prop :=
  ∀ (pins : List (Addr × Obj)) (s : Shared) (σ : St) (H : Hp) (x : V) (v : Value) (Q : VK), Inv X pins σ H s → RelV x v → r x H Q →
    wpAny (model X.prog X.w) X.A (f v) (EP X pins σ Q) X.xe s
/-- a call of a value that is known (a builtin, a type) with values -/
def CallR (X : Cx) (f : Value) (r : List V → Hp → VK → Prop) : Prop :=
  ∀ (pins : List (Addr × Obj)) (s : Shared) (σ : St) (H : Hp) (xs : List V) (us : List Value) (Q : VK), Inv X pins σ H s → Vals xs us → r xs H Q →
    wpAny (model X.prog X.w) X.A (call f us) (EP X pins σ Q) X.xe s
/-- a value's truth -/
def TruR (X : Cx) (r : V → Hp → (Bool → Hp → Prop) → Prop) : Prop :=
  ∀ (pins : List (Addr × Obj)) (s : Shared) (σ : St) (H : Hp) (x : V) (v : Value) (Q : Bool → Hp → Prop), Inv X pins σ H s → RelV x v → r x H Q →
    wpAny (model X.prog X.w) X.A (truthy v) (TP X pins σ Q) X.xe s
def tOp (r : R2) (ta tb : TE) : TE := fun σ H Q => ta σ H fun x H1 => tb σ H1 fun y H2 => r x y H2 Q
def tUn (r : V → Hp → VK → Prop) (ta : TE) : TE := fun σ H Q => ta σ H fun x H1 => r x H1 Q
/-- ints in, under C, and a value out -/
def rI (C : Int → Int → Prop) (g : Int → Int → V) : R2 := fun x y H Q => ∃ i j, x = .int i ∧ y = .int j ∧ C i j ∧ Q (g i j) H
def rI0 (g : Int → Int → V) : R2 := fun x y H Q => ∃ i j, x = .int i ∧ y = .int j ∧ Q (g i j) H
def rU (g : Int → V) : V → Hp → VK → Prop := fun x H Q => ∃ i, x = .int i ∧ Q (g i) H
section
variable {X : Cx} {a b c : Expr} {ta tb tc : TE} {pos : Pos}
theorem binT (ha : PE X a ta) (hb : PE X b tb) {pins : List (Addr × Obj)} {s : Shared} {σ : St} {H : Hp} {R : V → V → Hp → Prop} (I : Inv X pins σ H s)
    (h : ta σ H fun x H1 => tb σ H1 fun y H2 => R x y H2) {Q : Value → Shared → Prop} {f : Value → Value → Sem Value}
    (hf : ∀ v u s2 x y H2, Inv X pins σ H2 s2 → RelV x v → RelV y u → R x y H2 → wpAny (model X.prog X.w) X.A (f v u) Q X.xe s2) :
    wpAny (model X.prog X.w) X.A (eval a X.env) (fun v s₁ => wpAny (model X.prog X.w) X.A (eval b X.env) (fun u s₂ => wpAny (model X.prog X.w) X.A (f v u) Q X.xe s₂) X.xe s₁) X.xe s := by
  refine thn (ha pins s σ H _ I h) fun v s1 ⟨x, H1, I1, r1, q1⟩ => ?_
  refine thn (hb pins s1 σ H1 _ I1 q1) fun u s2 ⟨y, H2, I2, r2, q2⟩ => ?_
  exact hf v u s2 x y H2 I2 r1 r2 q2
theorem pe_op {op : Operator} {r : R2} (ho : OpR X (binaryOp op) r) (ha : PE X a ta) (hb : PE X b tb) : PE X (.BinOp a op b pos) (tOp r ta tb) := by
  intro pins s σ H Q I h
  exact wpAny_BinOp (binT ha hb I h fun v u s2 x y H2 I2 rx ry q => ho pins s2 σ H2 x y v u Q I2 rx ry q)
theorem pe_un {op : UnaryOp} {r : V → Hp → VK → Prop} (ho : UnR X (unaryOp op) r) (ha : PE X a ta) : PE X (.UnaryOp op a pos) (tUn r ta) := by
  intro pins s σ H Q I h
  exact UnaryOp_ (thn (ha pins s σ H _ I h) fun v s1 ⟨x, H1, I1, r1, q1⟩ => ho pins s1 σ H1 x v Q I1 r1 q1)
/-! ### ints -/
theorem opI {f : Value → Value → Sem Value} {C : Int → Int → Prop} {g : Int → Int → Int}
    (rule : ∀ (i j : Int) (t u : Tok) (s : Shared) (Q : Value → Shared → Prop) (E : Value → Shared → Prop), C i j → Q (.int (g i j) s.toks) { s with toks := s.toks + 1 } → wpAny (model X.prog X.w) X.A (f (.int i t) (.int j u)) Q E s) :
    OpR X f (rI C fun i j => .int (g i j)) := by
  intro pins s σ H x y v u Q I rx ry h
  obtain ⟨i, j, rfl, rfl, hc, q⟩ := h
  obtain ⟨t, rfl⟩ := rx
  obtain ⟨t', rfl⟩ := ry
  exact rule i j t t' s _ _ hc ⟨.int (g i j), H, I.tok _, ⟨_, rfl⟩, q⟩
theorem opI0 {f : Value → Value → Sem Value} {g : Int → Int → Int}
    (rule : ∀ (i j : Int) (t u : Tok) (s : Shared) (Q : Value → Shared → Prop) (E : Value → Shared → Prop), Q (.int (g i j) s.toks) { s with toks := s.toks + 1 } → wpAny (model X.prog X.w) X.A (f (.int i t) (.int j u)) Q E s) :
    OpR X f (rI0 fun i j => .int (g i j)) := by
  intro pins s σ H x y v u Q I rx ry h
  obtain ⟨i, j, rfl, rfl, q⟩ := h
  obtain ⟨t, rfl⟩ := rx
  obtain ⟨t', rfl⟩ := ry
  exact rule i j t t' s _ _ ⟨.int (g i j), H, I.tok _, ⟨_, rfl⟩, q⟩
theorem opB0 {f : Value → Value → Sem Value} {g : Int → Int → Bool}
    (rule : ∀ (i j : Int) (t u : Tok) (s : Shared) (Q : Value → Shared → Prop) (E : Value → Shared → Prop), Q (.bool (g i j)) s → wpAny (model X.prog X.w) X.A (f (.int i t) (.int j u)) Q E s) :
    OpR X f (rI0 fun i j => .bl (g i j)) := by
  intro pins s σ H x y v u Q I rx ry h
  obtain ⟨i, j, rfl, rfl, q⟩ := h
  obtain ⟨t, rfl⟩ := rx
  obtain ⟨t', rfl⟩ := ry
  exact rule i j t t' s _ _ ⟨.bl (g i j), H, I, rfl, q⟩
def CMul (i j : Int) : Prop := (-(2 ^ 64) < i ∧ i < 2 ^ 64) ∨ (-(2 ^ 64) < j ∧ j < 2 ^ 64)
theorem CMul.ok {i j : Int} (h : CMul i j) : IntMulOk i j := by
  rcases h with ⟨h1, h2⟩ | ⟨h1, h2⟩
  · exact .of_left (intBits_le_64 h1 h2)
  · exact .of_right (intBits_le_64 h1 h2)
theorem op_add : OpR X (binaryOp .Add) (rI0 fun i j => .int (i + j)) := opI0 fun _ _ _ _ _ _ _ q => add_int q
theorem op_sub : OpR X (binaryOp .Sub) (rI0 fun i j => .int (i - j)) := opI0 fun _ _ _ _ _ _ _ q => sub_int q
/-- % by a positive divisor of any size -/
theorem op_mod : OpR X (binaryOp .Mod) (rI (fun _ j => 0 < j) fun i j => .int (i % j)) := opI fun i j _ _ _ _ _ hc q => by
  have h1 : (0 : Int) < j := hc
  exact mod_int' (by omega) (by rw [Int.fmod_eq_emod_of_nonneg i (by omega)]; exact q)
theorem unI {f : Value → Sem Value} {g : Int → Int}
    (rule : ∀ (i : Int) (t : Tok) (s : Shared) (Q : Value → Shared → Prop) (E : Value → Shared → Prop), Q (.int (g i) s.toks) { s with toks := s.toks + 1 } → wpAny (model X.prog X.w) X.A (f (.int i t)) Q E s) :
    UnR X f (rU fun i => .int (g i)) := by
  intro pins s σ H x v Q I rx h
  obtain ⟨i, rfl, q⟩ := h
  obtain ⟨t, rfl⟩ := rx
  exact rule i t s _ _ ⟨.int (g i), H, I.tok _, ⟨_, rfl⟩, q⟩
theorem un_neg : UnR X (unaryOp .USub) (rU fun i => .int (-i)) := unI fun _ _ _ _ _ q => neg_int q
/-! ### bools among ints: n += (a < b) -/
end
/-! ### comparisons -/
/-- the scalars that == tells apart as data does -/
def scal : V → V → Bool
  | .non, .non => true | .non, .int _ => true | .int _, .non => true | .non, .bl _ => true | .bl _, .non => true | .non, .str _ => true | .str _, .non => true
  | .int _, .int _ => true | .bl _, .bl _ => true | .str _, .str _ => true | .byt _, .byt _ => true
  | .int _, .str _ => true | .str _, .int _ => true | .bl _, .str _ => true | .str _, .bl _ => true
  | _, _ => false
def rEq : R2 := fun x y H Q => scal x y = true ∧ Q (.bl (decide (x = y))) H
def rNe : R2 := fun x y H Q => scal x y = true ∧ Q (.bl (!decide (x = y))) H
theorem dec_int {i j : Int} : decide (V.int i = V.int j) = (i == j) := by
  rw [Bool.eq_iff_iff]
  simp
theorem dec_bl {i j : Bool} : decide (V.bl i = V.bl j) = (i == j) := by
  rw [Bool.eq_iff_iff]
  simp
theorem dec_str {i j : Str} : decide (V.str i = V.str j) = (i == j) := by
  rw [Bool.eq_iff_iff]
  simp
theorem dec_byt {i j : Array UInt8} : decide (V.byt i = V.byt j) = (i.toList == j.toList) := by
  rw [Bool.eq_iff_iff]
  cases i
  cases j
  simp
section
variable {X : Cx} {a b c : Expr} {ta tb tc : TE} {pos : Pos}
theorem fin_bl {pins : List (Addr × Obj)} {σ : St} {H : Hp} {s : Shared} {Q : VK} {k k' : Bool} (I : Inv X pins σ H s) (q : Q (.bl k) H) (e : k = k') : EP X pins σ Q (.bool k') s := by
  subst e
  exact ⟨.bl k, H, I, rfl, q⟩
theorem op_eq : OpR X (compareOp .Eq) rEq := by
  intro pins s σ H x y v u Q I rx ry h
  obtain ⟨hs, q⟩ := h
  cases x with
  | non =>
    cases rx
    cases y with
    | non => cases ry; exact PySem.EqNone.eq_none_none (fin_bl I q (by simp))
    | bl j => cases ry; exact PySem.EqNone.eq_none_bool (fin_bl I q (by simp))
    | int j => obtain ⟨t', rfl⟩ := ry; exact PySem.EqNone.eq_none_int (fin_bl I q (by simp))
    | str j => obtain ⟨t', rfl⟩ := ry; exact PySem.EqNone.eq_none_str (fin_bl I q (by simp))
    | _ => exact absurd (show false = true from hs) Bool.false_ne_true
  | bl i =>
    cases rx
    cases y with
    | non => cases ry; exact PySem.EqNone.eq_bool_none (fin_bl I q (by simp))
    | bl j => cases ry; exact eq_bool (fin_bl I q dec_bl)
    | str j => obtain ⟨t', rfl⟩ := ry; exact PySem.EqMixed.eq_bool_str (fin_bl I q (by simp))
    | _ => exact absurd (show false = true from hs) Bool.false_ne_true
  | int i =>
    obtain ⟨t, rfl⟩ := rx
    cases y with
    | non => cases ry; exact PySem.EqNone.eq_int_none (fin_bl I q (by simp))
    | int j => obtain ⟨t', rfl⟩ := ry; exact eq_int (fin_bl I q dec_int)
    | str j => obtain ⟨t', rfl⟩ := ry; exact PySem.EqMixed.eq_int_str (fin_bl I q (by simp))
    | _ => exact absurd (show false = true from hs) Bool.false_ne_true
  | str i =>
    obtain ⟨t, rfl⟩ := rx
    cases y with
    | non => cases ry; exact PySem.EqNone.eq_str_none (fin_bl I q (by simp))
    | bl j => cases ry; exact PySem.EqMixed.eq_str_bool (fin_bl I q (by simp))
    | int j => obtain ⟨t', rfl⟩ := ry; exact PySem.EqMixed.eq_str_int (fin_bl I q (by simp))
    | str j => obtain ⟨t', rfl⟩ := ry; exact eq_str (fin_bl I q dec_str)
    | _ => exact absurd (show false = true from hs) Bool.false_ne_true
  | byt i =>
    obtain ⟨t, rfl⟩ := rx
    cases y with
    | byt j => obtain ⟨t', rfl⟩ := ry; exact PySem.W.eq_bytes (fin_bl I q dec_byt)
    | _ => exact absurd (show false = true from hs) Bool.false_ne_true
  | _ => cases y <;> exact absurd (show false = true from hs) Bool.false_ne_true
theorem op_ne : OpR X (compareOp .NotEq) rNe := by
  intro pins s σ H x y v u Q I rx ry h
  obtain ⟨hs, q⟩ := h
  cases x with
  | non =>
    cases rx
    cases y with
    | non => cases ry; exact PySem.EqNone.ne_none_none (fin_bl I q (by simp))
    | bl j => cases ry; exact PySem.EqNone.ne_none_bool (fin_bl I q (by simp))
    | int j => obtain ⟨t', rfl⟩ := ry; exact PySem.EqNone.ne_none_int (fin_bl I q (by simp))
    | str j => obtain ⟨t', rfl⟩ := ry; exact PySem.EqNone.ne_none_str (fin_bl I q (by simp))
    | _ => exact absurd (show false = true from hs) Bool.false_ne_true
  | bl i =>
    cases rx
    cases y with
    | non => cases ry; exact PySem.EqNone.ne_bool_none (fin_bl I q (by simp))
    | bl j => cases ry; exact ne_bool (fin_bl I q (congrArg not dec_bl))
    | str j => obtain ⟨t', rfl⟩ := ry; exact PySem.EqMixed.ne_bool_str (fin_bl I q (by simp))
    | _ => exact absurd (show false = true from hs) Bool.false_ne_true
  | int i =>
    obtain ⟨t, rfl⟩ := rx
    cases y with
    | non => cases ry; exact PySem.EqNone.ne_int_none (fin_bl I q (by simp))
    | int j => obtain ⟨t', rfl⟩ := ry; exact ne_int (fin_bl I q (congrArg not dec_int))
    | str j => obtain ⟨t', rfl⟩ := ry; exact PySem.EqMixed.ne_int_str (fin_bl I q (by simp))
    | _ => exact absurd (show false = true from hs) Bool.false_ne_true
  | str i =>
    obtain ⟨t, rfl⟩ := rx
    cases y with
    | non => cases ry; exact PySem.EqNone.ne_str_none (fin_bl I q (by simp))
    | bl j => cases ry; exact PySem.EqMixed.ne_str_bool (fin_bl I q (by simp))
    | int j => obtain ⟨t', rfl⟩ := ry; exact PySem.EqMixed.ne_str_int (fin_bl I q (by simp))
    | str j => obtain ⟨t', rfl⟩ := ry; exact ne_str (fin_bl I q (congrArg not dec_str))
    | _ => exact absurd (show false = true from hs) Bool.false_ne_true
  | byt i =>
    obtain ⟨t, rfl⟩ := rx
    cases y with
    | byt j => obtain ⟨t', rfl⟩ := ry; exact PySem.W.ne_bytes (fin_bl I q (congrArg not dec_byt))
    | _ => exact absurd (show false = true from hs) Bool.false_ne_true
  | _ => cases y <;> exact absurd (show false = true from hs) Bool.false_ne_true
theorem op_lt : OpR X (compareOp .Lt) (rI0 fun i j => .bl (decide (i < j))) := opB0 fun _ _ _ _ _ _ _ q => lt_int q
theorem op_le : OpR X (compareOp .LtE) (rI0 fun i j => .bl (decide (i ≤ j))) := opB0 fun _ _ _ _ _ _ _ q => le_int q
theorem op_gt : OpR X (compareOp .Gt) (rI0 fun i j => .bl (decide (j < i))) := opB0 fun _ _ _ _ _ _ _ q => gt_int q
theorem op_ge : OpR X (compareOp .GtE) (rI0 fun i j => .bl (decide (j ≤ i))) := opB0 fun _ _ _ _ _ _ _ q => ge_int q
/-- is None, is not None: the right side a value none -/
theorem op_isN : OpR X (compareOp .Is) (fun x y H Q => y = .non ∧ Q (.bl (decide (x = .non))) H) := by
  intro pins s σ H x y v u Q I rx ry h
  obtain ⟨rfl, q⟩ := h
  cases ry
  refine is_none_gen (fin_bl I q ?_)
  cases x <;> first
    | (cases rx; rfl)
    | (obtain ⟨t, rfl⟩ := rx; rfl)
theorem op_notN : OpR X (compareOp .IsNot) (fun x y H Q => y = .non ∧ Q (.bl (!decide (x = .non))) H) := by
  intro pins s σ H x y v u Q I rx ry h
  obtain ⟨rfl, q⟩ := h
  cases ry
  refine isnot_none_gen (fin_bl I q ?_)
  cases x <;> first
    | (cases rx; rfl)
    | (obtain ⟨t, rfl⟩ := rx; rfl)
/-- two rules for one operation: by cases -/
theorem OpR.or {f : Value → Value → Sem Value} {r r' : R2} (h : OpR X f r) (h' : OpR X f r') : OpR X f (fun x y H Q => r x y H Q ∨ r' x y H Q) := by
  intro pins s σ H x y v u Q I rx ry q
  rcases q with q | q
  · exact h pins s σ H x y v u Q I rx ry q
  · exact h' pins s σ H x y v u Q I rx ry q
theorem nomark (b : Expr) {op : CmpOp} (h : op ≠ .In := by decide) (h2 : op ≠ .NotIn := by decide) : behindInMarks op b = false := by
  have e1 : (op == CmpOp.In) = false := by cases op <;> first | rfl | exact absurd rfl h
  have e2 : (op == CmpOp.NotIn) = false := by cases op <;> first | rfl | exact absurd rfl h2
  cases b <;> simp [behindInMarks, e1, e2]
/-- a comparison as a value; hm: nomark b, or (for in, not in) by with_unfolding_all rfl -/
theorem pe_cmpR {op : CmpOp} {r : R2} (ho : OpR X (compareOp op) r) (ha : PE X a ta) (hb : PE X b tb) (hm : behindInMarks op b = false) : PE X (.Compare a [op] [b] pos) (tOp r ta tb) := by
  intro pins s σ H Q I h
  exact wpAny_Compare1 (binT ha hb I h fun v u s2 x y H2 I2 rx ry q => ho pins s2 σ H2 x y v u Q I2 rx ry q) hm
/-- a reading of a value as a test -/
def tTest (t : TE) : TT := fun σ H Q => t σ H fun x H' => ∃ k, x = .bl k ∧ Q k H'
theorem pt_cmpR {op : CmpOp} {r : R2} (ho : OpR X (compareOp op) r) (ha : PE X a ta) (hb : PE X b tb) (hm : behindInMarks op b = false) : PT X (.Compare a [op] [b] pos) (tTest (tOp r ta tb)) := by
  intro pins s σ H Q I h
  refine wpAny_isTrue_Compare1 (thn (ha pins s σ H _ I h) fun v s1 ⟨x, H1, I1, r1, q1⟩ => thn (hb pins s1 σ H1 _ I1 q1) fun u s2 ⟨y, H2, I2, r2, q2⟩ =>
    thn (ho pins s2 σ H2 x y v u _ I2 r1 r2 q2) fun c s3 ⟨z, H3, I3, r3, k, e, q3⟩ => ?_) hm
  subst e
  cases r3
  exact wpAny_truthy_bool ⟨H3, I3, q3⟩
/-! ### truth -/
/-- a value's truth by the abstract heap -/
def TruV (K : PySem.W.Frag) (x : V) (H : Hp) (k : Bool) : Prop :=
  match x with
  | .non => k = false
  | .bl b => k = b
  | .int i => k = (i != 0)
  | .str y => y.length ≤ sizeLine ∧ k = ((y.length : Int) != 0)
  | .byt y => y.size ≤ sizeLine ∧ k = ((y.size : Int) != 0)
  | .ref p => (∃ xs, SqL K H p xs ∧ k = !xs.isEmpty) ∨ (∃ xs, SqT K H p xs ∧ k = !xs.isEmpty) ∨ ∃ kvs, H p = some (.dK kvs) ∧ k = !kvs.isEmpty
  | _ => False
theorem isEmpty_kv {κ : Type} {kvs : List (κ × V)} {vs : List (κ × Value)} (r : KV kvs vs) : (!vs.isEmpty) = !kvs.isEmpty := by
  cases r <;> rfl
theorem isEmpty_of {xs : List V} {its : List Value} (r : Vals xs its) : (!its.toArray.isEmpty) = !xs.isEmpty := by
  cases r <;> simp
theorem line63 : (sizeLine : Nat) < 2 ^ 63 := by rw [sizeLine_eq]; decide
theorem tru_ok : TruR X (fun x H Q => ∃ k, TruV X.K x H k ∧ Q k H) := by
  intro pins s σ H x v Q I rx h
  obtain ⟨k, e, q⟩ := h
  have hl := line63
  have hs : sizeLine = 16777216 := sizeLine_eq
  cases x with
  | non =>
    cases rx
    have e' : k = false := e
    subst e'
    exact truthy_none ⟨H, I, q⟩
  | bl b =>
    cases rx
    have e' : k = b := e
    subst e'
    exact wpAny_truthy_bool ⟨H, I, q⟩
  | int i =>
    obtain ⟨t, rfl⟩ := rx
    have e' : k = (i != 0) := e
    subst e'
    exact PySem.P.truthy_int ⟨H, I, q⟩
  | str y =>
    obtain ⟨t, rfl⟩ := rx
    obtain ⟨hy, e'⟩ : y.length ≤ sizeLine ∧ k = ((y.length : Int) != 0) := e
    subst e'
    exact PySem.P.truthy_str (by omega) ⟨H, I.tok _, q⟩
  | byt y =>
    obtain ⟨t, rfl⟩ := rx
    obtain ⟨hy, e'⟩ : y.size ≤ sizeLine ∧ k = ((y.size : Int) != 0) := e
    subst e'
    exact PySem.W.truthy_bytes (by omega) ⟨H, I.tok _, q⟩
  | ref p =>
    cases rx
    have e' : (∃ xs, SqL X.K H p xs ∧ k = !xs.isEmpty) ∨ (∃ xs, SqT X.K H p xs ∧ k = !xs.isEmpty) ∨ ∃ kvs, H p = some (.dK kvs) ∧ k = !kvs.isEmpty := e
    rcases e' with ⟨xs, hx, e'⟩ | ⟨xs, hx, e'⟩ | ⟨kvs, hx, e'⟩
    · subst e'
      obtain ⟨its, r, pl, hz⟩ := I.list hx
      have hlen := r.length
      exact wpAny_truthy_list pl.isList (by simp only [List.size_toArray]; omega) ⟨H, I.tok _, by rw [isEmpty_of r]; exact q⟩
    · subst e'
      obtain ⟨its, r, pl, hz⟩ := I.tuple hx
      have hlen := r.length
      exact truthy_tuple pl (by simp only [List.size_toArray]; omega) ⟨H, I.tok _, by rw [isEmpty_of r]; exact q⟩
    · subst e'
      obtain ⟨hz, hS, vs, r, m⟩ : kvs.length ≤ sizeLine ∧ (p == sysModules) = false ∧ ∃ vs, KV kvs vs ∧ s.heap.DictOf (mixKind X.prog X.w) p vs := I.hok p _ hx
      have hlen : kvs.length = vs.length := Paired.length r
      exact wpAny_truthy_dict hS m (by omega) ⟨H, I.tok _, by rw [isEmpty_kv r]; exact q⟩
  | _ => exact (show False from e).elim
/-- any expression whose test is its value's truth (a name, a call, a subscript, a field ..: he by fun _ => rfl) -/
theorem pt_truth (ha : PE X a ta) (he : ∀ whole, isTrue a X.env whole = (do let v ← whole; standAt a.pos; holding [v] (truthy v))) :
    PT X a (fun σ H Q => ta σ H fun x H' => ∃ k, TruV X.K x H' k ∧ Q k H') := by
  intro pins s σ H Q I h
  exact isTrue_plain (thn (ha pins s σ H _ I h) fun v s1 ⟨x, H1, I1, r1, q1⟩ => tru_ok pins s1 σ H1 x v Q I1 r1 q1) (he _)
/-! ### strs and bytes -/
theorem op_add_str : OpR X (binaryOp .Add) (fun x y H Q => ∃ i j, x = .str i ∧ y = .str j ∧ i.length + j.length ≤ sizeLine ∧ Q (.str (i ++ j)) H) := by
  intro pins s σ H x y v u Q I rx ry h
  obtain ⟨i, j, rfl, rfl, hz, q⟩ := h
  obtain ⟨t, rfl⟩ := rx
  obtain ⟨t', rfl⟩ := ry
  exact add_str (fun t' tk => ⟨.str (i ++ j), H, I.tok _, ⟨_, rfl⟩, q⟩) hz
/-! ### scalar builtins, by CallR -/
theorem vals1 {x : V} {us : List Value} (r : Vals [x] us) : ∃ u, us = [u] ∧ RelV x u := by
  cases r with
  | cons r1 r2 => cases r2; exact ⟨_, rfl, r1⟩
theorem call_abs : CallR X (.builtin "abs") (fun xs H Q => ∃ i, xs = [.int i] ∧ Q (.int (if i < 0 then -i else i)) H) := by
  intro pins s σ H xs us Q I r h
  obtain ⟨i, rfl, q⟩ := h
  obtain ⟨u, rfl, t, rfl⟩ := vals1 r
  exact call_abs_int fun u tk => ⟨.int (if i < 0 then -i else i), H, I.tok _, ⟨_, rfl⟩, q⟩
end
end L2
namespace L2
open PySem PySem.Spec PyProof.Rows
/-! ### an instance, its attributes a map -/
structure ObjM (h : Heap) (x dx C : Addr) (mA : Str → Option Value) : Prop where
  obj : h.get? x = some (PySem.W.instObj C dx)
  ns : h.Ns1 dx mA
  ne : dx ≠ x
theorem lookIn_ns {h : Heap} {dx : Addr} {mA : Str → Option Value} (n : h.Ns1 dx mA) : ∃ od, h.get? dx = some od ∧ ∀ name, PySem.W.lookIn name od = some (mA name) := by
  obtain ⟨o, es, ep, ho, hd, hk, _, hm⟩ := n
  refine ⟨o, ho, fun name => ?_⟩
  have e := hm name
  unfold nsFind findBy at e
  rw [← Array.find?_toList] at e
  unfold PySem.W.lookIn
  rw [hd]
  dsimp only
  split
  · rename_i y q
    rw [q] at e
    exact congrArg some e
  · rename_i q
    rw [q] at e
    have a : es.toList.any (·.refKey) = false := by
      rw [List.any_eq_false]
      intro y hy
      obtain ⟨z, t, hkey⟩ := hk y (Array.mem_toList_iff.mp hy)
      simp [DictEntry.refKey, hkey]
    have a' : ¬ es.toList.any (·.refKey) = true := by rw [a]; exact Bool.false_ne_true
    rw [if_neg a']
    exact congrArg some e
theorem ObjM.look {h : Heap} {x dx C : Addr} {mA : Str → Option Value} (I : ObjM h x dx C mA) : ∃ od, PySem.W.InstAt h x (PySem.W.instObj C dx) C (some od) ∧ ∀ name, PySem.W.lookIn name od = some (mA name) :=
  let ⟨od, ho, hl⟩ := lookIn_ns I.ns
  ⟨od, ⟨I.obj, rfl, rfl, ho⟩, hl⟩
section
variable {prog : Program} {w : World} {A : Around} {E : Value → Shared → Prop} {s : Shared} {K : PySem.W.Frag} {x dx C f : Addr} {mA : Str → Option Value} {name : Str} {v : Value}
theorem get_map {expr : Bool} {Q : Value → Shared → Prop} (X : K.In s.heap) (I : ObjM s.heap x dx C mA) (hg : PySem.W.plainGet K C name = true) (hh : PySem.W.hasDictIn K C = true)
    (ha : PySem.W.findIn K (.ref C) name = some none) (hv : mA name = some v) (hv' : PySem.W.handedIn v = true) (h : Q v { s with toks := s.toks + 1 }) :
    wpAny (model prog w) A (getAttr (.ref x) name expr) Q E s := by
  obtain ⟨od, J, hl⟩ := I.look
  exact PySem.W.get_value X J (PySem.W.plainGet_of hg).1 (PySem.W.findObj_own hh ha rfl (by rw [hl, hv])) hv' h
theorem get_meth {pl : Sem Bool} {Q : Value × List Value → Shared → Prop} (X : K.In s.heap) (I : ObjM s.heap x dx C mA) (hg : PySem.W.plainGet K C name = true)
    (hf : PySem.W.findIn K (.ref C) name = some (some (.ref f))) (ht : PySem.W.isFn K (.ref f) = true) (hv : mA name = none) (h : Q (.ref f, [.ref x]) s) :
    wpAny (model prog w) A (getMethod (.ref x) name pl) Q E s := by
  obtain ⟨od, J, hl⟩ := I.look
  exact PySem.W.method_fn X J (PySem.W.plainGet_of hg).1 (PySem.W.plainGet_of hg).2 hf (beq_iff_eq.mp ht) (by show (PySem.W.lookIn name od).map (·.isSome) = some false; rw [hl, hv]; rfl) h
theorem set_map {ns : List Str} {Q : Unit → Shared → Prop} (X : K.In s.heap) (I : ObjM s.heap x dx C mA)
    (hs : PySem.W.findIn K (.ref C) "__setattr__" = some (some (.builtin "object.__setattr__"))) (hp : PySem.W.plainOver K C = true) (ht : PySem.W.takerIn K C name = some none) (hh : PySem.W.hasDictIn K C = true)
    (hw : PySem.Within mA ns) (hsz : ns.length ≤ sizeLine)
    (h : ∀ h', ObjM h' x dx C (fun y => if y = name then some v else mA y) → Heap.SameBut dx s.heap h' → Q () { s with heap := h', toks := s.toks + 2 }) :
    wpAny (model prog w) A (setAttr (.ref x) name v) Q E s := by
  obtain ⟨od, J, hl⟩ := I.look
  refine PySem.W.set_plain X J hs (PySem.W.osa_open (s := { s with toks := s.toks + 1 }) (r := none) X J hp ht fun b => ?_)
  obtain ⟨cd, hc, hd'⟩ := PySem.W.any_some hh
  have hx : s.heap.get? x = some ⟨.ref C, some dx, .plain, #[]⟩ := I.obj
  refine wpAny_bind (wpAny_pure (wpAny_bind (wpAny_bind (wpAny_loadPart hx (wpAny_bind (PySem.W.Looks.here (s := { s with toks := s.toks + 1 }) (PySem.W.looks_clsIn X hc) ?_))))))
  rw [hd']
  refine wpAny_pure (a := some dx) (wpAny_bind (wpAny_pure (wpAny_bind ?_)))
  refine wpAny_nsSet1 (s := { s with toks := s.toks + 1 }) I.ns fun h' hn2 hs2 => ?_
  obtain ⟨oD, esD, epD, hoD, hdD, hcD⟩ := hn2.count (PySem.Within.cons name v hw)
  refine wpAny_bind (wpAny_lookBehind hoD (by rw [hdD]; exact pastItsLine_dict (Nat.le_trans hcD (by rw [List.length_cons]; omega))) ?_)
  exact wpAny_pure (h _ ⟨(hs2.2 _ (Ne.symm I.ne)).trans I.obj, hn2, I.ne⟩ hs2)
/-- C(..): the dict at the heap's end, the instance behind it; then its __init__ -/
theorem make_map {R : Result → Shared → Prop} {vs : List Value} {kw : List (Str × Value)} (X : K.In s.heap) (hm : PySem.W.makesIn K C = true)
    (hi : PySem.W.findIn K (.ref C) "__init__" = some (some (.ref f))) (hf : PySem.W.typeIn K (.ref f) = some (.type "function"))
    (h : codeAny (model prog w) (A.under (.builtin "type.__call__" ⟨.ref C :: vs, kw⟩)) (.call (.ref f) ⟨.ref (s.heap.objs.size + 1) :: vs, kw⟩) (PySem.W.InitBack (s.heap.objs.size + 1) R)
      { s with heap := (s.heap.push PySem.W.emptyDict).push (PySem.W.instObj C s.heap.objs.size) }) :
    codeAny (model prog w) A (.call (.ref C) ⟨vs, kw⟩) R s := by
  obtain ⟨hh, g, d, t, os⟩ := s
  exact PySem.W.make_core (PySem.W.makes_of X hm) (PySem.W.looks_findIn X hi) (fun self => PySem.W.bind_fn X self hf) (.inl rfl) h
end
/-! ### the attributes as a list of pairs -/
def putF (f : Str) (v : V) : List (Str × V) → List (Str × V)
  | [] => [(f, v)]
  | (g, x) :: r => if g = f then (g, v) :: r else (g, x) :: putF f v r
theorem lookup_putF (f g : Str) (v : V) : ∀ fs : List (Str × V), (putF f v fs).lookup g = if g = f then some v else fs.lookup g
  | [] => by
    show List.lookup g [(f, v)] = _
    by_cases h : g = f
    · have hb : (g == f) = true := beq_iff_eq.mpr h
      simp only [List.lookup, hb, if_pos h]
    · have hb : (g == f) = false := beq_eq_false_iff_ne.mpr h
      simp only [List.lookup, hb, if_neg h]
  | (k, x) :: r => by
    have ih := lookup_putF f g v r
    rw [show putF f v ((k, x) :: r) = (if k = f then (k, v) :: r else (k, x) :: putF f v r) from rfl]
    by_cases hk : k = f
    · rw [if_pos hk]
      by_cases h : g = k
      · have hb : (g == k) = true := beq_iff_eq.mpr h
        simp only [List.lookup, hb, if_pos (h.trans hk)]
      · have hb : (g == k) = false := beq_eq_false_iff_ne.mpr h
        simp only [List.lookup, hb, if_neg (fun e : g = f => h (e.trans hk.symm))]
    · rw [if_neg hk]
      by_cases h : g = k
      · have hb : (g == k) = true := beq_iff_eq.mpr h
        simp only [List.lookup, hb, if_neg (fun e : g = f => hk (h.symm.trans e))]
      · have hb : (g == k) = false := beq_eq_false_iff_ne.mpr h
        simp only [List.lookup, hb]
        exact ih
theorem keys_putF (f : Str) (v : V) : ∀ fs : List (Str × V), f ∈ (putF f v fs).map (·.1) ∧ ∀ g, g ∈ fs.map (·.1) → g ∈ (putF f v fs).map (·.1)
  | [] => ⟨by simp [putF], fun g h => by simp at h⟩
  | (k, x) :: r => by
    obtain ⟨i1, i2⟩ := keys_putF f v r
    rw [show putF f v ((k, x) :: r) = (if k = f then (k, v) :: r else (k, x) :: putF f v r) from rfl]
    by_cases hk : k = f
    · rw [if_pos hk]
      subst hk
      exact ⟨by simp, fun g h => by simpa using h⟩
    · rw [if_neg hk]
      refine ⟨?_, fun g h => ?_⟩
      · rw [List.map_cons]
        exact List.mem_cons_of_mem _ i1
      · rw [List.map_cons] at h ⊢
        rcases List.mem_cons.mp h with e | e
        · exact List.mem_cons.mpr (.inl e)
        · exact List.mem_cons_of_mem _ (i2 g e)
theorem length_putF (f : Str) (v : V) : ∀ fs : List (Str × V), (putF f v fs).length ≤ fs.length + 1
  | [] => by simp [putF]
  | (k, x) :: r => by
    have ih := length_putF f v r
    rw [show putF f v ((k, x) :: r) = (if k = f then (k, v) :: r else (k, x) :: putF f v r) from rfl]
    by_cases hk : k = f
    · rw [if_pos hk, List.length_cons, List.length_cons]; omega
    · rw [if_neg hk, List.length_cons, List.length_cons]; omega
theorem RelO.some_of {v : V} {o : Option Value} (r : RelO (some v) o) : ∃ u, o = some u ∧ RelV v u := by
  cases o with
  | none => exact (show False from r).elim
  | some u => exact ⟨u, rfl, r⟩
theorem RelO.none_of {o : Option Value} (r : RelO none o) : o = none := by
  cases o with
  | none => rfl
  | some u => exact (show False from r).elim
theorem handed_of {v : V} {u : Value} (r : RelV v u) : PySem.W.handedIn u = true := by
  cases v with
  | non => cases (show u = Value.none from r); rfl
  | bl b => cases (show u = Value.bool b from r); rfl
  | int i => obtain ⟨t, e⟩ := (show ∃ t, u = Value.int i t from r); cases e; rfl
  | str x => obtain ⟨t, e⟩ := (show ∃ t, u = Value.str x t from r); cases e; rfl
  | byt b => obtain ⟨t, e⟩ := (show ∃ t, u = Value.bytes b t from r); cases e; rfl
  | flt b => obtain ⟨t, e⟩ := (show ∃ t, u = Value.float b t from r); cases e; rfl
  | ref a => cases (show u = Value.ref a from r); rfl
  | ty n => cases (show u = Value.type n from r); rfl
section
variable {P : Program} {w : World} {H H' : Hp} {h h' : Heap} {a C dx : Addr} {fs fs' : List (Str × V)}
theorem ins_get (hok : HOk P w H h) (e : H a = some (.ins C dx fs)) : ∃ mA, ObjM h a dx C mA ∧ (∀ f, RelO (fs.lookup f) (mA f)) ∧ PySem.Within mA (fs.map (·.1)) ∧ fs.length ≤ 1000 ∧ H dx = some (.own a) := by
  obtain ⟨d, z, ne, ob, mA, n, r, q⟩ := (show ObjOk P w H h a (.ins C dx fs) from hok a _ e)
  exact ⟨mA, ⟨ob, n, ne⟩, r, q, z, d⟩
end
/-! ### what of the text a class must have -/
structure Cls (K : PySem.W.Frag) (C : Addr) : Prop where
  pg : PySem.W.plainGet K C Str.empty = true
  hd : PySem.W.hasDictIn K C = true
  po : PySem.W.plainOver K C = true
  sa : PySem.W.findIn K (.ref C) "__setattr__" = some (some (.builtin "object.__setattr__"))
theorem Cls.get {K : PySem.W.Frag} {C : Addr} (c : Cls K C) (f : Str) : PySem.W.plainGet K C f = true := c.pg
/-- no class of it has the name -/
def NoAttr (K : PySem.W.Frag) (C : Addr) (f : Str) : Prop := PySem.W.findIn K (.ref C) f = some none
theorem NoAttr.taker {K : PySem.W.Frag} {C : Addr} {f : Str} (n : NoAttr K C f) : PySem.W.takerIn K C f = some none := by
  unfold PySem.W.takerIn
  rw [show PySem.W.findIn K (.ref C) f = some none from n]
  rfl
/-- a constant of the class -/
structure Con (K : PySem.W.Frag) (C : Addr) (f : Str) (v : V) (u : Value) : Prop where
  at_ : PySem.W.findIn K (.ref C) f = some (some u)
  rel : RelV v u
  get : PySem.W.specialIn K u "__get__" = some none
  cp : PySem.W.copiedNames.contains f = false
/-- a method: a plain def of the class or of one above it -/
structure Meth (K : PySem.W.Frag) (C : Addr) (m : Str) (f : Addr) : Prop where
  at_ : PySem.W.findIn K (.ref C) m = some (some (.ref f))
  fn : PySem.W.isFn K (.ref f) = true
  kp : PySem.W.keepIn K (.ref f) = true
section
variable {X : Cx} {pins : List (Addr × Obj)} {σ : St} {H : Hp} {s : Shared} {a C dx : Addr} {fs : List (Str × V)} {f : Str} {v : V} {A : Around} {E : Value → Shared → Prop}
theorem getattr_ok {b : Bool} {Q : Value → Shared → Prop} (I : Inv X pins σ H s) (e : H a = some (.ins C dx fs)) (c : Cls X.K C) (n : NoAttr X.K C f) (l : fs.lookup f = some v)
    (h : ∀ u s', Inv X pins σ H s' → RelV v u → Q u s') : wpAny (model X.prog X.w) A (getAttr (.ref a) f b) Q E s := by
  obtain ⟨mA, O, r, _, _, _⟩ := ins_get I.hok e
  obtain ⟨u, hu, ru⟩ := RelO.some_of (v := v) (o := mA f) (by rw [← l]; exact r f)
  exact get_map I.kIn O (c.get f) c.hd n hu (handed_of ru) (h u _ (I.tok _) ru)
theorem getmeth_ok {m : Str} {g : Addr} {pl : Sem Bool} {Q : Value × List Value → Shared → Prop} (I : Inv X pins σ H s) (e : H a = some (.ins C dx fs)) (c : Cls X.K C) (k : Meth X.K C m g) (l : fs.lookup m = none)
    (h : Q (.ref g, [.ref a]) s) : wpAny (model X.prog X.w) A (getMethod (.ref a) m pl) Q E s := by
  obtain ⟨mA, O, r, _, _, _⟩ := ins_get I.hok e
  have hn : mA m = none := RelO.none_of (by rw [← l]; exact r m)
  exact get_meth I.kIn O (c.get m) k.at_ k.fn hn h
theorem setattr_ok {y : V} {u : Value} {Q : Unit → Shared → Prop} (I : Inv X pins σ H s) (e : H a = some (.ins C dx fs)) (c : Cls X.K C) (n : NoAttr X.K C f) (hl : fs.length < 1000) (ry : RelV y u)
    (h : ∀ s', Inv X pins σ (upd H a (.ins C dx (putF f y fs))) s' → Q () s') : wpAny (model X.prog X.w) A (setAttr (.ref a) f u) Q E s := by
  obtain ⟨mA, O, r, wi, _, ho⟩ := ins_get I.hok e
  have hz : (fs.map (·.1)).length ≤ sizeLine := by rw [List.length_map, sizeLine_eq]; omega
  refine set_map I.kIn O c.sa c.po n.taker c.hd wi hz fun h' O' sb => h _ ?_
  have hd : ∃ o, h'.get? dx = some o := let ⟨o, _, _, e', _⟩ := O'.ns; ⟨o, e'⟩
  refine I.write (x := a) (e := dx) (by rw [e]; exact True.intro) (.inr ho) (fun b q hb z => (sb.2 b hb).trans z) hd ?_
  refine ⟨by rw [upd_ne O.ne]; exact ho, ?_, O.ne, O'.obj, _, O'.ns, fun g => ?_, fun g hg => ?_⟩
  · have := length_putF f y fs; omega
  · show RelO ((putF f y fs).lookup g) (if g = f then some u else mA g)
    rw [lookup_putF]
    by_cases q : g = f
    · rw [if_pos q, if_pos q]; exact ry
    · rw [if_neg q, if_neg q]; exact r g
  · by_cases q : g = f
    · rw [q]; exact (keys_putF f y fs).1
    · refine (keys_putF f y fs).2 g (wi g fun z => hg ?_)
      show (if g = f then some u else mA g) = none
      rw [if_neg q]; exact z
/-- a new instance, tracked, without attributes -/
theorem Inv.made (I : Inv X pins σ H s) : Inv X pins σ (upd (upd H s.heap.objs.size (.own (s.heap.objs.size + 1))) (s.heap.objs.size + 1) (.ins C s.heap.objs.size []))
    { s with heap := (s.heap.push PySem.W.emptyDict).push (PySem.W.instObj C s.heap.objs.size) } := by
  have e1 : (s.heap.push PySem.W.emptyDict).get? s.heap.objs.size = some PySem.W.emptyDict := Heap.get?_push_size s.heap rfl
  have e2 : ((s.heap.push PySem.W.emptyDict).push (PySem.W.instObj C s.heap.objs.size)).get? (s.heap.objs.size + 1) = some (PySem.W.instObj C s.heap.objs.size) := by
    have := Heap.get?_push_size (s.heap.push PySem.W.emptyDict) (o := PySem.W.instObj C s.heap.objs.size) rfl
    rwa [Heap.size_push] at this
  have e3 : (s.heap.push PySem.W.emptyDict).Ns s.heap.objs.size (fun _ => none) := ⟨PySem.W.emptyDict, #[], _, e1, rfl, (fun e he => absurd he (by simp)), fun _ => rfl⟩
  have I1 := I.laid (a := s.heap.objs.size) (o := .own (s.heap.objs.size + 1)) (h' := s.heap.push PySem.W.emptyDict) (t' := s.toks) (fun b u q => Heap.get?_push_of_some _ q) (Nat.le_refl _) ⟨_, e1⟩
  refine I1.laid (a := s.heap.objs.size + 1) (o := .ins C s.heap.objs.size []) (t' := s.toks) (fun b u q => Heap.get?_push_of_some _ q) (Nat.le_of_eq (Heap.size_push _ _)) ?_
  have ne : s.heap.objs.size ≠ s.heap.objs.size + 1 := Nat.ne_of_lt (Nat.lt_succ_self _)
  refine ⟨by rw [upd_ne ne, upd_same], Nat.zero_le _, ne, e2, fun _ => none, (Heap.Ns1.of_empty e3).at fun o q => Heap.get?_push_of_some _ q, fun _ => True.intro, fun y hy => absurd rfl hy⟩
/-- e.f where nothing but the object is asked: through attributeBase (super) and the last hold -/
theorem attr_of {prog : Program} {w : World} {env : Env} {e : Expr} {f : Str} {pos : Pos} {s : Shared} {Q : Value → Shared → Prop} (hb : attributeBase e f env (eval e env) = eval e env)
    (h : wpAny (model prog w) A (eval e env) (fun o s₁ => wpAny (model prog w) A (getAttr o f true) Q E s₁) E s) : wpAny (model prog w) A (eval (.Attribute e f pos) env) Q E s :=
  Attribute_any_ h (by rw [arm_eval_Attribute, hb])
end
/-! ### readings and rules -/
/-- e.f, an attribute of the instance -/
def tFld (K : PySem.W.Frag) (ta : TE) (f : Str) : TE := fun σ H Q => ta σ H fun x H1 => ∃ a C dx fs v, x = .ref a ∧ H1 a = some (.ins C dx fs) ∧ Cls K C ∧ NoAttr K C f ∧ fs.lookup f = some v ∧ Q v H1
/-- e.f = value -/
def sFld (K : PySem.W.Frag) (ta tv : TE) (f : Str) : TS := fun D σ H => tv σ H fun y H1 => ta σ H1 fun x H2 => ∃ a C dx fs, x = .ref a ∧ H2 a = some (.ins C dx fs) ∧ Cls K C ∧ NoAttr K C f ∧ fs.length < 1000 ∧
  D.nx σ (upd H2 a (.ins C dx (putF f y fs)))
section
variable {X : Cx} {o e value : Expr} {f : Str} {pos pos' tpos : Pos} {ta tv : TE}
theorem pe_fld (he : PE X e ta) (hb : attributeBase e f X.env (eval e X.env) = eval e X.env) : PE X (.Attribute e f pos) (tFld X.K ta f) := by
  intro pins s σ H Q I h
  refine attr_of hb (thn (he pins s σ H _ I h) fun u s1 ⟨x, H1, I1, rx, a, C, dx, fs, v, ex, ea, c, n, l, q⟩ => ?_)
  subst ex
  obtain rfl : u = Value.ref a := rx
  exact getattr_ok I1 ea c n l fun u' s2 I2 ru => ⟨v, H1, I2, ru, q⟩
theorem ps_fld (ha : PE X o ta) (hv : PE X value tv) (hs : swapsWith value (some (.Attribute o f pos')) pos.line X.env = pure false) : PS X (.Assign [.Attribute o f pos'] value pos) (sFld X.K ta tv f) := by
  intro pins s σ H D I h
  refine plainObj_wpAny_Assign_Attribute (thn (hv pins s σ H _ I h) fun u s1 ⟨y, H1, I1, ry, q⟩ => thn (ha pins s1 σ H1 _ I1 q) fun ov s2 ⟨x, H2, I2, rx, a, C, dx, fs, ex, ea, c, n, l, q2⟩ => ?_) hs
  subst ex
  obtain rfl : ov = Value.ref a := rx
  exact setattr_ok I2 ea c n l ry fun s3 I3 => ⟨σ, _, I3, q2⟩
/-- what is between an instance and its method: the tree of a method call -/
theorem methcall_of {pl : Sem Bool} {m : Str} {apos : Pos} {args : List Expr} {pins : List (Addr × Obj)} {s : Shared} {σ : St} {H : Hp} {Q : Value → Shared → Prop} {te : TE} (he : PE X e te) (I : Inv X pins σ H s)
    (h : te σ H fun x H1 => ∃ a C dx fs g, x = .ref a ∧ H1 a = some (.ins C dx fs) ∧ Cls X.K C ∧ Meth X.K C m g ∧ fs.lookup m = none ∧
      ∀ s1, Inv X pins σ H1 s1 → wpAny (model X.prog X.w) X.A (callWith pos (.ref g) [.ref a] (backTo pos (starEach args X.env)) (backToKw pos (keywordEach [] X.env))) Q X.xe s1)
    (ht : eval (.Call (.Attribute e m apos) args [] pos) X.env = (do
      let ov ← eval e X.env
      standAt apos.atName
      let (f, first) ← holding [ov] (getMethod ov m pl)
      callWith pos f first (backTo pos (starEach args X.env)) (backToKw pos (keywordEach [] X.env)))) :
    wpAny (model X.prog X.w) X.A (eval (.Call (.Attribute e m apos) args [] pos) X.env) Q X.xe s := by
  refine PySem.W.methodCall_KW (pl := pl) (thn (he pins s σ H _ I h) fun u s1 ⟨x, H1, I1, rx, a, C, dx, fs, g, ex, ea, c, k, l, q⟩ => ?_) ht
  subst ex
  obtain rfl : u = Value.ref a := rx
  exact getmeth_ok I1 ea c k l (q s1 I1)
end
/-! ### isinstance -/
section
variable {X : Cx} {pins : List (Addr × Obj)} {σ : St} {H : Hp} {s : Shared} {A : Around} {E : Value → Shared → Prop} {Q : Value → Shared → Prop} {c : Value} {b : Bool}
/-- the type of a value, as the fragment's deciders take it; for an instance its class -/
inductive TyOf (K : PySem.W.Frag) (H : Hp) : V → Value → Prop where
  | non : TyOf K H .non (.type "NoneType")
  | bl (x : Bool) : TyOf K H (.bl x) (.type "bool")
  | int (i : Int) : TyOf K H (.int i) (.type "int")
  | str (x : Str) : TyOf K H (.str x) (.type "str")
  | flt (x : UInt64) : TyOf K H (.flt x) (.type "float")
  | lst {a : Addr} {xs : List V} (e : H a = some (.lst xs)) : TyOf K H (.ref a) (.type "list")
  | frz {a : Addr} {o : Obj} {xs : List V} (e : H a = some (.frz o (.lst xs))) : TyOf K H (.ref a) (.type "list")
  | tup {a : Addr} {xs : List V} (e : H a = some (.tup xs)) : TyOf K H (.ref a) (.type "tuple")
  | dK {a : Addr} {kvs : List (Key × V)} (e : H a = some (.dK kvs)) : TyOf K H (.ref a) (.type "dict")
  | dT {a : Addr} {kvs : List (List Key × V)} (e : H a = some (.dT kvs)) : TyOf K H (.ref a) (.type "dict")
  | ins {a C dx : Addr} {fs : List (Str × V)} (e : H a = some (.ins C dx fs)) (cl : Cls K C) (ha : PySem.W.findIn K (.ref C) "__class__" = some (some (.builtin "object.__class__")))
      (hn : PySem.W.specialIn K (.builtin "object.__class__") "__get__" = some (some (.builtin "getset_descriptor.__get__"))) (htk : PySem.W.takesIn K (.builtin "object.__class__") = some true)
      (hm : PySem.W.mroIn K C (.type "object") = some true) : TyOf K H (.ref a) (.ref C)
/-- isinstance(x, c) for one class c, a built-in or an own one: kitOne's answer -/
theorem isinst_ok {x : V} {u t : Value} (I : Inv X pins σ H s) (rx : RelV x u) (ty : TyOf X.K H x t) (e : PySem.W.kitOne X.K t c = some b) (h : ∀ tk, Q (.bool b) { s with toks := tk }) :
    wpAny (model X.prog X.w) A (call (.builtin "isinstance") [u, c]) Q E s := by
  cases ty with
  | non => cases (show u = Value.none from rx); exact PySem.W.kia_one PySem.W.kitx_none I.kIn True.intro e (fun z => nomatch z) h
  | bl y => cases (show u = Value.bool y from rx); exact PySem.W.kia_one PySem.W.kitx_bool I.kIn True.intro e (fun z => nomatch z) h
  | int i => obtain ⟨t, q⟩ := (show ∃ t, u = Value.int i t from rx); cases q; exact PySem.W.kia_one PySem.W.kitx_int I.kIn True.intro e (fun z => nomatch z) h
  | str y => obtain ⟨t, q⟩ := (show ∃ t, u = Value.str y t from rx); cases q; exact PySem.W.kia_one PySem.W.kitx_str I.kIn True.intro e (fun z => nomatch z) h
  | flt y => obtain ⟨t, q⟩ := (show ∃ t, u = Value.float y t from rx); cases q; exact PySem.W.kia_one PySem.W.kitx_float I.kIn True.intro e (fun z => nomatch z) h
  | @lst a xs ea =>
    cases (show u = Value.ref a from rx)
    obtain ⟨_, _, n, _, h1⟩ := (show ObjOk X.prog X.w H s.heap a (.lst xs) from I.hok a _ ea)
    exact PySem.W.kia_one PySem.W.kitx_list I.kIn ⟨_, h1, rfl⟩ e (fun z => nomatch z) h
  | @frz a ob xs ea =>
    cases (show u = Value.ref a from rx)
    obtain ⟨_, _, _, n, _, h1⟩ := (show ObjOk X.prog X.w H s.heap a (.frz ob (.lst xs)) from I.hok a _ ea)
    exact PySem.W.kia_one PySem.W.kitx_list I.kIn ⟨_, h1, rfl⟩ e (fun z => nomatch z) h
  | @tup a xs ea =>
    cases (show u = Value.ref a from rx)
    obtain ⟨_, _, _, p⟩ := (show ObjOk X.prog X.w H s.heap a (.tup xs) from I.hok a _ ea)
    obtain ⟨o, h1, h2, _⟩ := p
    exact PySem.W.kia_one PySem.W.kitx_tuple I.kIn ⟨o, h1, h2⟩ e (fun z => nomatch z) h
  | @dK a kvs ea =>
    cases (show u = Value.ref a from rx)
    obtain ⟨_, _, vs, _, p⟩ := (show ObjOk X.prog X.w H s.heap a (.dK kvs) from I.hok a _ ea)
    obtain ⟨o, es, ep, h1, h2, _⟩ := p
    exact PySem.W.kia_one PySem.W.kitx_dict I.kIn ⟨o, h1, h2.1⟩ e (fun z => nomatch z) h
  | @dT a kvs ea =>
    cases (show u = Value.ref a from rx)
    obtain ⟨_, _, xs, _, o, es, ep, h1, h2, _⟩ := (show ObjOk X.prog X.w H s.heap a (.dT kvs) from I.hok a _ ea)
    exact PySem.W.kia_one PySem.W.kitx_dict I.kIn ⟨o, h1, h2.1⟩ e (fun z => nomatch z) h
  | @ins a C dx fs ea cl ha hn htk hm =>
    cases (show u = Value.ref a from rx)
    obtain ⟨mA, O, _⟩ := ins_get I.hok ea
    obtain ⟨od, J, _⟩ := O.look
    exact PySem.W.kia_one (PySem.W.kitx_own (cl.get _) cl.hd ha hn htk hm) I.kIn J e (fun z => nomatch z) h
end
end L2
namespace L2
open PySem PySem.Spec PyProof.Rows
/-! ### room -/
structure Room (k : Nat) (A : Around) : Prop where
  hd : A.handled = none
  dp : A.depth + 3 * k + 5 < recursionLimit
  un : A.units + 16 * k + 200 < cLine
theorem Room.mono {j k : Nat} {A : Around} (r : Room k A) (h : j ≤ k) : Room j A := ⟨r.hd, by have := r.dp; omega, by have := r.un; omega⟩
theorem Room.deeper {k : Nat} {A : Around} (r : Room (k + 1) A) (env : Env) : Room k (A.deeper env) :=
  ⟨r.hd, by have := r.dp; show A.depth + 1 + 3 * k + 5 < _; omega, by have := r.un; show A.units + 3 + 16 * k + 200 < _; omega⟩
theorem Room.in1 {k : Nat} {A : Around} (r : Room (k + 1) A) : Room k A.in1 :=
  ⟨r.hd, by have := r.dp; show A.depth + 3 * k + 5 < _; omega, by have := r.un; show A.units + 1 + 16 * k + 200 < _; omega⟩
theorem make_depth {A : Around} {C : Addr} {us : List Value} {kw : List (Str × Value)} : (A.under (.builtin "type.__call__" ⟨.ref C :: us, kw⟩)).depth = A.depth + 1 := by
  first | rfl | simp [Around.under, Code.weight, Code.isCreation, Code.isGuard, Code.isCaller, Code.frames, Code.isFrame, guardIds]
theorem make_units {A : Around} {C : Addr} {us : List Value} {kw : List (Str × Value)} : (A.under (.builtin "type.__call__" ⟨.ref C :: us, kw⟩)).units = A.units + 1 := by
  first | rfl | simp [Around.under, Code.cUnits, Code.frames, Code.isFrame]
theorem Room.make {k : Nat} {A : Around} (r : Room (k + 1) A) (C : Addr) (us : List Value) (kw : List (Str × Value)) : Room k (A.under (.builtin "type.__call__" ⟨.ref C :: us, kw⟩)) :=
  ⟨r.hd, by have := r.dp; rw [make_depth]; omega, by have := r.un; rw [make_units]; omega⟩
theorem Room.depth {k : Nat} {A : Around} (r : Room k A) : A.depth < recursionLimit := by have := r.dp; omega
theorem Room.units {k : Nat} {A : Around} (r : Room k A) : A.units + 64 < cLine := by have := r.un; omega
theorem Room.units0 {k : Nat} {A : Around} (r : Room k A) : A.units < cLine := by have := r.un; omega
/-! ### argument lists and displays -/
def tNil : TA := fun _ H Q => Q [] H
def tCons (ta : TE) (tr : TA) : TA := fun σ H Q => ta σ H fun x H1 => tr σ H1 fun xs H2 => Q (x :: xs) H2
section
variable {X : Cx} {e : Expr} {es : List Expr} {te : TE} {t : TA} {pos : Pos}
theorem pa_nil : PA X [] tNil := fun _ _ _ _ H Q I h => Calls.spliced_nil ⟨[], H, I, .nil, h⟩
theorem pa_cons (ha : PE X e te) (hr : PA X es t) (hs : starEach (e :: es) X.env = (false, eval e X.env) :: starEach es X.env := by rfl) : PA X (e :: es) (tCons te t) := by
  intro pos pins s σ H Q I h
  rw [hs]
  show wpAny _ _ (spliced ((false, eval e X.env) :: backTo pos (starEach es X.env))) _ _ s
  refine Calls.spliced_cons (thn (ha pins s σ H _ I h) fun u s1 ⟨x, H1, I1, r1, q1⟩ => ?_)
  exact thn (hr pos pins s1 σ H1 _ I1 q1) fun us s2 ⟨xs, H2, I2, r2, q2⟩ => ⟨x :: xs, H2, I2, .cons r1 r2, q2⟩
def tLst (t : TA) : TE := fun σ H Q => t σ H fun xs H1 => xs.length ≤ sizeLine ∧ ∀ p, H1 p = none → Q (.ref p) (upd H1 p (.lst xs))
theorem pe_lst (h : PA X es t) : PE X (.List es pos) (tLst t) := by
  intro pins s σ H Q I hq
  refine wpAny_List_spliced (thn (h pos pins s σ H _ I hq) fun us s1 ⟨xs, H1, I1, r, z, q⟩ => ⟨by rw [← r.length]; exact z, ?_⟩)
  have hf : H1 s1.heap.objs.size = none := I1.hok.fresh (Nat.le_refl _)
  refine ⟨.ref s1.heap.objs.size, upd H1 s1.heap.objs.size (.lst xs), I1.laid (t' := s1.toks) (fun b u e => Heap.get?_push_of_some _ e) (Nat.le_refl _) ?_, rfl, q _ hf⟩
  exact ⟨z, us, 0, r, Heap.get?_push_size _ rfl⟩
end
/-! ### what a def promises -/
/-- a def's promise: the bound arguments in the parameters' order, the heap, the wanted end, the wanted exception -/
abbrev Sp := List V → Hp → VK → XK → Prop
/-- how an exception lies behind a call (file 08 gives it): the callers' frames, abstract heap and state ahead of the call, the wish, the exception, the state -/
abbrev CXT := List Env → Hp → Shared → XK → Value → Shared → Prop
/-- the state at a call -/
structure Env0 (P : Program) (w : World) (K : PySem.W.Frag) (mg : Str → Option Value) (base : Heap) (A : Around) (outer : List Env) (s : Shared) (H : Hp) : Prop where
  frames : A.frames = some outer
  mod : Mod K mg base
  bs : ∀ b o, base.get? b = some o → s.heap.get? b = some o ∧ H b = none
  bsz : base.objs.size ≤ s.heap.objs.size
  funs : s.heap.FunFrames base outer
  frf : ∀ b ∈ frs outer, H b = none
  hok : HOk P w H s.heap
  bare : AllBare s.gens
/-- a call's end -/
def CE (outer : List Env) (P : Program) (w : World) (H : Hp) (s : Shared) (Q : VK) (u : Value) (s' : Shared) : Prop :=
  ∃ v H', s'.os = s.os ∧ AllBare s'.gens ∧ Un (frs outer) [] H H' s.heap s'.heap ∧ HOk P w H' s'.heap ∧ RelV v u ∧ Q v H'
def CR (CX : CXT) (outer : List Env) (P : Program) (w : World) (H : Hp) (s : Shared) (Q : VK) (E : XK) (r : Result) (s' : Shared) : Prop :=
  match r with
  | .ok (.ret u) => CE outer P w H s Q u s'
  | .ok _ => False
  | .error e => CX outer H s E e s'
structure FnOk (P : Program) (w : World) (K : PySem.W.Frag) (mg : Str → Option Value) (base : Heap) (CX : CXT) (k : Nat) (f : Addr) (fd : FuncData) (ps : List Str) (sp : Sp) : Prop where
  len : ∀ vs H Q E, sp vs H Q E → vs.length = ps.length
  run : ∀ (A : Around) (outer : List Env) (s : Shared) (H : Hp) (args : Args) (us : List Value) (vs : List V) (Q : VK) (E : XK), Room k A → Env0 P w K mg base A outer s H → BindsTo s fd args (ps.zip us) → Vals vs us → sp vs H Q E →
    codeAny (model P w) A (.call (.ref f) args) (CR CX outer P w H s Q E) s
theorem FnOk.mono {P : Program} {w : World} {K : PySem.W.Frag} {mg : Str → Option Value} {base : Heap} {CX : CXT} {j k : Nat} {f : Addr} {fd : FuncData} {ps : List Str} {sp : Sp} (F : FnOk P w K mg base CX j f fd ps sp) (h : j ≤ k) :
    FnOk P w K mg base CX k f fd ps sp := ⟨F.len, fun A outer s H args us vs Q E hr => F.run A outer s H args us vs Q E (hr.mono h)⟩
theorem Env0.make {P : Program} {w : World} {K : PySem.W.Frag} {mg : Str → Option Value} {base : Heap} {A : Around} {outer : List Env} {s : Shared} {H : Hp} (e : Env0 P w K mg base A outer s H) (C : Addr) (us : List Value) (kw : List (Str × Value)) :
    Env0 P w K mg base (A.under (.builtin "type.__call__" ⟨.ref C :: us, kw⟩)) outer s H := ⟨by first | exact e.frames | (simpa [Around.under, Code.envs, Code.isFrame, pushEnvs] using e.frames), e.mod, e.bs, e.bsz, e.funs, e.frf, e.hok, e.bare⟩
theorem Env0.in1 {P : Program} {w : World} {K : PySem.W.Frag} {mg : Str → Option Value} {base : Heap} {A : Around} {outer : List Env} {s : Shared} {H : Hp} (e : Env0 P w K mg base A outer s H) :
    Env0 P w K mg base A.in1 outer s H := ⟨e.frames, e.mod, e.bs, e.bsz, e.funs, e.frf, e.hok, e.bare⟩
section
variable {X : Cx} {pins : List (Addr × Obj)} {σ : St} {H : Hp} {s s' : Shared}
/-- from a body: what a callee wants -/
theorem Inv.env0 (I : Inv X pins σ H s) : Env0 X.prog X.w X.K X.mg X.base X.A X.stack s H :=
  ⟨I.ok.frames, I.ok.mod, I.bs, Nat.le_trans I.ok.bsz I.sz, I.stack, I.stkFree, I.hok, I.bare⟩
/-- behind a call -/
theorem Inv.after {Q : VK} {u : Value} (I : Inv X pins σ H s) (h : CE X.stack X.prog X.w H s Q u s') : EP X pins σ Q u s' := by
  obtain ⟨v, H', os, bare, un, hok, r, q⟩ := h
  obtain ⟨hh, g, d, t, os'⟩ := s'
  obtain rfl : os' = s.os := os
  exact ⟨v, H', I.call (h' := hh) (g' := g) (d' := d) (t' := t) (ch := []) un hok bare (fun b z => absurd z (by simp)), r, q⟩
end
/-! ### calls -/
/-- f(..): the written arguments, then the defaults dvs; E: what is wanted of an exception -/
def tCall (sp : Sp) (dvs : List V) (E : XK) (t : TA) : TE := fun σ H Q => t σ H fun vs H1 => sp (vs ++ dvs) H1 Q E
/-- o.m(..) of an instance of the class at C -/
def tMeth (C : Addr) (m : Str) (sp : Sp) (dvs : List V) (E : XK) (ta : TE) (t : TA) : TE := fun σ H Q => ta σ H fun x H1 => ∃ a dx fs, x = .ref a ∧ H1 a = some (.ins C dx fs) ∧ fs.lookup m = none ∧
  t σ H1 fun vs H2 => sp (x :: (vs ++ dvs)) H2 Q E
/-- C(..): a new instance and its dict, then __init__ -/
def tMake (C : Addr) (sp : Sp) (dvs : List V) (E : XK) (t : TA) : TE := fun σ H Q => t σ H fun vs H1 => ∀ x dx, H1 x = none → H1 dx = none → dx ≠ x →
  sp (.ref x :: (vs ++ dvs)) (upd (upd H1 dx (.own x)) x (.ins C dx [])) (fun v H2 => v = .non ∧ Q (.ref x) H2) E
/-- how the parameters are bound: us the positional arguments, kw the keywords' values by name, ds the defaults that fill up -/
def Binds (K : PySem.W.Frag) (fd : FuncData) (ps : List Str) (ds : List Value) : Prop :=
  ∀ (s : Shared) (us : List Value), K.In s.heap → (us ++ ds).length = ps.length → BindsTo s fd ⟨us, []⟩ (ps.zip (us ++ ds))
/-- every parameter is given -/
theorem Binds.all {K : PySem.W.Frag} {fd : FuncData} {ps : List Str} (h : ∀ us : List Value, us.length = ps.length → bindArgs fd ⟨us, []⟩ = pure (ps.zip us)) : Binds K fd ps [] := fun s us _ hl => by
  rw [List.append_nil] at hl ⊢
  exact .of_eq (h us hl)
/-- an exception of a callee reaches what this body wants of exceptions -/
def Passes (CX : CXT) (X : Cx) (E : XK) : Prop := ∀ (pins : List (Addr × Obj)) (σ : St) (H : Hp) (s : Shared) (e : Value) (s' : Shared), Inv X pins σ H s → CX X.stack H s E e s' → X.xe e s'
section
variable {X : Cx} {CX : CXT} {k : Nat} {f C : Addr} {fd : FuncData} {ps : List Str} {sp : Sp} {dvs : List V} {ds : List Value} {E : XK} {x m : Str} {p pos apos : Pos} {e o : Expr} {es : List Expr} {ta : TE} {t : TA}
/-- the callee runs -/
theorem run_fn {pins : List (Addr × Obj)} {σ : St} {H : Hp} {s : Shared} {Q : VK} {us : List Value} {vs : List V} (F : FnOk X.prog X.w X.K X.mg X.base CX k f fd ps sp) (hr : Room k X.A) (hb : Binds X.K fd ps ds) (hd : Vals dvs ds) (hx : Passes CX X E)
    (I : Inv X pins σ H s) (r : Vals vs us) (h : sp (vs ++ dvs) H Q E) : wpAny (model X.prog X.w) X.A (call (.ref f) us) (EP X pins σ Q) X.xe s := by
  have r2 : Vals (vs ++ dvs) (us ++ ds) := r.append hd
  have hl : (us ++ ds).length = ps.length := by rw [← r2.length]; exact F.len _ _ _ _ h
  refine wpAny_call (codeAny_mono (F.run X.A X.stack s H ⟨us, []⟩ (us ++ ds) (vs ++ dvs) Q E hr I.env0 (hb s us I.kIn hl) r2 h) fun r s' hq => ?_)
  cases r with
  | error e => exact hx pins σ H s e s' I hq
  | ok fl =>
    cases fl with
    | ret u => exact I.after hq
    | next => exact False.elim hq
    | brk => exact False.elim hq
    | cont => exact False.elim hq
theorem pe_call (F : FnOk X.prog X.w X.K X.mg X.base CX k f fd ps sp) (hr : Room k X.A) (hg : Gl X x) (hm : X.mg x = some (.ref f)) (hk : PySem.W.keepIn X.K (.ref f) = true) (hb : Binds X.K fd ps ds) (hd : Vals dvs ds) (hx : Passes CX X E)
    (ha : PA X (e :: es) t) (hdb : (x == ("__debug__" : Str)) = false := by decide) (he : starEach (e :: es) X.env = (false, eval e X.env) :: starEach es X.env := by rfl) (hpl : (backTo pos (starEach es X.env)).any (·.1) = false := by rfl) :
    PE X (.Call (.Name x p) (e :: es) [] pos) (tCall sp dvs E t) := by
  intro pins s σ H Q I h
  refine wpAny_Call_Name_kw (ld_glob I hg hm ?_ hdb)
  refine PySem.W.callWith_K (h₀ := X.base) I.ok.mod.kin hk (thn (ha pos pins s σ H _ I h) fun us s1 ⟨vs, H1, I1, r, q⟩ => ⟨I1.kIn, ?_⟩) he hpl
  exact run_fn F hr hb hd hx I1 r q
/-- o.m(e, ..) -/
theorem pe_meth {pl : Sem Bool} (he : PE X o ta) (c : Cls X.K C) (hm : Meth X.K C m f) (F : FnOk X.prog X.w X.K X.mg X.base CX k f fd ps sp) (hr : Room k X.A) (hb : Binds X.K fd ps ds) (hd : Vals dvs ds) (hx : Passes CX X E) (ha : PA X (e :: es) t)
    (hst : starEach (e :: es) X.env = (false, eval e X.env) :: starEach es X.env := by rfl) (hpl : (backTo pos (starEach es X.env)).any (·.1) = false := by rfl)
    (ht : eval (.Call (.Attribute o m apos) (e :: es) [] pos) X.env = (do
      let ov ← eval o X.env
      standAt apos.atName
      let (f, first) ← holding [ov] (getMethod ov m pl)
      callWith pos f first (backTo pos (starEach (e :: es) X.env)) (backToKw pos (keywordEach [] X.env))) := by rfl) :
    PE X (.Call (.Attribute o m apos) (e :: es) [] pos) (tMeth C m sp dvs E ta t) := by
  intro pins s σ H Q I h
  refine PySem.W.methodCall_KW (pl := pl) (thn (he pins s σ H _ I h) fun u s1 ⟨x, H1, I1, rx, a, dx, fs, ex, ea, l, q⟩ => ?_) ht
  subst ex
  obtain rfl : u = Value.ref a := rx
  refine getmeth_ok I1 ea c hm l ?_
  refine PySem.W.callWith_K (first := [.ref a]) (h₀ := X.base) I.ok.mod.kin hm.kp (thn (ha pos pins s1 σ H1 _ I1 q) fun us s2 ⟨vs, H2, I2, r, q2⟩ => ⟨I2.kIn, ?_⟩) hst hpl
  exact run_fn (us := .ref a :: us) (vs := .ref a :: vs) F hr hb hd hx I2 (.cons rfl r) q2
/-- o.m() -/
theorem pe_meth0 {pl : Sem Bool} (he : PE X o ta) (c : Cls X.K C) (hm : Meth X.K C m f) (F : FnOk X.prog X.w X.K X.mg X.base CX k f fd ps sp) (hr : Room k X.A) (hb : Binds X.K fd ps ds) (hd : Vals dvs ds) (hx : Passes CX X E)
    (ht : eval (.Call (.Attribute o m apos) [] [] pos) X.env = (do
      let ov ← eval o X.env
      standAt apos.atName
      let (f, first) ← holding [ov] (getMethod ov m pl)
      callWith pos f first (backTo pos (starEach [] X.env)) (backToKw pos (keywordEach [] X.env))) := by rfl) :
    PE X (.Call (.Attribute o m apos) [] [] pos) (tMeth C m sp dvs E ta tNil) := by
  intro pins s σ H Q I h
  refine PySem.W.methodCall_KW (pl := pl) (thn (he pins s σ H _ I h) fun u s1 ⟨x, H1, I1, rx, a, dx, fs, ex, ea, l, q⟩ => ?_) ht
  subst ex
  obtain rfl : u = Value.ref a := rx
  refine getmeth_ok I1 ea c hm l ?_
  exact PySem.W.callWith_K0 (first := [.ref a]) I1.kIn hm.kp (run_fn (us := [.ref a]) (vs := [.ref a]) F hr hb hd hx I1 (.cons rfl .nil) q)
/-- what a class must have to be made -/
structure Mk (K : PySem.W.Frag) (C f : Addr) : Prop where
  makes : PySem.W.makesIn K C = true
  init : PySem.W.findIn K (.ref C) "__init__" = some (some (.ref f))
  fn : PySem.W.isFn K (.ref f) = true
  kp : PySem.W.keepIn K (.ref C) = true
theorem run_make {pins : List (Addr × Obj)} {σ : St} {H : Hp} {s : Shared} {Q : VK} {us : List Value} {vs : List V} (M : Mk X.K C f) (F : FnOk X.prog X.w X.K X.mg X.base CX k f fd ps sp) (hr : Room (k + 1) X.A) (hb : Binds X.K fd ps ds) (hd : Vals dvs ds)
    (hx : Passes CX X E) (I : Inv X pins σ H s) (r : Vals vs us)
    (h : ∀ x dx, H x = none → H dx = none → dx ≠ x → sp (.ref x :: (vs ++ dvs)) (upd (upd H dx (.own x)) x (.ins C dx [])) (fun v H2 => v = .non ∧ Q (.ref x) H2) E) :
    wpAny (model X.prog X.w) X.A (call (.ref C) us) (EP X pins σ Q) X.xe s := by
  have hq := h (s.heap.objs.size + 1) s.heap.objs.size (I.hok.fresh (Nat.le_succ _)) (I.hok.fresh (Nat.le_refl _)) (Nat.ne_of_lt (Nat.lt_succ_self _))
  have I2 := Inv.made (C := C) I
  have r2 : Vals (V.ref (s.heap.objs.size + 1) :: (vs ++ dvs)) (Value.ref (s.heap.objs.size + 1) :: (us ++ ds)) := .cons rfl (r.append hd)
  have hl : (Value.ref (s.heap.objs.size + 1) :: us ++ ds).length = ps.length := by
    have e := r2.length
    rw [F.len _ _ _ _ hq] at e
    exact e.symm
  refine wpAny_call (make_map (f := f) I.kIn M.makes M.init (beq_iff_eq.mp M.fn) (codeAny_mono (F.run _ X.stack _ _ ⟨Value.ref (s.heap.objs.size + 1) :: us, []⟩ (Value.ref (s.heap.objs.size + 1) :: (us ++ ds)) _ _ E (hr.make C us [])
    (I2.env0.make C us []) (hb _ (Value.ref (s.heap.objs.size + 1) :: us) I2.kIn hl) r2 hq) fun r s' hq' => ?_))
  cases r with
  | error e => exact hx pins σ _ _ e s' I2 hq'
  | ok fl =>
    cases fl with
    | ret u =>
      obtain ⟨v, H', I3, rv, ev, q3⟩ := I2.after hq'
      subst ev
      exact ⟨rv, ⟨V.ref (s.heap.objs.size + 1), H', I3, rfl, q3⟩⟩
    | next => exact False.elim hq'
    | brk => exact False.elim hq'
    | cont => exact False.elim hq'
theorem pe_make0 (M : Mk X.K C f) (F : FnOk X.prog X.w X.K X.mg X.base CX k f fd ps sp) (hr : Room (k + 1) X.A) (hg : Gl X x) (hm : X.mg x = some (.ref C)) (hb : Binds X.K fd ps ds) (hd : Vals dvs ds) (hx : Passes CX X E)
    (hdb : (x == ("__debug__" : Str)) = false := by decide) : PE X (.Call (.Name x p) [] [] pos) (tMake C sp dvs E tNil) := by
  intro pins s σ H Q I h
  refine wpAny_Call_Name_kw (ld_glob I hg hm ?_ hdb)
  exact PySem.W.callWith_K0 I.kIn M.kp (run_make (us := []) M F hr hb hd hx I .nil h)
end
/-! ### keywords -/
/-- the values of the keywords, from the left -/
def PK (X : Cx) (kws : List Keyword) (t : TA) : Prop :=
  ∀ (pos : Pos) (pins : List (Addr × Obj)) (s : Shared) (σ : St) (H : Hp) (Q : List V → Hp → Prop), Inv X pins σ H s → t σ H Q → wpAny (model X.prog X.w) X.A (evalAll ((backToKw pos (keywordEach kws X.env)).map (·.2))) (AP X pins σ Q) X.xe s
section
variable {X : Cx} {CX : CXT} {k : Nat} {f C : Addr} {fd : FuncData} {ps ks : List Str} {sp : Sp} {E : XK} {x m : Str} {p pos apos kpos : Pos} {e o : Expr} {es : List Expr} {kws : List Keyword} {te ta : TE} {t tk : TA} {nm : Option Str}
theorem pk_nil : PK X [] tNil := fun _ _ _ _ H Q I h => wpAny_evalAll_nil ⟨[], H, I, .nil, h⟩
theorem pk_cons (ha : PE X e te) (hr : PK X kws t) : PK X (⟨nm, e, kpos⟩ :: kws) (tCons te t) := by
  intro pos pins s σ H Q I h
  show wpAny _ _ (evalAll ((do let v ← eval e X.env; standAt pos; pure v) :: (backToKw pos (keywordEach kws X.env)).map (·.2))) _ _ s
  refine wpAny_evalAll_cons (wpAny_bind (thn (ha pins s σ H _ I h) fun u s1 ⟨x, H1, I1, r1, q1⟩ => wpAny_bind (wpAny_standAt (wpAny_pure ?_))))
  exact thn (hr pos pins s1 σ H1 _ I1 q1) fun us s2 ⟨xs, H2, I2, r2, q2⟩ => ⟨x :: xs, H2, I2, .cons r1 r2, q2⟩
/-- how a call with keywords binds: g puts the positional values us and the keywords' values ws (names ks) in the parameters' order, defaults among them -/
structure KBinds (K : PySem.W.Frag) (fd : FuncData) (ps ks : List Str) (g : List Value → List Value → List Value) (gV : List V → List V → List V) : Prop where
  to : ∀ (s : Shared) (us ws : List Value), K.In s.heap → (g us ws).length = ps.length → BindsTo s fd ⟨us, ks.zip ws⟩ (ps.zip (g us ws))
  rel : ∀ {vs : List V} {us : List Value} {zs : List V} {ws : List Value}, Vals vs us → Vals zs ws → Vals (gV vs zs) (g us ws)
variable {g : List Value → List Value → List Value} {gV : List V → List V → List V}
end
/-! ### a def's body keeps its promise -/
/-- names: the parameters first -/
structure FnScope (N P : List Str) (sc : Scope) : Prop where
  kind : sc.kind = .function
  co : sc.isCoroutine = false
  gen : sc.isGenerator = false
  nd : N.Nodup
  pre : N.take P.length = P
  par : ∀ x ∈ P, sc.names.lookup x = some .local ∨ sc.names.lookup x = some .cell
  nofree : ∀ y ∈ sc.names, y.2 ≠ .free
theorem bindL_out {kindOf : Str → Option NameKind} {x : Str} : ∀ {binds : List (Str × Value)} {m : Str → Option Value}, (∀ v, (x, v) ∉ binds) → bindL kindOf binds m x = m x
  | [], _, _ => rfl
  | (n, v) :: r, m, h => by
    unfold bindL
    rw [bindL_out fun w hw => h w (List.mem_cons_of_mem _ hw)]
    split
    · have : x ≠ n := by rintro rfl; exact h v List.mem_cons_self
      simp [this]
    · rfl
theorem bindC_out {kindOf : Str → Option NameKind} {x : Str} : ∀ {binds : List (Str × Value)} {m : Str → Option Value}, (∀ v, (x, v) ∉ binds) → bindC kindOf binds m x = m x
  | [], _, _ => rfl
  | (n, v) :: r, m, h => by
    unfold bindC
    rw [bindC_out fun w hw => h w (List.mem_cons_of_mem _ hw)]
    split
    · rfl
    · have : x ≠ n := by rintro rfl; exact h v List.mem_cons_self
      simp [this]
theorem bindL_get {kindOf : Str → Option NameKind} {x : Str} {v : Value} : ∀ {P : List Str} {vs : List Value} {i : Nat} {m : Str → Option Value}, P.Nodup → P[i]? = some x → vs[i]? = some v → kindOf x = some .local →
    bindL kindOf (P.zip vs) m x = some v
  | [], _, _, _, _, h, _, _ => by simp at h
  | _ :: _, [], _, _, _, _, h, _ => by simp at h
  | p :: P, w :: vs, 0, m, nd, h1, h2, hk => by
    simp at h1 h2; subst h1; subst h2
    show bindL kindOf ((p, w) :: P.zip vs) m p = _
    unfold bindL
    rw [bindL_out fun v hv => (List.nodup_cons.mp nd).1 (List.of_mem_zip hv).1, if_pos hk]
    simp
  | p :: P, w :: vs, i + 1, m, nd, h1, h2, hk => by
    show bindL kindOf ((p, w) :: P.zip vs) m x = _
    unfold bindL
    exact bindL_get (i := i) (List.nodup_cons.mp nd).2 (by simpa using h1) (by simpa using h2) hk
theorem bindC_get {kindOf : Str → Option NameKind} {x : Str} {v : Value} : ∀ {P : List Str} {vs : List Value} {i : Nat} {m : Str → Option Value}, P.Nodup → P[i]? = some x → vs[i]? = some v → kindOf x ≠ some .local →
    bindC kindOf (P.zip vs) m x = some v
  | [], _, _, _, _, h, _, _ => by simp at h
  | _ :: _, [], _, _, _, _, h, _ => by simp at h
  | p :: P, w :: vs, 0, m, nd, h1, h2, hk => by
    simp at h1 h2; subst h1; subst h2
    show bindC kindOf ((p, w) :: P.zip vs) m p = _
    unfold bindC
    rw [bindC_out fun v hv => (List.nodup_cons.mp nd).1 (List.of_mem_zip hv).1, if_neg hk]
    simp
  | p :: P, w :: vs, i + 1, m, nd, h1, h2, hk => by
    show bindC kindOf ((p, w) :: P.zip vs) m x = _
    unfold bindC
    exact bindC_get (i := i) (List.nodup_cons.mp nd).2 (by simpa using h1) (by simpa using h2) hk
/-- the names' values at the entry -/
def start (N : List Str) (vs : List V) : St := vs.map some ++ List.replicate (N.length - vs.length) none
/-- the context of a def's body, at its entry; an exception leaves the frame, then lies as CX says -/
def cxOf (CX : CXT) (P : Program) (w : World) (K : PySem.W.Frag) (mg : Str → Option Value) (base : Heap) (N : List Str) (qual : Str) (scope : Scope) (f : Addr) (cd : Value) (A : Around) (outer : List Env) (s : Shared) (H : Hp) (E : XK) : Cx where
  prog := P
  w := w
  K := K
  mg := mg
  base := base
  A := A.deeper (envOfC qual scope s.heap.objs.size f cd)
  N := N
  s₀ := s
  H₀ := H
  env := envOfC qual scope s.heap.objs.size f cd
  outer := outer
  stack := envOfC qual scope s.heap.objs.size f cd :: outer
  ex := []
  calm := true
  fn := fun _ => true
  pn := []
  xe := fun e s' => wpAny (model P w) (A.deeper (envOfC qual scope s.heap.objs.size f cd)) (leaving (envOfC qual scope s.heap.objs.size f cd) e) (fun _ s'' => CX outer H s E e s'') (fun e' s'' => CX outer H s E e' s'') s'
theorem cell_has {sc : Scope} {n : Nat} {x : Str} (h : sc.names.lookup x = some .cell) : ∃ c, (cellsFrom n sc.names []).lookup x = some c := by
  have q := PySem.W.cellsFrom_some sc.names n [] (.inl h)
  exact Option.isSome_iff_exists.mp q
theorem inv_start {CX : CXT} {P : Program} {w : World} {K : PySem.W.Frag} {mg : Str → Option Value} {base : Heap} {N ps : List Str} {qual : Str} {scope : Scope} {f : Addr} {cd : Value} {A : Around} {outer : List Env} {s s1 : Shared} {H : Hp} {E : XK} {us : List Value} {vs : List V}
    (S : FnScope N ps scope) (hd : A.handled = none) (e0 : Env0 P w K mg base A outer s H) (hl : vs.length = ps.length) (r : Vals vs us)
    (x : InCallC s s.heap.objs.size (bindL (envOfC qual scope s.heap.objs.size f cd).kindOf (ps.zip us) fun _ => none) (cellsFrom (s.heap.objs.size + 1) scope.names []) (bindC (envOfC qual scope s.heap.objs.size f cd).kindOf (ps.zip us) fun _ => none) s1) :
    Inv (cxOf CX P w K mg base N qual scope f cd A outer s H E) [] (start N vs) H s1 := by
  have hpl : ps.length ≤ N.length := by have := congrArg List.length S.pre; rw [List.length_take] at this; omega
  obtain ⟨h1, tk, rfl, hk⟩ := x.done
  have noA : ∀ b : Addr, b ∉ (cxOf CX P w K mg base N qual scope f cd A outer s H E).ex := fun b z => absurd (show b ∈ ([] : List Addr) from z) (by simp)
  refine ⟨⟨e0.mod, S.kind, rfl, rfl, Nat.le_refl _, fun y z c h1 h2 => ?_, fun y hy => ?_, fun y c _ h => ?_, fun _ => hd, Around.frames_deeper e0.frames, .inr ⟨rfl, rfl⟩, fun b z => absurd z (noA b), e0.bs, e0.bsz, fun b _ _ => noA b, fun b z => absurd z (noA b), e0.funs, e0.frf⟩,
    rfl, e0.bare, Un.kept hk, ⟨_, x.toInCall.ns, fun i y v h1 h2 h3 => ?_⟩, fun y c h => ⟨_, x.cell y c h⟩, e0.hok.fresh (Nat.le_refl _), fun y c h => ?_, fun p hp => absurd (show p ∈ ([] : List (Addr × Obj)) from hp) (by simp), e0.hok.kept hk, ?_⟩
  · exact name_of_addr x.apart (PySem.mem_of_lookup h1) (PySem.mem_of_lookup h2)
  · have hy : scope.names.lookup y = some .cell ∨ scope.names.lookup y = some .free := hy
    rcases hy with hy | hy
    · exact cell_has hy
    · exact absurd rfl (S.nofree _ (PySem.mem_of_lookup hy))
  · exact Nat.le_of_lt (x.above y c (PySem.mem_of_lookup h))
  · have hi : i < vs.length := by
      unfold start at h2
      by_cases hi : i < vs.length
      · exact hi
      · rw [List.getElem?_append_right (by simpa using hi)] at h2
        rw [List.getElem?_replicate] at h2
        split at h2 <;> cases h2
    have ha : vs[i]? = some v := by
      unfold start at h2
      rw [List.getElem?_append_left (by simpa using hi), List.getElem?_map] at h2
      cases e : vs[i]? with
      | none => rw [e] at h2; cases h2
      | some a => rw [e] at h2; cases h2; rfl
    obtain ⟨u, hu, rv⟩ := r.get ha
    have hp : ps[i]? = some y := by
      rw [← S.pre, List.getElem?_take_of_lt (by omega)]; exact h1
    have ndP : ps.Nodup := by rw [← S.pre]; exact S.nd.sublist (List.take_sublist _ _)
    refine ⟨u, rv, ?_⟩
    rcases S.par y (List.mem_of_getElem? hp) with k | k
    · exact .inl ⟨k, bindL_get ndP hp hu k⟩
    · obtain ⟨c, e⟩ := cell_has (n := s.heap.objs.size + 1) k
      refine .inr ⟨.inl k, c, e, ?_⟩
      have q := x.cell y c e
      rw [bindC_get ndP hp hu (by show scope.names.lookup y ≠ _; rw [k]; decide)] at q
      exact q
  · exact e0.hok.fresh (Nat.le_of_lt (x.above y c (PySem.mem_of_lookup h)))
  · unfold start
    show _ = N.length
    rw [List.length_append, List.length_map, List.length_replicate]
    omega
/-- THE RULE: a def (or a method) of the text, by its body. The body's reading t is chosen for each entry; it is run at the parameters' values -/
theorem fn_of {CX : CXT} {P : Program} {w : World} {K : PySem.W.Frag} {mg : Str → Option Value} {base : Heap} {k : Nat} {f : Addr} {name qual : Str} {params : Arguments} {body : List Stmt} {scope : Scope} {dV kV doc pm cdv ct oc : Value} {an od : Option Addr}
    {osl : Array (Option Value)} {N ps : List Str} {sp : Sp} (lk : K.lookup f = some ⟨oc, od, .func (PySem.W.fnOf name qual params body scope dV kV doc pm an cdv ct), osl⟩) (hcd : PySem.W.codeIn K cdv qual = true) (S : FnScope N ps scope)
    (len : ∀ vs H Q E, sp vs H Q E → vs.length = ps.length)
    (hbody : ∀ (A : Around) (outer : List Env) (s : Shared) (H : Hp) (vs : List V) (Q : VK) (E : XK), Room k (A.deeper (envOfC qual scope s.heap.objs.size f cdv)) → sp vs H Q E →
      ∃ t, PSs (cxOf CX P w K mg base N qual scope f cdv A outer s H E) body t ∧ t { nx := fun _ H' => Q .non H', rt := Q } (start N vs) H) :
    FnOk P w K mg base CX (k + 1) f (PySem.W.fnOf name qual params body scope dV kV doc pm an cdv ct) ps sp := by
  refine ⟨len, fun A outer s H args us vs Q E hr e0 hb r hsp => ?_⟩
  have hl := len _ _ _ _ hsp
  have KX : K.In s.heap := e0.mod.kin.keeps fun b o e => (e0.bs b o e).1
  have lim : s.heap.NoLimit := e0.mod.nolimit.keeps fun b o e => (e0.bs b o e).1
  have hkind : ∀ y ∈ ps.zip us, scope.names.lookup y.1 = some .local ∨ (scope.names.lookup y.1 = some .cell ∧ ((cellsFrom (s.heap.objs.size + 1) scope.names []).lookup y.1).isSome = true) := fun ⟨n, v⟩ hy => by
    rcases S.par n (List.of_mem_zip hy).1 with q | q
    · exact .inl q
    · exact .inr ⟨q, PySem.W.cellsFrom_some _ _ _ (.inl q)⟩
  refine codeAny_call_function hr.depth (KX _ _ lk) rfl S.co S.gen rfl (PySem.W.codeRec_of KX hcd) (hb _ _ _ _ ?_)
  refine wpAny_newFunctionEnv_cells S.kind hkind fun env he s1 x => ?_
  subst he
  refine ⟨lim.keeps x.toInCall.keep, codeAny_func ?_⟩
  obtain ⟨t, ht, hq⟩ := hbody A outer s H vs Q E (hr.deeper _) hsp
  have I : Inv (cxOf CX P w K mg base N qual scope f cdv A outer s H E) [] (start N vs) H s1 := inv_start S hr.hd e0 hl r x
  refine wpAny_mono (ht [] s1 (start N vs) H _ I hq) (fun fl s' hs => ?_) fun e s' hs => hs
  have fin : ∀ {σ' : St} {H' : Hp} {v : V} {u : Value}, Inv (cxOf CX P w K mg base N qual scope f cdv A outer s H E) [] σ' H' s' → RelV v u → Q v H' → CE outer P w H s Q u s' :=
    fun {σ' H' v u} J rv q => ⟨v, H', J.os, J.bare, J.base, J.hok, rv, q⟩
  cases fl with
  | ret u =>
    obtain ⟨v, σ', H', J, rv, q⟩ := hs
    exact fin J rv q
  | next =>
    obtain ⟨σ', H', J, q⟩ := hs
    exact fin (v := V.non) (u := Value.none) J rfl q
  | brk =>
    obtain ⟨_, _, _, q⟩ := hs
    exact False.elim q
  | cont =>
    obtain ⟨_, _, _, q⟩ := hs
    exact False.elim q
end L2
namespace L2
open PySem PySem.Spec PyProof.Rows
section
variable {X : Cx} {x : Str} {p pos : Pos} {e : Expr} {es : List Expr} {t : TA} {id T : String} {r : List V → Hp → VK → Prop}
def tCB (r : List V → Hp → VK → Prop) (t : TA) : TE := fun σ H Q => t σ H fun vs H1 => r vs H1 Q
/-- f(e, ..), f a built-in function -/
theorem pe_callB (hc : CallR X (.builtin id) r) (hg : Gl X x) (hm : X.mg x = none) (hv : bootBuiltins x = some (.builtin id)) (ha : PA X (e :: es) t) (hn : x ≠ "__name__" := by decide) (hdb : (x == ("__debug__" : Str)) = false := by decide)
    (he : starEach (e :: es) X.env = (false, eval e X.env) :: starEach es X.env := by rfl) (hpl : (backTo pos (starEach es X.env)).any (·.1) = false := by rfl) : PE X (.Call (.Name x p) (e :: es) [] pos) (tCB r t) := by
  intro pins s σ H Q I h
  refine wpAny_Call_Name_kw (ld_blt I hg hm hv ?_ hn hdb)
  exact PyProof.Rows.callWith_builtin1 (thn (ha pos pins s σ H _ I h) fun us s1 ⟨vs, H1, I1, r1, q1⟩ => hc pins s1 σ H1 vs us Q I1 r1 q1) he hpl
/-- T(e, ..), T a built-in type -/
theorem pe_callTy (hc : CallR X (.type T) r) (hg : Gl X x) (hm : X.mg x = none) (hv : bootBuiltins x = some (.type T)) (ha : PA X (e :: es) t) (hn : x ≠ "__name__" := by decide) (hdb : (x == ("__debug__" : Str)) = false := by decide)
    (he : starEach (e :: es) X.env = (false, eval e X.env) :: starEach es X.env := by rfl) (hpl : (backTo pos (starEach es X.env)).any (·.1) = false := by rfl) : PE X (.Call (.Name x p) (e :: es) [] pos) (tCB r t) := by
  intro pins s σ H Q I h
  refine wpAny_Call_Name_kw (ld_blt I hg hm hv ?_ hn hdb)
  exact PyProof.Rows.callWith_type1 (thn (ha pos pins s σ H _ I h) fun us s1 ⟨vs, H1, I1, r1, q1⟩ => hc pins s1 σ H1 vs us Q I1 r1 q1) he hpl
end
end L2
namespace HT
open PySem PyProof.Rows
section
open PySem.SeqAt
open PySem.AutoSeq1 (wpAny_loadPart')
open PySem.MeetsSeq PySem.MeetsSeq2 PySem.MeetsSeq3
end
section
variable {prog : Program} {w : World} {A : Around} {E : Value → Shared → Prop} {s : Shared}
/-! ### t[a:b], not the whole -/
/-- a slice's bound as a place among n (d where it is left out) -/
def sIx (n d : Nat) : Option Int → Nat
  | none => d
  | some v => if v < 0 then (v + (n : Int)).toNat else min v.toNat n
theorem sIx_none (n d : Nat) : sIx n d none = d := rfl
theorem sIx_nat (n d k : Nat) : sIx n d (some (k : Int)) = min k n := by
  show (if (k : Int) < 0 then ((k : Int) + (n : Int)).toNat else min (k : Int).toNat n) = min k n
  rw [if_neg (by omega), Int.toNat_natCast]
end
end HT
namespace L2
open PySem PySem.Spec PyProof.Rows
/-! ### the parts of a slice -/
abbrev TO := St → Hp → (Option Int → Hp → Prop) → Prop
/-- a slice's part (left out, or an int) -/
def PO (X : Cx) (e : Option Expr) (t : TO) : Prop :=
  ∀ (pins : List (Addr × Obj)) (s : Shared) (σ : St) (H : Hp) (Q : Option Int → Hp → Prop), Inv X pins σ H s → t σ H Q →
    wpAny (model X.prog X.w) X.A (evalPart e X.env) (fun u s' => ∃ o H', Inv X pins σ H' s' ∧ IsPart u o ∧ Q o H') X.xe s
def tNoPart : TO := fun _ H Q => Q none H
def tPart (t : TE) : TO := fun σ H Q => t σ H fun x H1 => ∃ i, x = .int i ∧ Q (some i) H1
theorem intsAre_of {ns : List Int} : ∀ {us : List Value}, Vals (ns.map V.int) us → IntsAre us ns := by
  induction ns with
  | nil => intro us r; rw [List.map_nil] at r; cases r; exact .nil
  | cons n ns ih =>
    intro us r
    rw [List.map_cons] at r
    cases r with
    | cons r1 r2 =>
      obtain ⟨t, e⟩ := r1
      subst e
      exact .cons n t (ih r2)
section
variable {X : Cx} {e : Expr} {te : TE} {lo hi : Option Expr} {tl th : TO} {pos p2 : Pos}
theorem po_none : PO X none tNoPart := by
  intro pins s σ H Q I h
  rw [evalPart_none]
  exact wpAny_pure ⟨none, H, I, .none, h⟩
theorem po_some (h : PE X e te) : PO X (some e) (tPart te) := by
  intro pins s σ H Q I hw
  rw [evalPart_some]
  refine thn (h pins s σ H _ I hw) fun u s1 ⟨x, H1, I1, r1, q1⟩ => ?_
  obtain ⟨i, rfl, q⟩ := q1
  obtain ⟨t, rfl⟩ := r1
  exact ⟨some i, H1, I1, .int i t, q⟩
/-- what a slice of a value is, by values: the slice object stands at sl -/
def SlR (X : Cx) (r : V → Option Int → Option Int → Hp → VK → Prop) : Prop :=
  ∀ (pins : List (Addr × Obj)) (s : Shared) (σ : St) (H : Hp) (x : V) (v vl vu : Value) (lo hi : Option Int) (sl : Addr) (Q : VK), Inv X pins σ H s → RelV x v → s.heap.IsSliceOf sl vl vu .none → IsPart vl lo → IsPart vu hi → r x lo hi H Q →
    ∃ T id, typeLookup (.type T) "__getitem__" = pure (some (.builtin id)) ∧ s.TypeIs v T ∧ wpAny (model X.prog X.w) X.A (getItem v (.ref sl)) (EP X pins σ Q) X.xe s
theorem SlR.or {r r' : V → Option Int → Option Int → Hp → VK → Prop} (h : SlR X r) (h' : SlR X r') : SlR X (fun x lo hi H Q => r x lo hi H Q ∨ r' x lo hi H Q) := by
  intro pins s σ H x v vl vu lo hi sl Q I rx hs pl pu q
  rcases q with q | q
  · exact h pins s σ H x v vl vu lo hi sl Q I rx hs pl pu q
  · exact h' pins s σ H x v vl vu lo hi sl Q I rx hs pl pu q
def tSl (r : V → Option Int → Option Int → Hp → VK → Prop) (te : TE) (tl th : TO) : TE := fun σ H Q => te σ H fun x H1 => tl σ H1 fun l H2 => th σ H2 fun u H3 => r x l u H3 Q
/-- a[lo:hi], any a -/
theorem pe_slice {r : V → Option Int → Option Int → Hp → VK → Prop} (hr : SlR X r) (he : PE X e te) (hl : PO X lo tl) (hu : PO X hi th) : PE X (.Subscript e (.Slice lo hi none p2) pos) (tSl r te tl th) := by
  intro pins s σ H Q I h
  refine Subscript_ (thn (he pins s σ H _ I h) fun v s1 ⟨x, H1, I1, r1, q1⟩ => ?_)
  refine wpAny_Slice (thn (hl pins s1 σ H1 _ I1 q1) fun vl s2 ⟨l, H2, I2, pl, q2⟩ => thn (hu pins s2 σ H2 _ I2 q2) fun vu s3 ⟨u, H3, I3, pu, q3⟩ => ?_)
  rw [evalPart_none]
  refine wpAny_pure ?_
  have I4 : Inv X pins σ H3 { s3 with heap := s3.heap.push { cls := .type "slice", data := .fields #[vl, vu, .none] } } := I3.kept (t' := s3.toks) fun b ob q => Heap.get?_push_of_some _ q
  obtain ⟨T, id, hT, ht, hg⟩ := hr pins { s3 with heap := s3.heap.push { cls := .type "slice", data := .fields #[vl, vu, .none] } } σ H3 x v vl vu l u s3.heap.objs.size Q I4 r1 (Heap.IsSliceOf.new ..) pl pu q3
  show wpAny (model X.prog X.w) X.A (subscriptTail e (.Slice lo hi none p2) v (.ref s3.heap.objs.size)) (EP X pins σ Q) X.xe { s3 with heap := s3.heap.push { cls := .type "slice", data := .fields #[vl, vu, .none] } }
  exact tail_any (ops := [.ref s3.heap.objs.size, v]) ht hT hg (by with_unfolding_all rfl)
/-- the items of xs[lo:hi] -/
def cutV (xs : List V) (lo hi : Option Int) : List V := (xs.drop (HT.sIx xs.length 0 lo)).take (HT.sIx xs.length xs.length hi - HT.sIx xs.length 0 lo)
theorem cutV_length (xs : List V) (lo hi : Option Int) : (cutV xs lo hi).length ≤ xs.length := by
  unfold cutV
  rw [List.length_take, List.length_drop]
  omega
/-! ### t < u, t + u -/
end
end L2
namespace L2
open PySem PySem.Spec PyProof.Rows
/-! ### places -/
/-- the place that an index of any sign means -/
def ixN (n : Nat) (i : Int) : Option Nat := if 0 ≤ i then (if i < n then some i.toNat else none) else if -(n : Int) ≤ i then some (i + n).toNat else none
def atI {α : Type} (xs : List α) (i : Int) : Option α := (ixN xs.length i).bind fun j => xs[j]?
theorem ixN_seq {n : Nat} {i : Int} {j : Nat} (h : ixN n i = some j) : seqIndex? i n = some j ∧ j < n ∧ -(n : Int) ≤ i ∧ i < n := by
  unfold ixN at h
  by_cases h0 : 0 ≤ i
  · rw [if_pos h0] at h
    by_cases h1 : i < n
    · rw [if_pos h1] at h
      have e : i.toNat = j := Option.some.inj h
      exact ⟨by rw [seqIndex_of h0 h1, e], by omega, by omega, h1⟩
    · rw [if_neg h1] at h; cases h
  · rw [if_neg h0] at h
    by_cases h1 : -(n : Int) ≤ i
    · rw [if_pos h1] at h
      have e : (i + n).toNat = j := Option.some.inj h
      exact ⟨by rw [seqIndex_neg (by omega) h1, e], by omega, h1, by omega⟩
    · rw [if_neg h1] at h; cases h
theorem atI_get {α : Type} {xs : List α} {i : Int} {v : α} (h : atI xs i = some v) : ∃ j, seqIndex? i xs.length = some j ∧ xs[j]? = some v ∧ j < xs.length ∧ -(xs.length : Int) ≤ i ∧ i < xs.length := by
  unfold atI at h
  cases e : ixN xs.length i with
  | none => rw [e] at h; cases h
  | some j =>
    rw [e] at h
    obtain ⟨h1, h2, h3, h4⟩ := ixN_seq e
    exact ⟨j, h1, h, h2, h3, h4⟩
theorem atI_nat {α : Type} {xs : List α} {j : Nat} {v : α} (h : xs[j]? = some v) : atI xs (j : Int) = some v := by
  have hj : j < xs.length := (List.getElem?_eq_some_iff.mp h).1
  have e : ixN xs.length (j : Int) = some j := by
    unfold ixN
    rw [if_pos (by omega), if_pos (by omega)]; simp
  unfold atI; rw [e]; exact h
theorem atI_last {α : Type} (xs : List α) (v : α) : atI (xs ++ [v]) (-1) = some v := by
  have hl : (xs ++ [v]).length = xs.length + 1 := by simp
  have e : ixN (xs ++ [v]).length (-1) = some xs.length := by
    unfold ixN
    rw [hl, if_neg (by decide), if_pos (by omega)]
    congr 1
    omega
  unfold atI
  rw [e]
  show (xs ++ [v])[xs.length]? = some v
  simp
/-! ### what may be subscripted -/
/-- what stands as an index of a plain subscript -/
def PlainIx (b : Expr) : Prop := ∀ o i, subscripted b false o i = operate [o, i] (getItem o i)
/-- a subscript by values -/
def IxR (X : Cx) (r : R2) : Prop :=
  ∀ (value slice : Expr) (pins : List (Addr × Obj)) (s : Shared) (σ : St) (H : Hp) (x y : V) (v u : Value) (Q : VK), Inv X pins σ H s → RelV x v → RelV y u → r x y H Q →
    subscripted slice false v u = operate [v, u] (getItem v u) → wpAny (model X.prog X.w) X.A (subscriptTail value slice v u) (EP X pins σ Q) X.xe s
/-- a call of a builtin's method by values: the receiver, the arguments -/
def MtR (X : Cx) (id : String) (r : V → List V → Hp → VK → Prop) : Prop :=
  ∀ (pins : List (Addr × Obj)) (s : Shared) (σ : St) (H : Hp) (x : V) (xs : List V) (v : Value) (us : List Value) (Q : VK), Inv X pins σ H s → RelV x v → Vals xs us → r x xs H Q →
    wpAny (model X.prog X.w) X.A (call (.builtin id) (v :: us)) (EP X pins σ Q) X.xe s
section
variable {X : Cx} {a b : Expr} {ta tb : TE} {pos : Pos}
theorem IxR.or {r r' : R2} (h : IxR X r) (h' : IxR X r') : IxR X (fun x y H Q => r x y H Q ∨ r' x y H Q) := by
  intro value slice pins s σ H x y v u Q I rx ry q hs
  rcases q with q | q
  · exact h value slice pins s σ H x y v u Q I rx ry q hs
  · exact h' value slice pins s σ H x y v u Q I rx ry q hs
theorem MtR.or {id : String} {r r' : V → List V → Hp → VK → Prop} (h : MtR X id r) (h' : MtR X id r') : MtR X id (fun x xs H Q => r x xs H Q ∨ r' x xs H Q) := by
  intro pins s σ H x xs v us Q I rx rs q
  rcases q with q | q
  · exact h pins s σ H x xs v us Q I rx rs q
  · exact h' pins s σ H x xs v us Q I rx rs q
/-- a[b] -/
theorem pe_ix {r : R2} (hr : IxR X r) (ha : PE X a ta) (hb : PE X b tb) (hs : PlainIx b) : PE X (.Subscript a b pos) (tOp r ta tb) := by
  intro pins s σ H Q I h
  exact Subscript_ (binT ha hb I h fun v u s2 x y H2 I2 rx ry q => hr a b pins s2 σ H2 x y v u Q I2 rx ry q (hs _ _))
def rIxL (K : PySem.W.Frag) : R2 := fun x y H Q => ∃ p xs i v, x = .ref p ∧ y = .int i ∧ SqL K H p xs ∧ atI xs i = some v ∧ Q v H
theorem ix_list : IxR X (rIxL X.K) := by
  intro value slice pins s σ H x y v u Q I rx ry h hs
  obtain ⟨p, xs, i, z, rfl, rfl, hq, he, q⟩ := h
  cases rx
  obtain ⟨t, rfl⟩ := ry
  obtain ⟨its, r, pl, hz⟩ := I.list hq
  obtain ⟨j, h1, h2, h3, h4, h5⟩ := atI_get he
  obtain ⟨w, ew, rw'⟩ := r.get h2
  have hl := r.length
  have hn := line63
  have fin : EP X pins σ Q w s := ⟨z, H, I, rw', q⟩
  by_cases h0 : 0 ≤ i
  · have hj : i.toNat = j := by
      rw [seqIndex_of h0 h5] at h1
      exact Option.some.inj h1
    exact item_listR pl.isList h0 (by omega) (by rw [hj]; simpa using ew) fin hs
  · have hj : (i + (its.toArray.size : Int)).toNat = j := by
      rw [seqIndex_neg (by omega) h4] at h1
      rw [List.size_toArray, ← hl]
      exact Option.some.inj h1
    exact subscriptTail_builtinR (x := w) pl.isList.typeIs slot_list_getitem.lookup
      (wpAny_getItem_list_neg (Q := fun r s' => r = w ∧ EP X pins σ Q r s') pl.isList (by omega) (by rw [List.size_toArray] <;> omega) (by omega) (by rw [hj]; simpa using ew) ⟨rfl, fin⟩) hs
/-! ### xs[i] = v, any sign -/
theorem Inv.lst {pins : List (Addr × Obj)} {σ : St} {H : Hp} {s : Shared} {p : Addr} {xs : List V} (I : Inv X pins σ H s) (h : H p = some (.lst xs)) :
    ∃ (its : List Value) (n : Nat), Vals xs its ∧ s.heap.get? p = some { cls := .type "list", data := .seq its.toArray n } ∧ xs.length ≤ sizeLine := by
  obtain ⟨z, its, n, r, e⟩ := I.hok p _ h
  exact ⟨its, n, r, e, z⟩
/-! ### slices -/
theorem slice_bounds (lo hi : Option Int) (n : Nat) : (sliceBounds lo hi none n).1 = ((HT.sIx n 0 lo : Nat) : Int) ∧ (sliceBounds lo hi none n).2.1 = ((HT.sIx n n hi : Nat) : Int) ∧ (sliceBounds lo hi none n).2.2 = 1 := by
  refine ⟨?_, ?_, rfl⟩
  · cases lo with
    | none => simp [sliceBounds, HT.sIx]
    | some i =>
      simp only [sliceBounds, HT.sIx, Option.getD_none, show (1 : Int) > 0 by decide, if_true]
      by_cases h : i < 0
      · simp only [h, if_true] <;> omega
      · simp only [h, if_false] <;> omega
  · cases hi with
    | none => simp [sliceBounds, HT.sIx]
    | some i =>
      simp only [sliceBounds, HT.sIx, Option.getD_none, show (1 : Int) > 0 by decide, if_true]
      by_cases h : i < 0
      · simp only [h, if_true] <;> omega
      · simp only [h, if_false] <;> omega
theorem slicePick_cut (its : List Value) (lo hi : Option Int) : slicePick its.toArray lo hi none = ((its.drop (HT.sIx its.length 0 lo)).take (HT.sIx its.length its.length hi - HT.sIx its.length 0 lo)).toArray := by
  obtain ⟨h1, h2, h3⟩ := slice_bounds lo hi its.toArray.size
  unfold slicePick
  rw [h1, h2, h3]
  simp only [sliceRange_one, pick_run, List.size_toArray] <;> rfl
/-- xs[lo:hi] of a list: a new list -/
def rSlL (K : PySem.W.Frag) : V → Option Int → Option Int → Hp → VK → Prop := fun x lo hi H Q => ∃ a xs, x = .ref a ∧ SqL K H a xs ∧ ∀ p, H p = none → Q (.ref p) (upd H p (.lst (cutV xs lo hi)))
theorem sl_list : SlR X (rSlL X.K) := by
  intro pins s σ H x v vl vu lo hi sl Q I rx hs pl pu h
  obtain ⟨a, xs, rfl, hx, q⟩ := h
  cases rx
  obtain ⟨its, r, ht, hz⟩ := I.list hx
  have hlen := r.length
  refine ⟨"list", _, slot_list_getitem.lookup, ht.isList.typeIs, ?_⟩
  refine wpAny_getItem_list_slice ht.isList hs pl pu .none (by simp) ?_ (by rw [List.size_toArray] <;> omega)
  rw [slicePick_cut, ← hlen]
  refine ⟨.ref s.heap.objs.size, _, I.laid (t' := s.toks) (o := .lst (cutV xs lo hi)) (fun b ob q => Heap.get?_push_of_some _ q) (Nat.le_refl _) ?_, rfl, q _ (I.hok.fresh (Nat.le_refl _))⟩
  exact ⟨Nat.le_trans (cutV_length xs lo hi) hz, _, 0, (r.drop (HT.sIx xs.length 0 lo)).take (HT.sIx xs.length xs.length hi - HT.sIx xs.length 0 lo), Heap.get?_push_size _ rfl⟩
/-! ### in, not in: flat items -/
def flatV : V → Bool
  | .non => true
  | .bl _ => true
  | .int _ => true
  | .str _ => true
  | _ => false
/-- == of flat values -/
def eqV : V → V → Bool
  | .non, .non => true
  | .bl a, .bl b => a == b
  | .bl a, .int b => (if a then 1 else 0) == b
  | .int a, .bl b => a == (if b then 1 else 0)
  | .int a, .int b => a == b
  | .str a, .str b => a == b
  | _, _ => false
theorem eqAt_V {A : Around} {s : Shared} {y x : V} {u v : Value} (ry : RelV y u) (rx : RelV x v) (fy : flatV y = true) (fx : flatV x = true) : SeqAt.EqAt A s u v (eqV y x) := by
  cases y with
  | non =>
    cases ry
    cases x with
    | non => cases rx; exact SeqAt.EqAt.same _
    | bl b => cases rx; exact SeqAt.EqAt.none_bool b
    | int b => obtain ⟨t, rfl⟩ := rx; exact SeqAt.EqAt.none_int b t
    | str b => obtain ⟨t, rfl⟩ := rx; exact SeqAt.EqAt.none_str b t
    | _ => exact absurd (show false = true from fx) Bool.false_ne_true
  | bl a =>
    cases ry
    cases x with
    | non => cases rx; exact SeqAt.EqAt.bool_none a
    | bl b => cases rx; exact SeqAt.EqAt.bool_bool a b
    | int b => obtain ⟨t, rfl⟩ := rx; exact SeqAt.EqAt.bool_int a b t
    | str b => obtain ⟨t, rfl⟩ := rx; exact SeqAt.EqAt.bool_str a b t
    | _ => exact absurd (show false = true from fx) Bool.false_ne_true
  | int a =>
    obtain ⟨t', rfl⟩ := ry
    cases x with
    | non => cases rx; exact SeqAt.EqAt.int_none a t'
    | bl b => cases rx; exact SeqAt.EqAt.int_bool a t' b
    | int b => obtain ⟨t, rfl⟩ := rx; exact SeqAt.EqAt.int_int a t' b t
    | str b => obtain ⟨t, rfl⟩ := rx; exact SeqAt.EqAt.int_str a t' b t
    | _ => exact absurd (show false = true from fx) Bool.false_ne_true
  | str a =>
    obtain ⟨t', rfl⟩ := ry
    cases x with
    | non => cases rx; exact SeqAt.EqAt.str_none a t'
    | bl b => cases rx; exact SeqAt.EqAt.str_bool a t' b
    | int b => obtain ⟨t, rfl⟩ := rx; exact SeqAt.EqAt.str_int a t' b t
    | str b => obtain ⟨t, rfl⟩ := rx; exact SeqAt.EqAt.str_str a t' b t
    | _ => exact absurd (show false = true from fx) Bool.false_ne_true
  | _ => exact absurd (show false = true from fy) Bool.false_ne_true
/-- the items' answers, read off the values (a value's own answer does not lean on its token) -/
def eqU (x : V) (u : Value) : Bool := match u with
  | .none => eqV .non x
  | .bool b => eqV (.bl b) x
  | .int i _ => eqV (.int i) x
  | .str z _ => eqV (.str z) x
  | _ => false
theorem eqU_of {x y : V} {u : Value} (r : RelV y u) (f : flatV y = true) : eqU x u = eqV y x := by
  cases y with
  | non => cases r; rfl
  | bl b => cases r; rfl
  | int i => obtain ⟨t, rfl⟩ := r; rfl
  | str z => obtain ⟨t, rfl⟩ := r; rfl
  | _ => exact absurd (show false = true from f) Bool.false_ne_true
theorem any_eqU {x : V} : ∀ {xs : List V} {us : List Value}, Vals xs us → xs.all flatV = true → us.any (eqU x) = xs.any fun y => eqV y x
  | _, _, .nil, _ => rfl
  | y :: xs, u :: us, .cons r t, f => by
    rw [List.all_cons, Bool.and_eq_true] at f
    rw [List.any_cons, List.any_cons, eqU_of r f.1, any_eqU t f.2]
theorem mem_eqAt {A : Around} {s : Shared} {x : V} {v : Value} (rx : RelV x v) (fx : flatV x = true) : ∀ {xs : List V} {us : List Value}, Vals xs us → xs.all flatV = true → ∀ u ∈ us, SeqAt.EqAt A s u v (eqU x u)
  | _, _, .nil, _ => fun u hu => by cases hu
  | y :: xs, u :: us, .cons r t, f => fun u' hu => by
    rw [List.all_cons, Bool.and_eq_true] at f
    rcases List.mem_cons.mp hu with rfl | hu
    · rw [eqU_of r f.1]; exact eqAt_V r rx f.1 fx
    · exact mem_eqAt rx fx t f.2 u' hu
def inV (x : V) (xs : List V) : Bool := xs.any fun y => eqV y x
/-- x in a list or tuple of flat items -/
def rIn (K : PySem.W.Frag) (neg : Bool) : R2 := fun x y H Q => ∃ p xs, y = .ref p ∧ (SqL K H p xs ∨ SqT K H p xs) ∧ flatV x = true ∧ xs.all flatV = true ∧ Q (.bl (if neg then !inV x xs else inV x xs)) H
theorem op_in_seq : OpR X (compareOp .In) (rIn X.K false) := by
  intro pins s σ H x y v u Q I rx ry h
  obtain ⟨p, xs, rfl, hq, fx, fs, q⟩ := h
  cases ry
  rcases hq with hq | hq
  · obtain ⟨its, r, pl, hz⟩ := I.list hq
    refine SeqAt.in_listAt (eqU x) pl.isList (fun w hw => mem_eqAt rx fx r fs w (by simpa using hw)) ⟨.bl _, H, I, rfl, ?_⟩
    rw [show its.toArray.any (eqU x) = its.any (eqU x) by simp, any_eqU r fs]
    exact q
  · obtain ⟨its, r, pl, hz⟩ := I.tuple hq
    refine SeqAt.in_tupleAt (eqU x) pl (fun w hw => mem_eqAt rx fx r fs w (by simpa using hw)) ⟨.bl _, H, I, rfl, ?_⟩
    rw [show its.toArray.any (eqU x) = its.any (eqU x) by simp, any_eqU r fs]
    exact q
/-! ### len, list(x), tuple(x) of any list or tuple that is read -/
theorem call_len_seq : CallR X (.builtin "len") (fun xs H Q => ∃ p ys, xs = [.ref p] ∧ (SqL X.K H p ys ∨ SqT X.K H p ys) ∧ Q (.int ys.length) H) := by
  intro pins s σ H xs us Q I r h
  obtain ⟨p, ys, rfl, hq, q⟩ := h
  obtain ⟨u, rfl, rx⟩ := vals1 r
  cases rx
  have hn := line63
  rcases hq with hq | hq
  · obtain ⟨its, r', pl, hz⟩ := I.list hq
    have hlen := r'.length
    exact Calls.call_len_list pl.isList (by simp only [List.size_toArray] <;> omega) ⟨.int ys.length, H, I.tok _, ⟨s.toks + 1, by rw [List.size_toArray, hlen]⟩, q⟩
  · obtain ⟨its, r', pl, hz⟩ := I.tuple hq
    have hlen := r'.length
    exact len_tuple pl (by simp only [List.size_toArray] <;> omega) ⟨.int ys.length, H, I.tok _, ⟨s.toks + 1, by rw [List.size_toArray, hlen]⟩, q⟩
theorem CallR.or {f : Value} {r r' : List V → Hp → VK → Prop} (h : CallR X f r) (h' : CallR X f r') : CallR X f (fun xs H Q => r xs H Q ∨ r' xs H Q) := by
  intro pins s σ H xs us Q I rs q
  rcases q with q | q
  · exact h pins s σ H xs us Q I rs q
  · exact h' pins s σ H xs us Q I rs q
theorem call_list_of : CallR X (.type "list") (fun xs H Q => ∃ p ys, xs = [.ref p] ∧ (SqL X.K H p ys ∨ SqT X.K H p ys) ∧ ∀ l, H l = none → Q (.ref l) (upd H l (.lst ys))) := by
  intro pins s σ H xs us Q I r h
  obtain ⟨p, ys, rfl, hq, q⟩ := h
  obtain ⟨u, rfl, rx⟩ := vals1 r
  cases rx
  have fin : ∀ (its : List Value), Vals ys its → ys.length ≤ sizeLine → ∀ (h' : Heap) (c' : Nat), (∀ b o', s.heap.get? b = some o' → h'.get? b = some o') →
      h'.get? s.heap.objs.size = some { cls := .type "list", dict := none, data := .seq its.toArray c', slots := #[] } → EP X pins σ Q (.ref s.heap.objs.size) { s with heap := h' } := fun its r' hz h' c' kp e =>
    ⟨.ref s.heap.objs.size, _, I.laid (t' := s.toks) kp (Nat.le_refl _) (show ObjOk X.prog X.w _ h' _ (.lst ys) from ⟨hz, its, c', r', e⟩), rfl, q _ (I.hok.fresh (Nat.le_refl _))⟩
  rcases hq with hq | hq
  · obtain ⟨its, r', pl, hz⟩ := I.list hq
    have hlen := r'.length
    obtain ⟨o, ho, hc, n, hd⟩ := pl.isList
    exact call_list_seq p (.inl rfl) ho hc hd (fun h' c' kp e => fin its r' hz h' c' kp e) (by simp only [List.size_toArray] <;> omega)
  · obtain ⟨its, r', pl, hz⟩ := I.tuple hq
    have hlen := r'.length
    obtain ⟨o, ho, hc, n, hd⟩ := pl
    exact call_list_seq p (.inr rfl) ho hc hd (fun h' c' kp e => fin its r' hz h' c' kp e) (by simp only [List.size_toArray] <;> omega)
/-! ### the call of a builtin's method: o.m(..) -/
/-- the value is of that builtin type -/
def tyV (K : PySem.W.Frag) (T : String) (x : V) (H : Hp) : Prop := match x with
  | .str _ => T = "str"
  | .int _ => T = "int"
  | .ref p => (T = "list" ∧ ∃ xs, SqL K H p xs) ∨ (T = "tuple" ∧ ∃ o, K.lookup p = some o ∧ o.cls = .type "tuple" ∧ o.dict = none) ∨
      (T = "dict" ∧ ((∃ kvs, H p = some (.dK kvs)) ∨ ∃ kvs, H p = some (.dT kvs))) ∨ (T = "set" ∧ ∃ S n, H p = some (.set S n))
  | _ => False
theorem tyV_is {pins : List (Addr × Obj)} {σ : St} {H : Hp} {s : Shared} {T : String} {x : V} {v : Value} (I : Inv X pins σ H s) (r : RelV x v) (ty : tyV X.K T x H) :
    s.TypeIs v T ∧ ∀ a, v = .ref a → ∃ ob, s.heap.get? a = some ob ∧ ob.dict = none := by
  cases x with
  | str z =>
    obtain ⟨t, rfl⟩ := r
    cases (show T = "str" from ty)
    exact ⟨typeIs_str s z t, fun _ e => nomatch e⟩
  | int i =>
    obtain ⟨t, rfl⟩ := r
    cases (show T = "int" from ty)
    exact ⟨typeIs_int s i t, fun _ e => nomatch e⟩
  | ref p =>
    cases r
    rcases ty with ⟨rfl, xs, hq⟩ | ⟨rfl, o, hk, hc, hd⟩ | ⟨rfl, hk⟩ | ⟨rfl, S, n, hk⟩
    · obtain ⟨its, _, pl, _⟩ := I.list hq
      refine ⟨pl.isList.typeIs, fun a e => ?_⟩
      cases e
      obtain ⟨o, n, e, c, hd, _⟩ := pl
      exact ⟨o, e, hd⟩
    · refine ⟨⟨o, I.kIn p o hk, hc⟩, fun a e => ?_⟩
      cases e
      exact ⟨o, I.kIn _ o hk, hd⟩
    · have z : ∃ o, s.heap.get? p = some o ∧ o.ExactDict := by
        rcases hk with ⟨kvs, hk⟩ | ⟨kvs, hk⟩
        · obtain ⟨_, _, _, _, o, _, _, e, ex, _⟩ := I.hok p _ hk
          exact ⟨o, e, ex⟩
        · obtain ⟨_, _, _, _, o, _, _, e, ex, _⟩ := I.hok p _ hk
          exact ⟨o, e, ex⟩
      obtain ⟨o, e, ex⟩ := z
      refine ⟨⟨o, e, ex.1⟩, fun a e2 => ?_⟩
      cases e2
      exact ⟨o, e, ex.2.1⟩
    · obtain ⟨o, _, _, _, e, ex, _⟩ := I.hok p _ hk
      refine ⟨⟨o, e, ex.1⟩, fun a e2 => ?_⟩
      cases e2
      exact ⟨o, e, ex.2.1⟩
  | _ => exact False.elim ty
def tBM (K : PySem.W.Frag) (T : String) (r : V → List V → Hp → VK → Prop) (to : TE) (t : TA) : TE := fun σ H Q => to σ H fun x H1 => tyV K T x H1 ∧ t σ H1 fun xs H2 => r x xs H2 Q
variable {o e : Expr} {es : List Expr} {to : TE} {t : TA} {name : Str} {apos cpos : Pos} {T id : String} {r : V → List V → Hp → VK → Prop}
theorem pe_bm (pa : PlainAttrs T) (slot : Slot T name id) (hty : typeOf (.builtin id) = pure (.type "method_descriptor")) (hm : MtR X id r) (ho : PE X o to) (ha : PA X (e :: es) t)
    (hbase : attributeBase o name X.env (eval o X.env) = eval o X.env := by rfl)
    (hfew : ((backTo cpos (starEach (e :: es) X.env)).all (fun x => !x.1) && (backToKw cpos (keywordEach [] X.env)).all (fun x => x.1.isSome)
      && decide ((e :: es).length + ([] : List Keyword).length + (if ([] : List Keyword).isEmpty then 0 else 1) < 30)) = true := by rfl)
    (hline : (apos.endLine == cpos.line) = true := by rfl) (hs : starEach (e :: es) X.env = (false, eval e X.env) :: starEach es X.env := by rfl) (hplain : (backTo cpos (starEach es X.env)).any (·.1) = false := by rfl) :
    PE X (.Call (.Attribute o name apos) (e :: es) [] cpos) (tBM X.K T r to t) := by
  intro pins s σ H Q I h
  refine wpAny_Call_method_late hbase hfew hline rfl (thn (ho pins s σ H _ I h) fun v s1 ⟨x, H1, I1, r1, ty, q1⟩ => ?_)
  obtain ⟨h1, h2⟩ := tyV_is I1 r1 ty
  refine ⟨T, id, pa, slot, hty, h1, h2, ?_⟩
  have hA := ha cpos pins s1 σ H1 _ I1 q1
  rw [hs] at hA ⊢
  refine Calls.callWith_builtin (by show (false || (backTo cpos (starEach es X.env)).any (·.1)) = false; rw [hplain] <;> rfl) (Calls.evalArgs_plain ?_)
  exact thn hA fun us s2 ⟨vs, H2, I2, r2, q2⟩ => hm pins s2 σ H2 x vs v us Q I2 r1 r2 q2
/- xs.append(e), list.index on a module's tuple .. are MtR facts of 06m -/
end
end L2
namespace L2
open PySem PySem.Spec PyProof.Rows
def MtM (X : Cx) (id : String) (r : V → List V → Hp → VK → Prop) : Prop :=
  ∀ (pins : List (Addr × Obj)) (s : Shared) (σ : St) (H : Hp) (x : V) (xs : List V) (v : Value) (us : List Value) (Q : VK), Inv X pins σ H s → RelV x v → Vals xs us → r x xs H Q →
    wpAny (model X.prog X.w) X.A (call (.builtin id) (v :: us)) (EP X pins σ Q) X.xe s
/-! ### lists of values -/
theorem Vals.one : ∀ {x : V} {us : List Value}, Vals [x] us → ∃ u, us = [u] ∧ RelV x u
  | _, _, .cons r .nil => ⟨_, rfl, r⟩
theorem Vals.two : ∀ {x y : V} {us : List Value}, Vals [x, y] us → ∃ u v, us = [u, v] ∧ RelV x u ∧ RelV y v
  | _, _, _, .cons r (.cons q .nil) => ⟨_, _, rfl, r, q⟩
theorem Vals.zero : ∀ {us : List Value}, Vals [] us → us = []
  | _, .nil => rfl
section
variable {X : Cx} {pins : List (Addr × Obj)} {σ : St} {H : Hp} {s : Shared} {l b : Addr} {xs ys zs : List V}
/-! ### the two steps: a tracked list is rewritten, a new list is laid -/
theorem Inv.lset {its its' : List Value} {n : Nat} {f : Array Value → Array Value} {t' : Nat} (I : Inv X pins σ H s) (hH : H l = some (.lst xs))
    (e : s.heap.get? l = some { cls := .type "list", data := .seq its.toArray n }) (hf : f its.toArray = its'.toArray) (hv : Vals ys its') (hz : ys.length ≤ sizeLine) :
    Inv X pins σ (upd H l (.lst ys)) { s with heap := s.heap.update l (Obj.mapSeq f), toks := t' } := by
  have q := PySem.IsL.update e f
  rw [hf] at q
  refine I.write (x := l) (e := l) (by rw [hH]; exact trivial) (.inl rfl) (fun b' u hb hu => (Heap.get?_update_other s.heap (Obj.mapSeq f) (Ne.symm hb)).trans hu) ⟨_, q⟩ ?_
  exact ⟨hz, its', _, hv, q⟩
theorem Inv.lnew {its : List Value} {t' : Nat} (I : Inv X pins σ H s) (hv : Vals ys its) (hz : ys.length ≤ sizeLine) :
    Inv X pins σ (upd H s.heap.objs.size (.lst ys)) { s with heap := s.heap.push { cls := .type "list", data := .seq its.toArray }, toks := t' } :=
  I.laid (fun _ _ q => Heap.get?_push_of_some _ q) (Nat.le_refl _) ⟨hz, its, 0, hv, Heap.get?_push_size _ rfl⟩
theorem Inv.fresh (I : Inv X pins σ H s) : H s.heap.objs.size = none := I.hok.fresh (Nat.le_refl _)
theorem Inv.lstM (I : Inv X pins σ H s) (hH : H l = some (.lst xs)) : xs.length ≤ sizeLine ∧ ∃ (its : List Value) (n : Nat), Vals xs its ∧ xs.length = its.length ∧ s.heap.get? l = some { cls := .type "list", data := .seq its.toArray n } := by
  obtain ⟨z, its, n, r, e⟩ := I.hok l _ hH
  exact ⟨z, its, n, r, r.length, e⟩
theorem notLongL {n : Nat} (h : n ≤ sizeLine) : Builtin.List.listTooLong n = false := by
  unfold Builtin.List.listTooLong
  exact decide_eq_false (by omega)
end
section
variable {X : Cx}
/-! ### methods -/
def rAppend : V → List V → Hp → VK → Prop := fun x vs H Q => ∃ l xs y, x = .ref l ∧ vs = [y] ∧ H l = some (.lst xs) ∧ xs.length < sizeLine ∧ Q .non (upd H l (.lst (xs ++ [y])))
theorem mt_append : MtM X "list.append" rAppend := by
  intro pins s σ H x vs v us Q I rx rv h
  obtain ⟨l, xs, y, rfl, rfl, hH, hz, q⟩ := h
  cases rx
  obtain ⟨u, rfl, ru⟩ := rv.one
  obtain ⟨z, its, n, r, hl, e⟩ := I.lstM hH
  refine call_meets F.slot_list_append ⟨_, e, rfl⟩ F.entry_list_append (F.args_list_append_2 _ _) (PySem.list_append l its.toArray n u (by rw [List.size_toArray]; omega)) ⟨e, ?_⟩
  refine ⟨.non, _, I.lset (its' := its ++ [u]) hH e (by simp) (r.append (.cons ru .nil)) ?_, rfl, q⟩
  rw [List.length_append, List.length_singleton]
  omega
def rExtend : V → List V → Hp → VK → Prop := fun x vs H Q => ∃ l b xs zs, x = .ref l ∧ vs = [.ref b] ∧ H l = some (.lst xs) ∧ H b = some (.lst zs) ∧ xs.length + zs.length ≤ sizeLine ∧ Q .non (upd H l (.lst (xs ++ zs)))
theorem mt_extend : MtM X "list.extend" rExtend := by
  intro pins s σ H x vs v us Q I rx rv h
  obtain ⟨l, b, xs, zs, rfl, rfl, hH, hB, hz, q⟩ := h
  cases rx
  obtain ⟨u, rfl, ru⟩ := rv.one
  cases ru
  obtain ⟨z, its, n, r, hl, e⟩ := I.lstM hH
  obtain ⟨z2, its2, n2, r2, hl2, e2⟩ := I.lstM hB
  have hsz : its.toArray.size + its2.toArray.size ≤ sizeLine := by rw [List.size_toArray, List.size_toArray]; omega
  have hlong : ¬ (!its.toArray.isEmpty && Builtin.List.listTooLong (its.toArray.size + its2.toArray.size)) = true := by
    rw [notLongL hsz, Bool.and_false]
    exact Bool.false_ne_true
  refine call_meets F.slot_list_extend ⟨_, e, rfl⟩ F.entry_list_extend (F.args_list_extend_2 _ _)
    (AutoSeq1.list_extend_list_list_0 l its.toArray n b its2.toArray n2 hlong (by rw [List.size_toArray]; omega) (by omega)) ⟨e, e2, ?_⟩
  refine ⟨.non, _, I.lset (its' := its ++ its2) hH e (by simp) (r.append r2) ?_, rfl, q⟩
  rw [List.length_append]
  omega
/-! ### list + list, list += list, list * int -/
def rCat : R2 := fun x y H Q => ∃ l b xs zs, x = .ref l ∧ y = .ref b ∧ H l = some (.lst xs) ∧ H b = some (.lst zs) ∧ xs.length + zs.length ≤ sizeLine ∧ ∀ p, H p = none → Q (.ref p) (upd H p (.lst (xs ++ zs)))
theorem op_cat : OpR X (binaryOp .Add) rCat := by
  intro pins s σ H x y v u Q I rx ry h
  obtain ⟨l, b, xs, zs, rfl, rfl, hH, hB, hz, q⟩ := h
  cases rx
  cases ry
  obtain ⟨z, its, n, r, hl, e⟩ := I.lstM hH
  obtain ⟨z2, its2, n2, r2, hl2, e2⟩ := I.lstM hB
  refine PySem.P.add_list e e2 ?_ (by rw [List.size_toArray, List.size_toArray]; omega)
  have ea : its.toArray ++ its2.toArray = (its ++ its2).toArray := by simp
  rw [ea]
  exact ⟨.ref _, _, I.lnew (t' := s.toks) (r.append r2) (by rw [List.length_append]; omega), rfl, q _ I.fresh⟩
/-! ### del xs[i] -/
end
/-! ### xs[a:b] = ys -/
section
variable {prog : Program} {w : World} {A : Around} {E : Value → Shared → Prop} {s : Shared}
theorem bounds_run {a c n : Nat} (hac : a ≤ c) (hc : c ≤ n) : sliceBounds (some (a : Int)) (some (c : Int)) none n = ((a : Int), (c : Int), 1) := by
  simp only [sliceBounds, Option.getD_none]
  have h1 : ¬ ((a : Int) < 0) := by omega
  have h2 : ¬ ((c : Int) < 0) := by omega
  simp only [h1, h2, if_false, show (1 : Int) > 0 by decide, if_true]
  congr 1
  · omega
  · congr 1; omega
set_option maxRecDepth 100000 in
/-- list.__setitem__ with a slice of step one and another list -/
theorem setItem_slice {l b sl : Addr} {items new : Array Value} {n n2 : Nat} {vl vu : Value} {a c : Nat} {Q : Unit → Shared → Prop}
    (e : s.heap.get? l = some { cls := .type "list", data := .seq items n }) (e2 : s.heap.get? b = some { cls := .type "list", data := .seq new n2 }) (hne : l ≠ b)
    (hs : s.heap.IsSliceOf sl vl vu .none) (pl : IsPart vl (some (a : Int))) (pu : IsPart vu (some (c : Int))) (hac : a ≤ c) (hc : c ≤ items.size)
    (hsz : items.size + new.size ≤ sizeLine) (h : Q () { s with heap := s.heap.update l (Obj.mapSeq fun xs => xs.extract 0 a ++ new ++ xs.extract c xs.size) }) :
    wpAny (model prog w) A (setItem (.ref l) (.ref sl) (.ref b)) Q E s := by
  have hl : s.heap.IsList l items := PySem.IsL.isList e
  have hb : s.heap.IsList b new := PySem.IsL.isList e2
  obtain ⟨os, hos, hcs, hds⟩ := id hs
  have hTs : s.TypeIs (.ref sl) "slice" := ⟨os, hos, hcs⟩
  have hstep : ¬ ((rawPart none == rawInt 0) = true) := Bool.false_ne_true
  have hsame : Builtin.List.listSameRef (.ref l) (.ref b) = false := by
    unfold Builtin.List.listSameRef
    exact beq_eq_false_iff_ne.mpr hne
  have hmax : (max (a : Int) (c : Int)).toNat = c := by omega
  have hz' : ((fun xs : Array Value => xs.extract 0 a ++ new ++ xs.extract c xs.size) items).size ≤ sizeLine + 1 := by
    simp only [Array.size_append, Array.size_extract]
    omega
  unfold setItem
  try with_reducible refine wpAny_holding ?_
  first | refine wpAny_bind (wpAny_pure ?_) | skip
  refine wpAny_bind (wpAny_sequenceKey hl.typeIs (by decide) ?_)
  refine wpAny_bind (wpAny_callSpecial?_slot (name := Str.ofString "__setitem__") hl.typeIs slot_list_setitem
    (wpAny_call_entry slot_list_setitem hl.typeIs entry_list_setitem ?_ (args_list_setitem _ _ _)))
  show wpAny _ _ (Builtin.List.listSubscript? (.ref sl) >>= _) _ _ s
  refine wpAny_bind ?_
  unfold Builtin.List.listSubscript?
  refine wpAny_bind (wpAny_specialOf hTs slice_no_index ?_)
  simp only [Option.isNone_none, if_true]
  refine wpAny_pure ?_
  show wpAny _ _ (typeOf (.ref sl) >>= _) _ _ s
  refine wpAny_bind (wpAny_typeOf hTs ?_)
  first
    | rw [if_neg (by decide)]
    | refine PySem.W.KFB.if_not (by decide) ?_
  rw [listSliceParts_eq]
  refine wpAny_bind (wpAny_bind (wpAny_field hos hds (x := .none) rfl (wpAny_bind (wpAny_listPart .none ?_))))
  rw [if_neg hstep]
  refine wpAny_bind (wpAny_field hos hds (x := vl) rfl (wpAny_bind (wpAny_listPart pl ?_)))
  refine wpAny_bind (wpAny_field hos hds (x := vu) rfl (wpAny_bind (wpAny_listPart pu (wpAny_pure ?_))))
  first
    | simp only [hsame, Bool.false_eq_true, if_false]
    | refine PySem.W.KFB.if_not hsame ?_
    | (dsimp only
       rw [if_neg (by rw [hsame]; exact Bool.false_ne_true)])
  refine wpAny_bind (m := Builtin.List.listAllItems (.ref b) "must assign iterable to extended slice") ?_
  unfold Builtin.List.listAllItems
  refine wpAny_bind (wpAny_typeOf hb.typeIs ?_)
  first
    | refine PySem.W.KFB.if_so (by decide) ?_
    | rw [if_pos (by decide)]
    | simp only [beq_self_eq_true, Bool.true_or, if_true]
  unfold Builtin.List.listItems
  refine wpAny_bind (wpAny_seqItems e2 rfl (wpAny_pure ?_))
  refine wpAny_bind (wpAny_bind (wpAny_seqItems e rfl (wpAny_pure ?_)))
  refine wpAny_bind (wpAny_of_eq ((sliceIndices_raw (some (a : Int)) (some (c : Int)) none items.size (by simp)).trans (congrArg (pure : Int × Int × Int → Sem (Int × Int × Int)) (bounds_run hac hc))) ?_)
  show wpAny _ _ (if ((1 : Int) == 1) = true then _ else _) _ _ s
  rw [if_pos (by decide)]
  refine wpAny_bind (wpAny_rule ?_)
  first
    | simp only [notLongL hsz, Bool.false_eq_true, if_false]
    | refine PySem.W.KFB.if_not (notLongL hsz) ?_
  first | refine wpAny_bind (wpAny_pure ?_) | skip
  show wpAny _ _ (updateSeq l (fun xs => xs.extract 0 ((a : Int)).toNat ++ new ++ xs.extract (max (a : Int) (c : Int)).toNat xs.size) >>= _) _ _ s
  rw [hmax, Int.toNat_natCast]
  refine wpAny_bind (wpAny_updateSeq (hz := Nat.le_trans (Nat.le_add_right _ _) hsz) (_hz' := hz') e rfl ?_)
  refine wpAny_bind (wpAny_letGo ?_)
  first
    | exact wpAny_bind (wpAny_pure (wpAny_pure ⟨.none, rfl, wpAny_pure h⟩))
    | exact wpAny_pure ⟨.none, rfl, wpAny_pure h⟩
end
section
variable {X : Cx}
end
end L2
namespace Att
open PySem PySem.W PySem.Calls PyProof.Rows
/-! ### the script -/
theorem ints_of_wellAll {P : Params} {h : Heap} : ∀ (ns : List Int) (vs : List Value), WellAll P h vs (ns.map WData.int) → IntsAre vs ns := by
  intro ns
  induction ns with
  | nil =>
    intro vs w
    rw [List.map_nil] at w
    cases w
    exact .nil
  | cons n ns ih =>
    intro vs w
    rw [List.map_cons] at w
    cases w with
    | cons a b =>
      cases a
      exact .cons _ _ (ih _ b)
theorem script_of {l : OpenLaw} {n : Nat} (hn : l.most = some n) {P : Params} {h : Heap} {args : List WData} {vals : List Value}
    (hpre : l.row.toRowW.claim.pre args = true) (hwl : WellAll P h vals args) :
    ∃ a vs ns, vals = [Value.ref a] ∧ args = [WData.list (ns.map WData.int)] ∧ h.get? a = some { cls := .type "list", data := .seq vs.toArray } ∧ IntsAre vs ns ∧ ns.length ≤ n := by
  have hsh : WShape.hasAll [] args [.list .int] = true := (pre_splitW hpre).1
  have hc : l.pre.holds [] { args := args } = true := (pre_splitW hpre).2
  obtain ⟨d, r, rfl, h1, h2⟩ := hasAllW_cons hsh
  obtain rfl := hasAllW_nil h2
  obtain ⟨xs, rfl, h3⟩ := hasW_list h1
  obtain ⟨ns, rfl⟩ := items_int h3
  have hlen : ns.length ≤ n := by
    unfold OpenLaw.pre at hc
    have h4 : (WTm.not (.lt (.lit (.int (n : Int))) (.len (.arg 0)))).holds [] { args := [.list (ns.map .int)] } = true := by
      have h4 := (holds_andW hc).1
      rw [hn] at h4
      exact h4
    have h5 := condW_of h4 (w_not (w_lt w_lit (w_len_list (w_arg rfl))))
    rw [List.length_map] at h5
    refine Nat.le_of_not_lt fun q => ?_
    have q' : (n : Int) < ((ns.length : Nat) : Int) := by omega
    first
      | (rw [decide_eq_true q'] at h5; exact absurd h5 (by decide))
      | (simp at h5; omega)
  cases hwl with
  | cons w1 w2 =>
    cases w2
    cases w1 with
    | list ho hall => exact ⟨_, _, ns, rfl, rfl, ho, ints_of_wellAll ns _ hall, hlen⟩
theorem post_true (l : OpenLaw) (args : List WData) : l.row.toRowW.claim.post args (.bool true) args = true :=
  postW_of (r := l.row.toRowW) (X := (true == true))
    (show WShape.has [] (.bool true) .bool = true by first | rfl | decide | simp [WShape.has, WShape.arms, WShape.armsAll])
    (show (WTm.eq .res (.lit (.bool true))).value [] { args := args, res := some (.bool true), after := args } = some (.bool (true == true)) from w_eq_bool (w_res rfl) w_lit) rfl
/-! ### the attachment: holds_open's last premise (the goal 'hc' behind k_head) from a wpAny of the law's body -/
/-- the same from a codeAny of the CALL (for a layer whose function contracts speak of calls) -/
theorem attach_call {l : OpenLaw} {n : Nat} {q : Program} {loose : List Str} {XP : (Str → Option Value) → Heap → Prop} {YP : World → Heap → Prop} {d : DefRec}
    (hn : l.most = some n) (hdf : d.params.defaults = [])
    (call : ∀ (w : World) (s₀ s₁ : Shared) (mg mb : Str → Option Value) (fa : Addr) (o : Obj) (pm cd doc : Value) (a : Addr) (vs : List Value) (ns : List Int),
      Ground q loose [] XP w s₀ mg mb s₁.heap → YP w s₁.heap →
      s₁.heap.get? fa = some o → o.data = .func (docDef d.name d.params d.body d.scope pm cd doc) → s₁.heap.CodeRec cd d.name → mg d.name = some (.ref fa) →
      s₁.heap.get? a = some { cls := .type "list", data := .seq vs.toArray } → IntsAre vs ns → ns.length ≤ n → s₁.gens = #[] →
      codeAny (model l.prog w) callerA (.call (.ref fa) ⟨[.ref a], []⟩) (fun r s' => r = .ok (.ret (.bool true)) ∧ OldK s₁.heap s'.heap ∧ s'.os = s₁.os ∧ AllBare s'.gens) s₁) :
    WalkO q loose XP YP l.row.toRowW d [] (fun f vs => PySem.call f vs) := by
  intro w s₀ s₁ mg mb G Y fa o pm cd doc dV kV ho hd hcd hD hmg hg args vals as hpre hlay hrd hwl hlo
  obtain rfl : dV = .none := Dflts.none hD hdf
  obtain rfl : kV = .none := Dflts.noKw hD
  obtain ⟨a, vs, ns, rfl, rfl, hobj, hints, hlen⟩ := script_of hn hpre hwl
  refine enter_call (codeAny_mono (call w s₀ s₁ mg mb fa o pm cd doc a vs ns G Y ho (fd_plain hd) hcd hmg hobj hints hlen hg) fun r s' hq => ?_)
  obtain ⟨rfl, h2, h3, h4⟩ := hq
  exact ⟨.inl ⟨.bool true, .bool true, [], rfl, fun _ => rfl, .bool true, post_true l _, fun _ => ⟨List.Pairwise.nil, fun _ hm => (nomatch hm)⟩⟩, h2, h3, h4⟩
/-! ### rules over ANY heap (no ledger) from facts about the written part K: the library's own take a ledger (News) for what they write -/
section
variable {prog : Program} {w : World} {A : Around} {E : Value → Shared → Prop} {s : Shared} {K : Frag}
/-! the whole heap as the ledger: makes every rule that writes through a ledger a rule over any heap -/
def ledger (h : Heap) (L d : Addr) : List (Addr × Obj) := (List.range h.objs.size).filterMap fun a => if a = L ∨ a = d then none else (h.get? a).map fun o => (a, o)
end
end Att
namespace L2
open PySem PySem.Spec PyProof.Rows
theorem vals_ints : ∀ {vs : List Value} {ns : List Int}, IntsAre vs ns → Vals (ns.map V.int) vs
  | _, _, .nil => .nil
  | _, _, .cons n t h => .cons ⟨t, rfl⟩ (vals_ints h)
/-- nothing is tracked but the script, known to the object (or it is an object of the module) -/
def Only (H : Hp) : Prop := ∀ b, H b = none ∨ ∃ o xs, H b = some (.frz o (.lst xs))
/-- THE HEAD: the law's promise, at the heap behind the top. F, the promise of the law's def, may use that base is part of the heap (so K.In base, base.Ns mainGlobals mg stand in Mod) -/
theorem law_call {P : Program} {w : World} {K : PySem.W.Frag} {mg mb : Str → Option Value} {CX : CXT} {k : Nat} {fa a : Addr} {fd : FuncData} {x : Str} {sp : Sp} {s₁ : Shared} {vs : List Value} {ns : List Int}
    (KX : K.In s₁.heap) (hns : s₁.heap.Ns mainGlobals mg) (hb : s₁.heap.Ns builtinsNs mb) (hbb : ∀ x : Str, x ≠ "__name__" → mb x = bootBuiltins x) (hlim : s₁.heap.NoLimit) (hg : s₁.gens = #[])
    (ha : s₁.heap.get? a = some { cls := .type "list", data := .seq vs.toArray }) (hi : IntsAre vs ns) (hl : ns.length ≤ sizeLine) (hr : Room k callerA)
    (F : ∀ base : Heap, K.In base → base.Ns mainGlobals mg → FnOk P w K mg base CX k fa fd [x] sp) (hbind : ∀ (s : Shared) (u : Value), BindsTo s fd ⟨[u], []⟩ [(x, u)])
    (hsp : ∀ H : Hp, Only H → SqL K H a (ns.map V.int) → sp [.ref a] H (fun v _ => v = .bl true) fun _ _ _ => False)
    (hCX : ∀ H e s', CX [] H s₁ (fun _ _ _ => False) e s' → False) :
    codeAny (model P w) callerA (.call (.ref fa) ⟨[.ref a], []⟩) (fun r s' => r = .ok (.ret (.bool true)) ∧ OldK s₁.heap s'.heap ∧ s'.os = s₁.os ∧ AllBare s'.gens) s₁ := by
  have rv := vals_ints hi
  have lenV := hi.length
  -- from an abstract heap in which nothing but the script may be tracked
  have core : ∀ H : Hp, Only H → SqL K H a (ns.map V.int) → HOk P w H s₁.heap → (∀ b, H b ≠ none → b = a) → (H a ≠ none → K.lookup a = none) →
      codeAny (model P w) callerA (.call (.ref fa) ⟨[.ref a], []⟩) (fun r s' => r = .ok (.ret (.bool true)) ∧ OldK s₁.heap s'.heap ∧ s'.os = s₁.os ∧ AllBare s'.gens) s₁ := by
    intro H hO hS hok hA hK
    have base_of : ∀ {b : Addr} {o : Obj}, s₁.heap.get? b = some o → H b = none → (hidT s₁.heap H).get? b = some o := fun e n => hidT_get e n
    have noA : ∀ {b : Addr} {o : Obj} {es : Array DictEntry} {ep : Nat}, s₁.heap.get? b = some o → o.data = .dict es ep → H b = none := fun {b o es ep} e d => by
      cases q : H b with
      | none => rfl
      | some u =>
        have e' : b = a := hA b (by rw [q]; simp)
        subst e'
        rw [ha] at e; cases e
        have d' : Data.seq vs.toArray _ = Data.dict es ep := d
        cases d'
    have nsK : ∀ {b : Addr} {m : Str → Option Value}, s₁.heap.Ns b m → (hidT s₁.heap H).Ns b m := fun {b m} ⟨o, es, ep, e, d, r⟩ => ⟨o, es, ep, base_of e (noA e d), d, r⟩
    have hKb : K.In (hidT s₁.heap H) := fun b o e => base_of (KX b o e) (by
      cases q : H b with
      | none => rfl
      | some u =>
        have e' : b = a := hA b (by rw [q]; simp)
        subst e'
        rw [hK (by rw [q]; simp)] at e; cases e)
    have hM : Mod K mg (hidT s₁.heap H) := ⟨hKb, nsK hns, ⟨mb, nsK hb, hbb⟩, let ⟨mc, h1, h2⟩ := hlim; ⟨mc, nsK h1, h2⟩⟩
    have e0 : Env0 P w K mg (hidT s₁.heap H) callerA [] s₁ H := ⟨rfl, hM, fun b o e => of_hidT e, Nat.le_of_eq (hidT_size _ _), trivial, fun b hb => absurd (show b ∈ ([] : List Addr) from hb) (by simp), hok, .of_eq hg⟩
    refine codeAny_mono ((F _ hKb (nsK hns)).run callerA [] s₁ H ⟨[.ref a], []⟩ [.ref a] [.ref a] _ _ hr e0 (hbind s₁ (.ref a)) (.cons rfl .nil) (hsp H hO hS)) fun r s' h => ?_
    cases r with
    | error e => exact (hCX H e s' h).elim
    | ok fl =>
      cases fl with
      | next => exact False.elim h
      | brk => exact False.elim h
      | cont => exact False.elim h
      | ret u =>
        obtain ⟨v, H', os, bare, un, hok', r', q⟩ := h
        have q' : v = .bl true := q
        subst q'
        obtain rfl : u = Value.bool true := r'
        refine ⟨rfl, OldK.of_keep fun b o e => ?_, os, bare⟩
        cases q : H b with
        | none => exact un.keep b o e q (by intro z; exact absurd (show b ∈ ([] : List Addr) from z) (by simp)) (by simp)
        | some u =>
          rcases hO b with z | ⟨ob, xs, z⟩
          · rw [q] at z; cases z
          · have z2 := un.frzs b ob _ z
            obtain ⟨e1, _⟩ := hok b _ z
            obtain ⟨e2, _⟩ := hok' b _ z2
            rw [e] at e1; cases e1
            exact e2
  cases hk : K.lookup a with
  | some o =>
    -- the script is one of the module's own objects
    have e := KX a o hk
    rw [ha] at e
    cases e
    refine core (fun _ => none) (fun _ => .inl rfl) (.inr ⟨_, vs.toArray, _, hk, rfl, rfl, rfl, by rw [List.size_toArray, lenV]; exact hl, by simpa using rv⟩) (fun b u z => by have z' : (none : Option HO) = some u := z; cases z') (fun b z => absurd rfl z) fun z => absurd rfl z
  | none =>
    refine core (fun b => if b = a then some (.frz { cls := .type "list", data := .seq vs.toArray } (.lst (ns.map V.int))) else none) (fun b => ?_) (.inl (.inr ⟨{ cls := .type "list", data := .seq vs.toArray }, if_pos rfl⟩)) (fun b u z => ?_) (fun b z => ?_) fun _ => hk
    · by_cases hb : b = a
      · exact .inr ⟨_, _, if_pos hb⟩
      · exact .inl (if_neg hb)
    · by_cases hb : b = a
      · have z' := (if_pos hb).symm.trans z
        cases z'
        subst hb
        exact ⟨ha, by rw [List.length_map]; exact hl, vs, _, rv, ha⟩
      · have z' := (if_neg hb).symm.trans z
        cases z'
    · by_cases hb : b = a
      · exact hb
      · exact absurd (if_neg hb) z
end L2
namespace L2
open PySem PySem.Spec PyProof.Rows
/-- the goal that k_head leaves (case hc), from the law's promise. F gives the function object fd (K's own) once, then the promise over every base -/
theorem walk_of {l : PySem.W.OpenLaw} {n k : Nat} {q : Program} {loose : List Str} {XP : (Str → Option Value) → Heap → Prop} {YP : World → Heap → Prop} {d : DefRec} {K : Params → PySem.W.Frag} {CX : World → CXT} {sp : World → Sp} {x : Str}
    (hn : l.most = some n) (hn2 : n ≤ sizeLine) (hdf : d.params.defaults = []) (hr : Room k callerA)
    (hY : ∀ (w : World) (h : Heap), YP w h → (K w.params).In h)
    (F : ∀ (w : World) (mg : Str → Option Value) (fa : Addr) (h : Heap), (K w.params).In h → h.Ns mainGlobals mg → mg d.name = some (.ref fa) →
      ∃ fd : FuncData, (∀ (s : Shared) (u : Value), BindsTo s fd ⟨[u], []⟩ [(x, u)]) ∧
        ∀ base : Heap, (K w.params).In base → base.Ns mainGlobals mg → FnOk l.prog w (K w.params) mg base (CX w) k fa fd [x] (sp w))
    (hsp : ∀ (w : World) (H : Hp) (a : Addr) (ns : List Int), ns.length ≤ n → Only H → SqL (K w.params) H a (ns.map V.int) → sp w [.ref a] H (fun v _ => v = .bl true) fun _ _ _ => False)
    (hCX : ∀ (w : World) (H : Hp) (s : Shared) (e : Value) (s' : Shared), CX w [] H s (fun _ _ _ => False) e s' → False) :
    PySem.W.WalkO q loose XP YP l.row.toRowW d [] (fun f vs => PySem.call f vs) := by
  refine Att.attach_call hn hdf fun w s₀ s₁ mg mb fa o pm cd doc a vs ns G Y ho hd hcd hmg hobj hints hlen hg => ?_
  have KX := hY w _ Y
  obtain ⟨fd, hb, hF⟩ := F w mg fa _ KX G.T.g hmg
  exact law_call KX G.T.g G.T.b G.T.builtins G.T.nolimit hg hobj hints (Nat.le_trans hlen hn2) hr hF hb (fun H hO hS => hsp w H a ns hlen hO hS) fun H e s' => hCX w H s₁ e s'
end L2
/- THE LAST THEOREM (shape; LID, My.* are yours):
   My.Adr: a structure of the addresses that your layer names (classes, functions); My.Txt K t: a structure (Prop) of the equations over K;
   My.txt_mk : {K} {implicit addresses ..} (e1 : nsIn K mainGlobals "law" = some (some (.ref f))) (e2 : K.lookup f = some ⟨oc, od, .func (fnOf "law" "law" params body scope dV kV doc pm an cdv ct), sl⟩) (e3 : codeIn K cdv "law" = true) .. : ∃ t, My.Txt K t
set_option maxRecDepth 100000 in
set_option maxHeartbeats 0 in
theorem PySem.Challenge.cw_LID_holds : PySem.Challenge.rw_LID.Holds := by
  w_on; o_law; k_head; (case hw => w_witness2)
  k_fill
  refine L2.walk_of (l := PySem.Challenge.rw_LID) (n := 63) (k := 40) (x := "script") (CX := fun w => ..) (sp := fun _ => My.sp_law) rfl (by decide) rfl ⟨rfl, by decide, by decide⟩ (fun w h Y => PySem.W.kIn_of Y) ?F ?S ?C
  case F =>
    intro w mg fa h KX G hmg
    have T : ∃ t, My.Txt (L2.KOf KX) t := by
      dsimp only [L2.KOf]                          -- K must stand as «<heap const> w.params» for k_is
      refine' My.txt_mk ?e1 ?e2 ?e3 ..
      (case e1 => PySem.W.k_is)                    -- in the order: a name -> its address -> its object -> its parts
      (case e2 => PySem.W.k_is)
      ..
    obtain ⟨t, T⟩ := T
    have e0 := hmg.symm.trans (PySem.W.mg_of KX G T.law)
    cases e0                                       -- fa is the law's own address
    exact ⟨_, fun s u => .of_eq rfl, fun base kb nb => My.law_fn T kb nb⟩     -- if «.of_eq rfl» comes too early: refine' ⟨_, ?b, fun base kb nb => My.law_fn T kb nb⟩; exact fun s u => .of_eq rfl
  case S => exact fun w H a ns hl hO hS => ..
  case C => exact ..
(the tactic k_is has no namespace: write k_is) -/
/-! SHORT WORDS over the layer: a def of the text, its body, what a loop and a test want. -/
namespace L2
open PySem PySem.Spec PyProof.Rows
/-! ### the text by places -/
/-- the j-th statement of a class's body -/
def inClass (s : Stmt) (j : Nat) : Stmt := match s with
  | .ClassDef _ _ _ body _ _ _ _ _ _ _ => body.getD j (.Pass ⟨0, 0, 0, 0⟩)
  | _ => .Pass ⟨0, 0, 0, 0⟩
def defArgs (s : Stmt) : Arguments := match s with
  | .FunctionDef _ a _ _ _ _ _ _ _ _ => a
  | _ => { posonlyargs := [], args := [], vararg := none, kwonlyargs := [], kw_defaults := [], kwarg := none, defaults := [] }
def defBody (s : Stmt) : List Stmt := match s with
  | .FunctionDef _ _ b _ _ _ _ _ _ _ => b
  | _ => []
def defScope (s : Stmt) : Scope := match s with
  | .FunctionDef _ _ _ _ _ _ sc _ _ _ => sc
  | _ => { kind := .function, names := [], isGenerator := false, isCoroutine := false }
/-! ### no exception leaves a def -/
abbrev CX0 : CXT := fun _ _ _ _ _ _ => False
abbrev E0 : XK := fun _ _ _ => False
theorem pass0 {X : Cx} : Passes CX0 X E0 := fun _ _ _ _ _ _ _ h => h.elim
/-! ### a def (or method) of the text as it stands behind the top -/
structure Fun (K : PySem.W.Frag) (x qual : Str) (st : Stmt) (f : Addr) (fd : FuncData) : Prop where
  ex : ∃ (oc : Value) (od : Option Addr) (kV doc pm : Value) (an : Option Addr) (cdv ct : Value) (osl : Array (Option Value)),
    fd = PySem.W.fnOf x qual (defArgs st) (defBody st) (defScope st) .none kV doc pm an cdv ct ∧ K.lookup f = some ⟨oc, od, .func fd, osl⟩ ∧ PySem.W.codeIn K cdv qual = true
  kp : PySem.W.keepIn K (.ref f) = true
section
variable {P : Program} {w : World} {K : PySem.W.Frag} {mg : Str → Option Value} {base : Heap}
/-- THE RULE for a def: its body as a term of rules, and the reading of that term -/
theorem Fun.ok {x qual : Str} {st : Stmt} {f : Addr} {fd : FuncData} {N ps : List Str} {k : Nat} {sp : Sp} (F : Fun K x qual st f fd) (S : FnScope N ps (defScope st)) (len : ∀ vs H Q E, sp vs H Q E → vs.length = ps.length)
    (hbody : ∀ (cdv : Value) (A : Around) (outer : List Env) (s : Shared) (H : Hp) (vs : List V) (Q : VK) (E : XK), Room k (A.deeper (envOfC qual (defScope st) s.heap.objs.size f cdv)) → sp vs H Q E →
      ∃ t, PSs (cxOf CX0 P w K mg base N qual (defScope st) f cdv A outer s H E).nox (defBody st) t ∧ t { nx := fun _ H' => Q .non H', rt := Q } (start N vs) H) : FnOk P w K mg base CX0 (k + 1) f fd ps sp := by
  obtain ⟨oc, od, kV, doc, pm, an, cdv, ct, osl, rfl, lk, hcd⟩ := F.ex
  refine fn_of lk hcd S len fun A outer s H vs Q E hr hsp => ?_
  obtain ⟨t, h, q⟩ := hbody cdv A outer s H vs Q E hr hsp
  exact ⟨t, h.nox, q⟩
/-- how its arguments bind (no defaults): h is «fun _ _ _ _ _ _ us hl => match us, hl with | [_, _], _ => rfl», one _ a parameter -/
theorem Fun.binds {x qual : Str} {st : Stmt} {f : Addr} {fd : FuncData} {ps : List Str} (F : Fun K x qual st f fd)
    (h : ∀ (kV doc pm : Value) (an : Option Addr) (cdv ct : Value) (us : List Value), us.length = ps.length → bindArgs (PySem.W.fnOf x qual (defArgs st) (defBody st) (defScope st) .none kV doc pm an cdv ct) ⟨us, []⟩ = pure (ps.zip us)) : Binds K fd ps [] := by
  obtain ⟨oc, od, kV, doc, pm, an, cdv, ct, osl, rfl, lk, hcd⟩ := F.ex
  exact .all (h kV doc pm an cdv ct)
theorem fun_mk {x qual : Str} {st : Stmt} {f : Addr} {oc : Value} {od an : Option Addr} {osl : Array (Option Value)} {kV doc pm cdv ct : Value} (l : K.lookup f = some ⟨oc, od, .func (PySem.W.fnOf x qual (defArgs st) (defBody st) (defScope st) .none kV doc pm an cdv ct), osl⟩)
    (c : PySem.W.codeIn K cdv qual = true) (k : PySem.W.keepIn K (.ref f) = true) : Fun K x qual st f (PySem.W.fnOf x qual (defArgs st) (defBody st) (defScope st) .none kV doc pm an cdv ct) := ⟨⟨oc, od, kV, doc, pm, an, cdv, ct, osl, rfl, l, c⟩, k⟩
end
theorem hu_of {A : Around} {k : Nat} (hr : Room k A) : A.units + 1 < cLine := Nat.lt_of_le_of_lt (Nat.add_le_add_left (by decide : 1 ≤ 64) _) hr.units
theorem small1000 {n : Nat} (h : n ≤ 1000) : n < sizeLine := Nat.lt_of_le_of_lt h (by decide)
/-! ### expressions in short: the name that stands in the i-th slot -/
section
variable {X : Cx}
theorem pv (i : Nat) {x : Str} {pos : Pos} (hN : X.N[i]? = some x := by rfl) (hv : Vis X.env.scope x := by first | exact Or.inl rfl | exact Or.inr (Or.inl rfl) | exact Or.inr (Or.inr rfl)) (hd : (x == ("__debug__" : Str)) = false := by decide)
    (hcd : (x == ("__classdict__" : Str)) = false := by decide) : PE X (.Name x pos) (tVar i) := pe_var hN hv hd hcd
end
/-! ### tests -/
theorem iteF {A B : Prop} (h : B) : if false = true then A else B := by
  rw [if_neg Bool.false_ne_true]
  exact h
theorem iteT {A B : Prop} (h : A) : if true = true then A else B := by
  rw [if_pos rfl]
  exact h
/-! ### heaps -/
/-- all that was tracked is as it was -/
def Same (H H' : Hp) : Prop := ∀ b o, H b = some o → H' b = some o
theorem Same.refl (H : Hp) : Same H H := fun _ _ h => h
theorem Same.trans {H H1 H2 : Hp} (a : Same H H1) (b : Same H1 H2) : Same H H2 := fun c o h => b c o (a c o h)
theorem Same.free {H H' : Hp} (e : Same H H') {l : Addr} (h : H' l = Option.none) : H l = Option.none := by
  cases q : H l with
  | none => rfl
  | some o =>
    rw [e l o q] at h
    cases h
theorem Same.seq {K : PySem.W.Frag} {H H' : Hp} {a : Addr} {xs : List V} (e : Same H H') (h : SqL K H a xs) : SqL K H' a xs := by
  rcases h with (h | ⟨o, h⟩) | h
  · exact .inl (.inl (e _ _ h))
  · exact .inl (.inr ⟨o, e _ _ h⟩)
  · exact .inr h
end L2
namespace L2
open PySem PySem.Spec PyProof.Rows
/-! ### lists of pairs as tables -/
section
variable {κ : Type} [DecidableEq κ]
def valV (kvs : List (κ × V)) (k : κ) : Option V := (kvs.find? fun kv => decide (kv.1 = k)).map (·.2)
/-- in its place, or at the end -/
def putK (kvs : List (κ × V)) (k : κ) (v : V) : List (κ × V) :=
  if (kvs.any fun kv => decide (kv.1 = k)) = true then kvs.map (fun kv => if kv.1 = k then (kv.1, v) else kv) else kvs ++ [(k, v)]
def dropK (kvs : List (κ × V)) (k : κ) : List (κ × V) := kvs.filter fun kv => decide (kv.1 ≠ k)
theorem valV_pos {p : κ × V} {r : List (κ × V)} {k : κ} (e : p.1 = k) : valV (p :: r) k = some p.2 := by simp [valV, List.find?_cons, e]
theorem valV_neg {p : κ × V} {r : List (κ × V)} {k : κ} (e : ¬ p.1 = k) : valV (p :: r) k = valV r k := by simp [valV, List.find?_cons, e]
theorem valV_any (k : κ) : ∀ kvs : List (κ × V), (kvs.any fun kv => decide (kv.1 = k)) = (valV kvs k).isSome
  | [] => rfl
  | p :: r => by
    rw [List.any_cons]
    by_cases e : p.1 = k
    · simp only [valV_pos e, decide_eq_true e, Bool.true_or, Option.isSome_some]
    · rw [valV_neg e, decide_eq_false e, Bool.false_or]; exact valV_any k r
theorem valV_map (k j : κ) (y : V) : ∀ kvs : List (κ × V), valV (kvs.map fun kv => if kv.1 = k then (kv.1, y) else kv) j = (valV kvs j).map fun x => if j = k then y else x
  | [] => rfl
  | p :: r => by
    have ih := valV_map k j y r
    rw [List.map_cons]
    by_cases h : p.1 = k
    · rw [if_pos h]
      by_cases e : p.1 = j
      · rw [valV_pos (p := (p.1, y)) e, valV_pos e, Option.map_some, if_pos (e.symm.trans h)]
      · rw [valV_neg (p := (p.1, y)) e, valV_neg e, ih]
    · rw [if_neg h]
      by_cases e : p.1 = j
      · rw [valV_pos (p := p) e, valV_pos e, Option.map_some, if_neg (fun z => h (e.trans z))]
      · rw [valV_neg (p := p) e, valV_neg e, ih]
theorem valV_snoc (k j : κ) (y : V) : ∀ kvs : List (κ × V), valV kvs k = none → valV (kvs ++ [(k, y)]) j = if j = k then some y else valV kvs j
  | [], _ => by
    by_cases e : k = j
    · rw [if_pos e.symm]; exact valV_pos (p := (k, y)) e
    · rw [if_neg (fun z => e z.symm)]; exact valV_neg (p := (k, y)) e
  | p :: r, hn => by
    rw [List.cons_append]
    have hk : ¬ p.1 = k := fun z => by rw [valV_pos z] at hn; cases hn
    rw [valV_neg hk] at hn
    have ih := valV_snoc k j y r hn
    by_cases e : p.1 = j
    · rw [valV_pos e, valV_pos e, if_neg (fun z => hk (e.trans z))]
    · rw [valV_neg e, valV_neg e, ih]
theorem valV_put (kvs : List (κ × V)) (k j : κ) (y : V) : valV (putK kvs k y) j = if j = k then some y else valV kvs j := by
  unfold putK
  by_cases a : (kvs.any fun kv => decide (kv.1 = k)) = true
  · rw [if_pos a, valV_map]
    rw [valV_any] at a
    by_cases e : j = k
    · obtain ⟨x, hx⟩ := Option.isSome_iff_exists.mp a
      rw [if_pos e, e, hx, Option.map_some, if_pos rfl]
    · rw [if_neg e]
      cases valV kvs j with
      | none => rfl
      | some x => rw [Option.map_some, if_neg e]
  · rw [if_neg a]
    refine valV_snoc k j y kvs ?_
    rw [valV_any] at a
    cases q : valV kvs k with
    | none => rfl
    | some x => rw [q] at a; exact (a rfl).elim
theorem length_putK (kvs : List (κ × V)) (k : κ) (v : V) : (putK kvs k v).length ≤ kvs.length + 1 := by
  unfold putK
  split
  · rw [List.length_map]; omega
  · rw [List.length_append, List.length_cons, List.length_nil]; omega
theorem RelO.isSome_eq {o : Option V} {u : Option Value} (r : RelO o u) : o.isSome = u.isSome := by
  cases o with
  | none => cases u with
    | none => rfl
    | some _ => exact (show False from r).elim
  | some _ => cases u with
    | none => exact (show False from r).elim
    | some _ => rfl
theorem RelO.getD {o : Option V} {u : Option Value} {d : V} {d' : Value} (r : RelO o u) (rd : RelV d d') : RelV (o.getD d) (u.getD d') := by
  cases o with
  | none => cases u with
    | none => exact rd
    | some _ => exact (show False from r).elim
  | some _ => cases u with
    | none => exact (show False from r).elim
    | some _ => exact r
/-- raw tables of the same keys -/
theorem KV.val {kvs : List (κ × V)} {vs : List (κ × Value)} (r : KV kvs vs) (k : κ) : RelO (valV kvs k) (valueAt vs k) := by
  unfold KV at r
  induction r with
  | nil => exact True.intro
  | @cons p q ps qs h t ih =>
    obtain ⟨h1, h2⟩ := h
    by_cases e : p.1 = k
    · have e' : q.1 = k := h1.symm.trans e
      have b : valueAt (q :: qs) k = some q.2 := by simp [valueAt, List.find?_cons, e']
      rw [valV_pos e, b]; exact h2
    · have e' : ¬ q.1 = k := fun z => e (h1.trans z)
      have b : valueAt (q :: qs) k = valueAt qs k := by simp [valueAt, List.find?_cons, e']
      rw [valV_neg e, b]; exact ih
theorem KV.any {kvs : List (κ × V)} {vs : List (κ × Value)} (r : KV kvs vs) (k : κ) : (kvs.any fun kv => decide (kv.1 = k)) = vs.any fun kv => decide (kv.1 = k) := by
  unfold KV at r
  induction r with
  | nil => rfl
  | cons h t ih => rw [List.any_cons, List.any_cons, ih, h.1]
theorem KV.repl {kvs : List (κ × V)} {vs : List (κ × Value)} (r : KV kvs vs) (k : κ) {y : V} {u : Value} (ry : RelV y u) :
    KV (kvs.map fun kv => if kv.1 = k then (kv.1, y) else kv) (vs.map fun kv => if kv.1 = k then (kv.1, u) else kv) := by
  unfold KV at r ⊢
  induction r with
  | nil => exact .nil
  | @cons p q ps qs h t ih =>
    rw [List.map_cons, List.map_cons]
    refine .cons ?_ ih
    obtain ⟨h1, h2⟩ := h
    by_cases e : p.1 = k
    · rw [if_pos e, if_pos (h1.symm.trans e)]; exact ⟨h1, ry⟩
    · rw [if_neg e, if_neg (fun z => e (h1.trans z))]; exact ⟨h1, h2⟩
theorem KV.put {kvs : List (κ × V)} {vs : List (κ × Value)} (r : KV kvs vs) (k : κ) {y : V} {u : Value} (ry : RelV y u) : KV (putK kvs k y) (stored vs k u) := by
  unfold putK stored
  rw [r.any k]
  by_cases e : (vs.any fun kv => decide (kv.1 = k)) = true
  · rw [if_pos e, if_pos e]; exact r.repl k ry
  · rw [if_neg e, if_neg e]; exact Paired.snoc r ⟨rfl, ry⟩
theorem KV.drop {kvs : List (κ × V)} {vs : List (κ × Value)} (r : KV kvs vs) (k : κ) : KV (dropK kvs k) (without vs k) := by
  unfold KV at r ⊢
  unfold dropK without
  induction r with
  | nil => exact .nil
  | @cons p q ps qs h t ih =>
    obtain ⟨h1, h2⟩ := h
    rw [List.filter_cons, List.filter_cons]
    by_cases e : p.1 = k
    · have a : ¬ decide (p.1 ≠ k) = true := by simp [e]
      have b : ¬ decide (q.1 ≠ k) = true := by simp [h1.symm.trans e]
      rw [if_neg a, if_neg b]; exact ih
    · have e' : ¬ q.1 = k := fun z => e (h1.trans z)
      have a : decide (p.1 ≠ k) = true := by simp [e]
      have b : decide (q.1 ≠ k) = true := by simp [e']
      rw [if_pos a, if_pos b]; exact .cons ⟨h1, h2⟩ ih
theorem KV.keys {kvs : List (κ × V)} {vs : List (κ × Value)} (r : KV kvs vs) : kvs.map (·.1) = vs.map (·.1) := by
  unfold KV at r
  induction r with
  | nil => rfl
  | cons h t ih => rw [List.map_cons, List.map_cons, ih, h.1]
theorem KV.length {kvs : List (κ × V)} {vs : List (κ × Value)} (r : KV kvs vs) : kvs.length = vs.length := Paired.length r
end
/-! ### a tracked dict, its keys ints and texts or tuples of these -/
theorem kV_is {P : Program} {w : World} {k : Key} {u : Value} (r : RelV (kV k) u) : (mixKind P w).is k u = true := by
  cases k with
  | inl i => obtain ⟨t, e⟩ := (show ∃ t, u = Value.int i t from r); subst e; exact mixKind_int P w i t
  | inr x => obtain ⟨t, e⟩ := (show ∃ t, u = Value.str x t from r); subst e; exact mixKind_str P w x t
theorem items_are {P : Program} {w : World} : ∀ {ks : List Key} {us : List Value}, Vals (ks.map kV) us → ItemsAre (mixKind P w) ks us
  | [], _, r => by rw [List.map_nil] at r; cases r; exact .nil
  | k :: ks, _, r => by
    rw [List.map_cons] at r
    cases r with
    | cons h t => exact .cons (kV_is h) (items_are t)
/-- raw entries of a dict with tuple keys -/
abbrev KT (H : Hp) : List (List Key × V) → List (List Key × Addr × Value) → Prop := Paired fun p q => p.1 = q.1 ∧ H q.2.1 = some (.tup (p.1.map kV)) ∧ RelV p.2 q.2.2
theorem KT.val {H : Hp} {kvs : List (List Key × V)} {xs : List (List Key × Addr × Value)} (r : KT H kvs xs) (k : List Key) : RelO (valV kvs k) ((atKey xs k).map (·.2)) := by
  induction r with
  | nil => exact True.intro
  | @cons p q ps qs h t ih =>
    obtain ⟨h1, _, h2⟩ := h
    by_cases e : p.1 = k
    · have e' : q.1 = k := h1.symm.trans e
      have b : atKey (q :: qs) k = some q.2 := by simp [atKey, List.find?_cons, e']
      rw [valV_pos e, b]; exact h2
    · have e' : ¬ q.1 = k := fun z => e (h1.trans z)
      have b : atKey (q :: qs) k = atKey qs k := by simp [atKey, List.find?_cons, e']
      rw [valV_neg e, b]; exact ih
theorem KT.repl {H : Hp} {kvs : List (List Key × V)} {xs : List (List Key × Addr × Value)} (r : KT H kvs xs) (k : List Key) {y : V} {u : Value} (ry : RelV y u) :
    KT H (kvs.map fun kv => if kv.1 = k then (kv.1, y) else kv) (xs.map (putAt k u)) := by
  induction r with
  | nil => exact .nil
  | @cons p q ps qs h t ih =>
    rw [List.map_cons, List.map_cons]
    refine .cons ?_ ih
    obtain ⟨h1, h2, h3⟩ := h
    unfold putAt
    by_cases e : p.1 = k
    · rw [if_pos e, if_pos (h1.symm.trans e)]; exact ⟨h1, h2, ry⟩
    · rw [if_neg e, if_neg (fun z => e (h1.trans z))]; exact ⟨h1, h2, h3⟩
theorem KT.put {H : Hp} {kvs : List (List Key × V)} {xs : List (List Key × Addr × Value)} (r : KT H kvs xs) (k : List Key) {b : Addr} {y : V} {u : Value} (hb : H b = some (.tup (k.map kV))) (ry : RelV y u) :
    KT H (putK kvs k y) (storedH xs k b u) := by
  have e : (kvs.any fun kv => decide (kv.1 = k)) = (atKey xs k).isSome := by
    rw [valV_any, (r.val k).isSome_eq, Option.isSome_map]
  unfold putK storedH
  rw [e]
  by_cases q : (atKey xs k).isSome = true
  · rw [if_pos q, if_pos q]; exact r.repl k ry
  · rw [if_neg q, if_neg q]; exact Paired.snoc r ⟨rfl, hb, ry⟩
theorem KT.keeps {H H' : Hp} {kvs : List (List Key × V)} {xs : List (List Key × Addr × Value)} (r : KT H kvs xs) (ht : ∀ b ys, H b = some (.tup ys) → H' b = some (.tup ys)) : KT H' kvs xs :=
  Paired.mapP r fun _ _ z => ⟨z.1, ht _ _ z.2.1, z.2.2⟩
section
variable {P : Program} {w : World} {H : Hp} {h : Heap} {a : Addr}
theorem rd_of {u : HO} (ok : HOk P w H h) (e : Rd H a u) : ObjOk P w H h a u := e.ok ok
theorem dk_rd {kvs : List (Key × V)} (ok : HOk P w H h) (e : Rd H a (.dK kvs)) : kvs.length ≤ sizeLine ∧ (a == sysModules) = false ∧ ∃ vs, KV kvs vs ∧ h.DictOf (mixKind P w) a vs :=
  show ObjOk P w H h a (.dK kvs) from rd_of ok e
/-- a tracked tuple of ints and texts is a key -/
theorem key_of {ks : List Key} (ok : HOk P w H h) (e : H a = some (.tup (ks.map kV))) : (tupleKind (mixKind P w)).is h ks a := by
  obtain ⟨_, its, r, o, h1, h2, n, h3⟩ := (show ObjOk P w H h a (.tup (ks.map kV)) from ok a _ e)
  exact ⟨o, its.toArray, n, h1, h2, h3, by simpa using items_are r⟩
theorem dt_rd {kvs : List (List Key × V)} (ok : HOk P w H h) (e : Rd H a (.dT kvs)) : kvs.length ≤ sizeLine ∧ (a == sysModules) = false ∧
    ∃ xs, KT H kvs xs ∧ h.DictOfH (tupleKind (mixKind P w)) a xs := by
  obtain ⟨z, y, xs, r, o, es, ep, h1, h2, h3, h4, h5⟩ := (show ObjOk P w H h a (.dT kvs) from rd_of ok e)
  refine ⟨z, y, xs, r, o, es, ep, h1, h2, h3, h4, fun x hx => ?_, h5⟩
  have all : ∀ {l : List (List Key × V)} {m : List (List Key × Addr × Value)}, KT H l m → ∀ x ∈ m, (tupleKind (mixKind P w)).is h x.1 x.2.1 := by
    intro l m q
    induction q with
    | nil => intro x hx; exact nomatch hx
    | @cons p q ps qs hq t ih =>
      intro x hx
      rcases List.mem_cons.mp hx with e | hx
      · subst e
        exact key_of ok (by rw [← hq.1]; exact hq.2.1)
      · exact ih x hx
  exact all r x hx
end
/-- what the dict at a holds at the key y -/
def DGet (H : Hp) (a : Addr) (y : V) (r : Option V) : Prop :=
  (∃ kvs k, Rd H a (.dK kvs) ∧ y = kV k ∧ r = valV kvs k) ∨ ∃ kvs k b, Rd H a (.dT kvs) ∧ y = .ref b ∧ H b = some (.tup (k.map kV)) ∧ r = valV kvs k
/-- the heap behind a[y] = v -/
def DPut (H : Hp) (a : Addr) (y v : V) (H' : Hp) : Prop :=
  (∃ kvs k, H a = some (.dK kvs) ∧ y = kV k ∧ kvs.length < sizeLine ∧ H' = upd H a (.dK (putK kvs k v))) ∨
  ∃ kvs k b, H a = some (.dT kvs) ∧ y = .ref b ∧ H b = some (.tup (k.map kV)) ∧ kvs.length < sizeLine ∧ H' = upd H a (.dT (putK kvs k v))
theorem DGet.k {H : Hp} {a : Addr} {kvs : List (Key × V)} {k : Key} (e : H a = some (.dK kvs)) : DGet H a (kV k) (valV kvs k) := .inl ⟨kvs, k, .inl e, rfl, rfl⟩
theorem DGet.t {H : Hp} {a b : Addr} {kvs : List (List Key × V)} {k : List Key} (e : H a = some (.dT kvs)) (eb : H b = some (.tup (k.map kV))) : DGet H a (.ref b) (valV kvs k) := .inr ⟨kvs, k, b, .inl e, rfl, eb, rfl⟩
theorem DPut.k {H : Hp} {a : Addr} {kvs : List (Key × V)} {k : Key} {v : V} (e : H a = some (.dK kvs)) (hl : kvs.length < sizeLine) : DPut H a (kV k) v (upd H a (.dK (putK kvs k v))) := .inl ⟨kvs, k, e, rfl, hl, rfl⟩
theorem DPut.t {H : Hp} {a b : Addr} {kvs : List (List Key × V)} {k : List Key} {v : V} (e : H a = some (.dT kvs)) (eb : H b = some (.tup (k.map kV))) (hl : kvs.length < sizeLine) :
    DPut H a (.ref b) v (upd H a (.dT (putK kvs k v))) := .inr ⟨kvs, k, b, e, rfl, eb, hl, rfl⟩
section
variable {X : Cx} {pins : List (Addr × Obj)} {σ : St} {H : Hp} {s : Shared} {a : Addr} {y v : V} {u r : Value} {o : Option V} {A : Around} {E : Value → Shared → Prop}
/-- d[y], there -/
theorem d_getItem {Q : Value → Shared → Prop} (hu : A.units + 1 < cLine) (I : Inv X pins σ H s) (g : DGet H a y (some v)) (ry : RelV y u) (h : ∀ w' s', Inv X pins σ H s' → RelV v w' → Q w' s') :
    wpAny (model X.prog X.w) A (getItem (.ref a) u) Q E s := by
  rcases g with ⟨kvs, k, e, ey, l⟩ | ⟨kvs, k, b, e, ey, eb, l⟩
  · subst ey
    obtain ⟨z, hd, vs, rel, dd⟩ := dk_rd I.hok e
    obtain ⟨w', hw, rw'⟩ := RelO.some_of (v := v) (o := valueAt vs k) (by rw [l]; exact rel.val k)
    exact wpAny_getItem_of (kV_is ry) dd.mapOf hw (h w' _ (I.tok _) rw')
  · subst ey
    cases (show u = Value.ref b from ry)
    obtain ⟨z, hd, xs, rel, dd⟩ := dt_rd I.hok e
    obtain ⟨w', hw, rw'⟩ := RelO.some_of (v := v) (o := (atKey xs k).map (·.2)) (by rw [l]; exact rel.val k)
    obtain ⟨p, hp, hp2⟩ := Option.map_eq_some_iff.mp hw
    refine wpAny_getItem_heap (tupleKind_room_in1 hu) (key_of I.hok eb) dd hp ?_
    rw [hp2]
    exact h w' _ (I.tok _) rw'
theorem d_notIn {Q : Value → Shared → Prop} (hu : A.units + 1 < cLine) (I : Inv X pins σ H s) (g : DGet H a y o) (ry : RelV y u) (h : ∀ s', Inv X pins σ H s' → Q (.bool (!o.isSome)) s') :
    wpAny (model X.prog X.w) A (compareOp .NotIn u (.ref a)) Q E s := by
  rcases g with ⟨kvs, k, e, ey, l⟩ | ⟨kvs, k, b, e, ey, eb, l⟩
  · subst ey
    obtain ⟨z, hd, vs, rel, dd⟩ := dk_rd I.hok e
    refine wpAny_notIn_of (kV_is ry) hd dd.mapOf ?_
    rw [← (rel.val k).isSome_eq, ← l]
    exact h _ (I.tok _)
  · subst ey
    cases (show u = Value.ref b from ry)
    obtain ⟨z, hd, xs, rel, dd⟩ := dt_rd I.hok e
    refine wpAny_notIn_heap (tupleKind_room_in1 hu) (key_of I.hok eb) hd dd ?_
    have q := (rel.val k).isSome_eq
    rw [Option.isSome_map] at q
    rw [← q, ← l]
    exact h _ (I.tok _)
end
section
variable {X : Cx} {pins : List (Addr × Obj)} {σ : St} {H : Hp} {s : Shared} {a : Addr} {kvs : List (Key × V)} {k : Key} {u : Value} {A : Around} {E : Value → Shared → Prop}
end
/-! ### readings and rules -/
/-- the element of a subscription, not a slice -/
def NoSl (i : Expr) : Prop := ∀ ov iv, subscripted i false ov iv = operate [ov, iv] (getItem ov iv)
theorem subD_of {prog : Program} {w : World} {A : Around} {E : Value → Shared → Prop} {s : Shared} {env : Env} {value slice : Expr} {pos : Pos} {T id : String} {Q : Value → Shared → Prop}
    (hl : typeLookup (.type T) "__getitem__" = pure (some (.builtin id))) (hs : NoSl slice)
    (h : wpAny (model prog w) A (eval value env) (fun o s₁ => wpAny (model prog w) A (eval slice env) (fun i s₂ => s₂.TypeIs o T ∧ wpAny (model prog w) A (getItem o i) Q E s₂) E s₁) E s) :
    wpAny (model prog w) A (eval (.Subscript value slice pos) env) Q E s := by
  refine Subscript_ (wpAny_mono h (fun o s₁ h₁ => wpAny_mono h₁ (fun i s₂ h₂ => ?_) fun _ _ x => x) fun _ _ x => x)
  obtain ⟨hT, h₂⟩ := h₂
  unfold subscriptTail
  refine wpAny_bind ?_
  rw [getitemInPython_of_ne hT.not_modules]
  refine wpAny_bind (wpAny_specialOf hT hl ?_)
  have fin : wpAny (model prog w) A (subscripted slice false o i) (fun r s₃ => wpAny (model prog w) A (letTemporaryGo value o r >>= fun _ => pure r) Q E s₃) E s₂ := by
    rw [hs o i]
    exact wpAny_operating (wpAny_mono h₂ (fun r s₃ h₃ => wpAny_bind (wpAny_letTemporaryGo (wpAny_pure h₃))) fun _ _ x => x)
  first
    | exact wpAny_pure (wpAny_bind fin)
    | exact wpAny_bind (wpAny_pure (wpAny_bind fin))
    | exact wpAny_bind fin
theorem dict_typeIs {X : Cx} {pins : List (Addr × Obj)} {σ : St} {H : Hp} {s : Shared} {a : Addr} {y : V} {o : Option V} (I : Inv X pins σ H s) (g : DGet H a y o) : s.TypeIs (.ref a) "dict" := by
  rcases g with ⟨kvs, k, e, _, _⟩ | ⟨kvs, k, b, e, _, _, _⟩
  · obtain ⟨_, _, vs, _, dd⟩ := dk_rd I.hok e
    exact dd.typeIs
  · obtain ⟨_, _, xs, _, dd⟩ := dt_rd I.hok e
    exact dd.typeIs
/-- d[y] -/
def tDGet (td ty : TE) : TE := fun σ H Q => td σ H fun x H1 => ty σ H1 fun y H2 => ∃ a v, x = .ref a ∧ DGet H2 a y (some v) ∧ Q v H2
def tDNotIn (ty td : TE) : TE := fun σ H Q => ty σ H fun y H1 => td σ H1 fun x H2 => ∃ a o, x = .ref a ∧ DGet H2 a y o ∧ Q (.bl (!o.isSome)) H2
section
variable {X : Cx} {o i e value : Expr} {pos pos' tpos : Pos} {td ty tv : TE}
theorem pe_dget (hu : X.A.units + 1 < cLine) (ho : PE X o td) (hi : PE X i ty) (hs : NoSl i) : PE X (.Subscript o i pos) (tDGet td ty) := by
  intro pins s σ H Q I h
  refine subD_of PySem.F.slot_dict_getitem.lookup hs (thn (ho pins s σ H _ I h) fun u s1 ⟨x, H1, I1, rx, q1⟩ => thn (hi pins s1 σ H1 _ I1 q1) fun iv s2 ⟨y, H2, I2, ry, a, v, ex, g, q2⟩ => ?_)
  subst ex
  obtain rfl : u = Value.ref a := rx
  exact ⟨dict_typeIs I2 g, d_getItem hu I2 g ry fun w' s3 I3 rw' => ⟨v, H2, I3, rw', q2⟩⟩
theorem pc_dnotin (hu : X.A.units + 1 < cLine) (hi : PE X i ty) (ho : PE X o td) : PC X .NotIn i o (tDNotIn ty td) := by
  intro pins s σ H Q I h
  refine thn (hi pins s σ H _ I h) fun iv s1 ⟨y, H1, I1, ry, q1⟩ => thn (ho pins s1 σ H1 _ I1 q1) fun u s2 ⟨x, H2, I2, rx, a, ov, ex, g, q2⟩ => ?_
  subst ex
  obtain rfl : u = Value.ref a := rx
  exact d_notIn hu I2 g ry fun s3 I3 => ⟨.bl (!ov.isSome), H2, I3, rfl, q2⟩
end
/-! ### displays -/
section
variable {X : Cx} {pos : Pos}
end
end L2
namespace L2
open PySem PySem.Spec PyProof.Rows
/-! ### list comprehensions of one clause -/
section
variable {prog : Program} {w : World} {A : Around} {R : Result -> Shared -> Prop} {s : Shared}
theorem compLoop_gen {elt target iter : Expr} {ifs : List Expr} {scope : Scope} {pos : Pos} {it acc : Value} {env : Env} (I : Nat → Shared → Prop)
    (turn : ∀ n s, I n s → wpAny (model prog w) A (pyNext it) (fun r s1 => match r with
      | none => R (.ok .next) s1
      | some v => wpAny (model prog w) A (letOwnedTupleGo target it v) (fun _ s1' => wpAny (model prog w) A (assign target env v) (fun _ s2 =>
          wpAny (model prog w) A (forIn ifs true fun c r => if r = true then do let ok ← isTrue c env (eval c env); pure (ForInStep.yield ok) else pure (ForInStep.yield r)) (fun ok s3 =>
            if ok = true then wpAny (model prog w) A (eval elt env) (fun x s4 =>
              wpAny (model prog w) A (call (.builtin "list.append") [acc, x]) (fun _ s5 => ∃ m, m < n ∧ I m s5) (fun _ _ => False) s4) (fun _ _ => False) s3
            else ∃ m, m < n ∧ I m s3) (fun _ _ => False) s2) (fun _ _ => False) s1') (fun _ _ => False) s1) (fun _ _ => False) s)
    (n : Nat) (h : I n s) :
    codeAny (model prog w) A (.compLoop (.ListComp elt [⟨target, iter, ifs, 0⟩] scope pos) 0 it acc env) R s := by
  refine codeAny_loop rfl I (fun n s hI => ?_) n h
  show wpAny _ A ((compTurn (.ListComp elt [⟨target, iter, ifs, 0⟩] scope pos) 0 it acc env).onRaise (fun x => do noteFrame x env; theTreesLotGoes x)) _ _ s
  refine wpAny_noted ?_
  rw [compTurn_list]
  refine wpAny_bind (wpAny_standAt (wpAny_bind (wpAny_mono (turn n s hI) (fun r s1 h1 => ?_) fun _ _ z => z.elim)))
  cases r with
  | none => exact wpAny_pure h1
  | some v =>
    refine wpAny_bind (wpAny_mono h1 (fun _ s1' h1' => ?_) fun _ _ z => z.elim)
    refine wpAny_bind (wpAny_mono h1' (fun _ s2 h2 => wpAny_bind (wpAny_mono h2 (fun ok s3 h3 => ?_) fun _ _ z => z.elim)) fun _ _ z => z.elim)
    cases ok with
    | false => exact wpAny_pure ⟨rfl, h3⟩
    | true =>
      exact wpAny_bind (wpAny_bind (wpAny_mono h3 (fun x s4 h4 => wpAny_bind (wpAny_mono h4 (fun _ s5 h5 => wpAny_pure (wpAny_pure ⟨rfl, h5⟩)) fun _ _ z => z.elim)) fun _ _ z => z.elim))
end
/-- the tests of a clause -/
def PTs (X : Cx) (ifs : List Expr) (t : TT) : Prop :=
  ∀ (pins : List (Addr × Obj)) (s : Shared) (σ : St) (H : Hp) (Q : Bool → Hp → Prop), Inv X pins σ H s → t σ H Q →
    wpAny (model X.prog X.w) X.A (forIn ifs true fun c r => if r = true then do let ok ← isTrue c X.env (eval c X.env); pure (ForInStep.yield ok) else pure (ForInStep.yield r)) (TP X pins σ Q) X.xe s
def tTT : TT := fun _ H Q => Q true H
theorem pts_nil {X : Cx} : PTs X [] tTT := fun pins s σ H Q I h => wpAny_tests_nil ⟨H, I, h⟩
theorem pts_one {X : Cx} {c : Expr} {t : TT} (h : PT X c t) : PTs X [c] t := fun pins s σ H Q I q => wpAny_tests_one (h pins s σ H Q I q)
/-- the context of a comprehension's block -/
def Cx.comp (X : Cx) (scope : Scope) (cl : List (Str × Addr)) (C : Addr) (N : List Str) (s : Shared) (H : Hp) (fp : List Addr) : Cx where
  prog := X.prog
  w := X.w
  K := X.K
  mg := X.mg
  base := X.base
  A := X.A
  N := N
  s₀ := s
  H₀ := H
  env := compEnvC scope cl C X.env
  outer := X.stack
  stack := X.stack
  ex := fp
  fn := fun _ => false
  calm := X.calm
  pn := []
  xe := fun _ _ => False
/-- the cells that a block closes over -/
def closOf (names : List (Str × NameKind)) (env : Env) (acc : List (Str × Addr)) : List (Str × Addr) :=
  names.foldl (fun cs x => if x.2 == .free then match env.cells.lookup x.1 with | some c => (x.1, c) :: cs | none => cs else cs) acc
theorem closureFor_of {scope : Scope} {env : Env} (h : ∀ x ∈ scope.names, x.2 = .free → ∃ c, env.cells.lookup x.1 = some c) : closureFor scope env = pure (closOf scope.names env []) := by
  have go : ∀ (names : List (Str × NameKind)) (acc : List (Str × Addr)), (∀ x ∈ names, x.2 = .free → ∃ c, env.cells.lookup x.1 = some c) →
      (forIn (m := Sem) names acc fun x r => if (x.2 == NameKind.free) = true then do let y ← cellOf env x.1; pure (ForInStep.yield ((x.1, y) :: r)) else pure (ForInStep.yield r)) = pure (closOf names env acc) := by
    intro names
    induction names with
    | nil => intro acc _; rfl
    | cons x r ih =>
      intro acc hx
      obtain ⟨n, k⟩ := x
      rw [List.forIn_cons]
      have ihr := fun acc => ih acc fun y hy => hx y (List.mem_cons_of_mem _ hy)
      by_cases hk : k = .free
      · subst hk
        obtain ⟨c, hc⟩ := hx (n, .free) List.mem_cons_self rfl
        have e : cellOf env n = pure c := by unfold cellOf; rw [show env.cells.lookup n = some c from hc]
        have e2 : closOf ((n, NameKind.free) :: r) env acc = closOf r env ((n, c) :: acc) := by
          unfold closOf
          rw [List.foldl_cons]
          simp only [beq_self_eq_true, if_true]
          rw [show env.cells.lookup n = some c from hc]
        rw [e2, ← ihr]
        simp only [beq_self_eq_true, if_true, e, pure_bind]
      · have hb : (k == NameKind.free) = false := by simpa using hk
        have e2 : closOf ((n, k) :: r) env acc = closOf r env acc := by
          unfold closOf
          rw [List.foldl_cons]
          simp only [hb, Bool.false_eq_true, if_false]
        rw [e2, ← ihr]
        simp only [hb, Bool.false_eq_true, if_false, pure_bind]
  unfold closureFor
  have := go scope.names [] h
  simp only [pure_bind, bind_pure] at this ⊢
  exact this
theorem closOf_sub {env : Env} : ∀ (names : List (Str × NameKind)) (acc : List (Str × Addr)), (∀ x c, acc.lookup x = some c → env.cells.lookup x = some c) → ∀ x c, (closOf names env acc).lookup x = some c → env.cells.lookup x = some c := by
  intro names
  induction names with
  | nil => intro acc h x c e; exact h x c e
  | cons y r ih =>
    intro acc h x c e
    unfold closOf at e
    rw [List.foldl_cons] at e
    refine ih _ ?_ x c e
    intro z d hz
    by_cases hk : (y.2 == NameKind.free) = true
    · rw [if_pos hk] at hz
      cases hc : env.cells.lookup y.1 with
      | none => rw [hc] at hz; exact h z d hz
      | some a =>
        rw [hc] at hz
        simp only [List.lookup_cons] at hz
        by_cases hzy : (z == y.1) = true
        · rw [hzy] at hz
          have : z = y.1 := by simpa using hzy
          rw [this, hc]; exact hz
        · have : (z == y.1) = false := by simpa using hzy
          rw [this] at hz
          exact h z d hz
    · rw [if_neg hk] at hz
      exact h z d hz
theorem closOf_has {env : Env} : ∀ (names : List (Str × NameKind)) (acc : List (Str × Addr)) (x : Str), ((∃ c, acc.lookup x = some c) ∨ ((x, NameKind.free) ∈ names ∧ ∃ c, env.cells.lookup x = some c)) → ∃ c, (closOf names env acc).lookup x = some c := by
  intro names
  induction names with
  | nil => intro acc x h; rcases h with h | h; exact h; exact absurd h.1 (by simp)
  | cons y r ih =>
    intro acc x h
    unfold closOf
    rw [List.foldl_cons]
    refine ih _ x ?_
    by_cases hk : (y.2 == NameKind.free) = true
    · rw [if_pos hk]
      cases hc : env.cells.lookup y.1 with
      | none =>
        rcases h with h | ⟨h, h2⟩
        · exact .inl h
        · rcases List.mem_cons.mp h with e | e
          · subst e; rw [hc] at h2; obtain ⟨_, h2⟩ := h2; cases h2
          · exact .inr ⟨e, h2⟩
      | some a =>
        simp only [List.lookup_cons]
        by_cases hzy : (x == y.1) = true
        · exact .inl ⟨a, by rw [hzy]⟩
        · have hf : (x == y.1) = false := by simpa using hzy
          rw [hf]
          rcases h with h | ⟨h, h2⟩
          · exact .inl h
          · rcases List.mem_cons.mp h with e | e
            · subst e; simp at hf
            · exact .inr ⟨e, h2⟩
    · rw [if_neg hk]
      rcases h with h | ⟨h, h2⟩
      · exact .inl h
      · rcases List.mem_cons.mp h with e | e
        · subst e; simp at hk
        · exact .inr ⟨e, h2⟩
/-- a block's first state: the own names empty, then what it closes over -/
def capS (own : Nat) (js : List Nat) (σ : St) : St := List.replicate own none ++ js.map fun j => (σ[j]?).getD none
def tComp (wi : TI) (own : Nat) (js : List Nat) (g : TG) (tc : TT) (te : TE) : TE := fun σ H Q => wi σ H fun J H1 => ∀ p, H1 p = none →
  ∃ W : Nat → Nat → St → Hp → Prop, (∃ m, W 0 m (capS own js σ) (upd H1 p (.lst []))) ∧ ∀ i m σc H, W i m σc H →
    (J.stop i H ∧ Q (.ref p) H) ∨ (J.go i H ∧ ∃ N : St → Hp → Prop, (∀ σ' H', N σ' H' → ∃ m', m' < m ∧ W (i + 1) m' σ' H') ∧ ∀ x H', J.yld i H x H' →
      g x σc H' fun σ2 H2 => tc σ2 H2 fun b H3 => if b = true then te σ2 H3 fun v H4 => ∃ ys, H4 p = some (.lst ys) ∧ ys.length < sizeLine ∧ N σ2 (upd H4 p (.lst (ys ++ [v]))) else N σ2 H3)
/-- what is asked of a block's scope, read off the text -/
structure CompScope (X : Cx) (scope : Scope) (N : List Str) (own : Nat) (js : List Nat) : Prop where
  kind : scope.kind = .function
  nocell : ∀ y ∈ scope.names, y.2 ≠ .cell
  nodup : ∀ y ∈ scope.names, y.2 = .local → scope.names.lookup y.1 = some .local
  free : ∀ y ∈ scope.names, y.2 = .free → X.env.kindOf y.1 = some .cell ∨ X.env.kindOf y.1 = some .free
  len : N.length = own + js.length
  cap : ∀ (i : Nat) (j : Nat), js[i]? = some j → N[own + i]? = X.N[j]? ∧ ∀ x, X.N[j]? = some x → scope.names.lookup x = some .free ∧ Vis X.env.scope x ∧ X.env.kindOf x ≠ some .local
section
variable {X : Cx} {tg elt iter : Expr} {ifs : List Expr} {scope : Scope} {pos : Pos} {N : List Str} {own : Nat} {js : List Nat} {wi : TI} {g : TG} {tc : TT} {te : TE}
theorem lookup_relabel_mem {env : Env} {names : List (Str × NameKind)} {x : Str} {k : NameKind} (hk : k = .cell ∨ k = .free) (hnc : ∀ y ∈ names, y.2 ≠ .cell)
    (h : (names.map fun (n, k) => if (k == NameKind.free && env.scope.kind == .function && env.kindOf n == some .cell) then (n, NameKind.cell) else (n, k)).lookup x = some k) : (x, NameKind.free) ∈ names := by
  have := PySem.mem_of_lookup h
  obtain ⟨⟨n, k'⟩, hm, e⟩ := List.mem_map.mp this
  dsimp only at e
  split at e
  · rename_i hc
    cases e
    have : k' = .free := by
      simp only [Bool.and_eq_true, beq_iff_eq] at hc
      exact hc.1.1
    rw [← this]; exact hm
  · cases e
    rcases hk with rfl | rfl
    · exact absurd rfl (hnc _ hm)
    · exact hm
theorem lookup_relabel_local' {env : Env} : ∀ {names : List (Str × NameKind)} {x : Str}, names.lookup x = some .free →
    (names.map fun (n, k) => if (k == NameKind.free && env.scope.kind == .function && env.kindOf n == some .cell) then (n, NameKind.cell) else (n, k)).lookup x = some .local → False
  | [], _, h, _ => by simp at h
  | (n, k) :: r, x, h, h' => by
    have ih := @lookup_relabel_local' env r x
    cases hx : x == n with
    | true =>
      simp only [List.lookup_cons, hx] at h
      cases h
      rw [List.map_cons] at h'
      dsimp only at h'
      split at h' <;> simp [List.lookup_cons, hx] at h'
    | false =>
      simp only [List.lookup_cons, hx] at h
      rw [List.map_cons] at h'
      dsimp only at h'
      split at h' <;> simp only [List.lookup_cons, hx] at h' <;> exact ih h h'
/-- the block's first invariant -/
theorem comp_inv {pins : List (Addr × Obj)} {σ : St} {H : Hp} {s : Shared} {fp : List Addr} {h1 : Heap} (S : CompScope X scope N own js) (I : Inv X pins σ H s) (hf : ∀ b ∈ fp, FpOk X pins H b) (hfo : ∀ b ∈ fp, b < s.heap.objs.size)
    (C p : Addr) (hp : p = s.heap.objs.size) (hC : C = s.heap.objs.size + 1) (hns : h1.Ns C fun _ => none) (hkeep : ∀ b o, s.heap.get? b = some o → h1.get? b = some o)
    (hacc : h1.get? p = some { cls := .type "list", data := .seq #[] 0 }) (tk : Nat) :
    Inv (X.comp scope (closOf scope.names X.env []) C N s H fp) [] (capS own js σ) (upd H p (.lst [])) { s with heap := h1, toks := tk } := by
  have sub := closOf_sub (env := X.env) scope.names [] (fun x c e => by simp at e)
  have hHp : H p = none := I.hok.fresh (by rw [hp]; exact Nat.le_refl _)
  have hHC : H C = none := I.hok.fresh (by rw [hC]; exact Nat.le_succ _)
  have hpC : C ≠ p := by rw [hp, hC]; exact Nat.succ_ne_self _
  have cellLt : ∀ x c, X.env.cells.lookup x = some c → c < s.heap.objs.size := fun x c e => by
    obtain ⟨v, q⟩ := I.cell x c e
    exact q.lt
  have nop : ∀ q : Addr × Obj, q ∉ (X.comp scope (closOf scope.names X.env []) C N s H fp).pn ++ ([] : List (Addr × Obj)) := fun q z => absurd (show q ∈ ([] : List (Addr × Obj)) from z) (by simp)
  refine ⟨⟨I.ok.mod, S.kind, I.ok.glob, I.ok.blt, by rw [show (X.comp scope (closOf scope.names X.env []) C N s H fp).env.locals = C from rfl, hC]; exact Nat.le_succ _, ?_, ?_, fun y c z => absurd (show false = true from z) (by decide), I.ok.hd, I.ok.frames, .inl rfl, ?_, fun b o e => I.bs b o e, Nat.le_trans I.ok.bsz I.sz, ?_, ?_, I.stack, I.stkFree⟩,
    rfl, I.bare, Un.laid hkeep (by rw [hp]; exact Nat.le_refl _) hHp, ⟨_, hns, ?_⟩, ?_, ?_, ?_, fun q hq => absurd hq (nop q), ?_, ?_⟩
  · intro x y c e1 e2
    exact I.ok.inj x y c (sub x c e1) (sub y c e2)
  · intro x hx
    have hm : (x, NameKind.free) ∈ scope.names := by
      rcases hx with hx | hx
      · exact lookup_relabel_mem (.inl rfl) S.nocell hx
      · exact lookup_relabel_mem (.inr rfl) S.nocell hx
    exact closOf_has scope.names [] x (.inr ⟨hm, I.ok.has x (S.free _ hm rfl)⟩)
  · intro b hb
    obtain ⟨f0, f1, f2, f3, f4, f5⟩ := hf b hb
    refine ⟨fun e => ?_, fun x c e => f4 x c (sub x c e)⟩
    have e' : b = C := e
    have := hfo b hb
    rw [e', hC] at this
    exact absurd this (Nat.not_lt.mpr (Nat.le_succ _))
  · intro b o e hb
    obtain ⟨f0, f1, f2, f3, f4, f5⟩ := hf b hb
    rcases f3 with z | z
    · exact I.ok.noex b o e z
    · exact absurd (Nat.lt_of_lt_of_le (Heap.lt_size (I.ok.bs b o e).1) z) (Nat.lt_irrefl _)
  · intro b hb z
    obtain ⟨f0, f1, f2, f3, f4, f5⟩ := hf b hb
    rcases List.mem_cons.mp (I.stkSub b z) with e | e
    · exact f1 e
    · exact f2 e
  · intro i x v h1' h2 h3
    have hlen : (capS own js σ).length = own + js.length := by simp [capS]
    have hio : own ≤ i := by
      by_cases hi : i < own
      · unfold capS at h2
        rw [List.getElem?_append_left (by simpa using hi), List.getElem?_replicate, if_pos hi] at h2
        cases h2
      · omega
    obtain ⟨k, rfl⟩ : ∃ k, i = own + k := ⟨i - own, by omega⟩
    have e1 : (js.map fun j => (σ[j]?).getD none)[k]? = some (some v) := by
      unfold capS at h2
      rw [List.getElem?_append_right (by simp)] at h2
      simpa using h2
    rw [List.getElem?_map] at e1
    cases ej : js[k]? with
    | none => rw [ej] at e1; cases e1
    | some j =>
      rw [ej] at e1
      have e2 : (σ[j]?).getD none = some v := Option.some.inj e1
      have e3 : σ[j]? = some (some v) := by
        cases q : σ[j]? with
        | none => rw [q] at e2; cases e2
        | some z => rw [q] at e2; exact congrArg some e2
      obtain ⟨c1, c2⟩ := S.cap k j ej
      have hN : X.N[j]? = some x := by rw [← c1]; exact h1'
      obtain ⟨d1, d2, d3⟩ := c2 x hN
      obtain ⟨m, _, hl⟩ := I.loc
      obtain ⟨u, r, l⟩ := hl j x v hN e3 d2
      refine ⟨u, r, ?_⟩
      rcases l with ⟨l, _⟩ | ⟨_, c, ec, o, ho, hd⟩
      · exact absurd l d3
      · obtain ⟨c', hc'⟩ := closOf_has (env := X.env) scope.names [] x (.inr ⟨PySem.mem_of_lookup d1, c, ec⟩)
        have e4 := sub x c' hc'
        rw [ec] at e4
        cases e4
        refine .inr ⟨?_, c, hc', o, hkeep c o ho, hd⟩
        rcases h3 with z | z | z
        · exact (lookup_relabel_local' d1 z).elim
        · exact .inl z
        · exact .inr z
  · intro x c e
    obtain ⟨v, o, ho, hd⟩ := I.cell x c (sub x c e)
    exact ⟨v, o, hkeep c o ho, hd⟩
  · rw [show (X.comp scope (closOf scope.names X.env []) C N s H fp).env.locals = C from rfl, upd_ne hpC]; exact hHC
  · intro x c e
    rw [upd_ne (by rw [hp]; exact Nat.ne_of_lt (cellLt x c (sub x c e)))]
    exact I.freeC x c (sub x c e)
  · exact I.hok.laid hkeep (by rw [hp]; exact Nat.le_refl _) ⟨Nat.zero_le _, [], 0, .nil, hacc⟩
  · show (capS own js σ).length = N.length
    rw [S.len]; simp [capS]
/-- the block runs: from the iterator to the list -/
theorem comp_block {pins : List (Addr × Obj)} {σ : St} {H : Hp} {s : Shared} {E : Value → Shared → Prop} {it : Addr} {fp : List Addr} {tn : Nat → Heap → Prop} {J : It} {Q : VK} {RR : Value → Addr → Result → Shared → Prop}
    (S : CompScope X scope N own js) (hc : X.calm = true) (I : Inv X pins σ H s) (T : Turn X.prog X.w X.K tg J fp it tn) (st : tn 0 s.heap) (hf : ∀ b ∈ fp, FpOk X pins H b)
    (hg : ∀ cl C s H fp, PG (X.comp scope cl C N s H fp) tg g) (hts : ∀ cl C s H fp, PTs (X.comp scope cl C N s H fp) ifs tc) (he : ∀ cl C s H fp, PE (X.comp scope cl C N s H fp) elt te)
    (hq : ∀ p, H p = none → ∃ W : Nat → Nat → St → Hp → Prop, (∃ m, W 0 m (capS own js σ) (upd H p (.lst []))) ∧ ∀ i m σc H, W i m σc H →
      (J.stop i H ∧ Q (.ref p) H) ∨ (J.go i H ∧ ∃ N : St → Hp → Prop, (∀ σ' H', N σ' H' → ∃ m', m' < m ∧ W (i + 1) m' σ' H') ∧ ∀ x H', J.yld i H x H' →
        g x σc H' fun σ2 H2 => tc σ2 H2 fun b H3 => if b = true then te σ2 H3 fun v H4 => ∃ ys, H4 p = some (.lst ys) ∧ ys.length < sizeLine ∧ N σ2 (upd H4 p (.lst (ys ++ [v]))) else N σ2 H3))
    (hRR : ∀ p C s' H' m, C = s.heap.objs.size + 1 → s'.heap.Ns C m → Inv X pins σ H' s' → H' C = none → Q (.ref p) H' → RR (.ref p) C (.ok .next) s') :
    wpAny (model X.prog X.w) X.A (newList []) (fun acc s3 => wpAny (model X.prog X.w) X.A (newFunctionEnv scope X.env.globals (closOf scope.names X.env []) [] X.env.qual none .none (some X.env)) (fun cenv s4 =>
      codeAny (model X.prog X.w) X.A (.compStart (.ListComp elt [⟨tg, iter, ifs, 0⟩] scope pos) 0 (.ref it) acc { cenv with scope := relabel scope X.env }) (RR acc cenv.locals) s4) E s3) E s := by
  refine wpAny_newObj_type (wpAny_newFunctionEnv S.nocell (by intro y hy; simp at hy) (fun h1 hns1 hsb1 => ?_) S.kind)
  dsimp only at hns1 hsb1 ⊢
  generalize hH2 : s.heap.push { cls := .type "list", dict := none, data := .seq ([] : List Value).toArray } = H2 at hns1 hsb1 ⊢
  have hC : H2.objs.size = s.heap.objs.size + 1 := by rw [← hH2, Heap.size_push]
  have old : ∀ b o, s.heap.get? b = some o → h1.get? b = some o := fun b o e => hsb1.extBut b o (by rw [hC]; exact Nat.ne_of_lt (Nat.lt_succ_of_lt (Heap.lt_size e))) (Heap.get?_push_of_some _ (hH2 ▸ Heap.get?_push_of_some _ e))
  have hacc : h1.get? s.heap.objs.size = some { cls := .type "list", data := .seq #[] 0 } := hsb1.extBut _ _ (by rw [hC]; exact Nat.ne_of_lt (Nat.lt_succ_self _)) (Heap.get?_push_of_some _ (hH2 ▸ Heap.get?_push_size _ rfl))
  have hfo : ∀ b ∈ fp, b < s.heap.objs.size := fun b hb => by
    obtain ⟨o, e, _⟩ := T.obj 0 _ st b hb
    exact Heap.lt_size e
  have st1 : tn 0 h1 := T.keep _ _ _ st fun b _ o e => old b o e
  have I0 := comp_inv (fp := fp) S I hf hfo H2.objs.size s.heap.objs.size rfl hC hns1 old hacc (s.toks + ([] : List (Str × Value)).length)
  have hHp : H s.heap.objs.size = none := I.hok.fresh (Nat.le_refl _)
  obtain ⟨W, ⟨m0, w0⟩, turn⟩ := hq _ hHp
  generalize hX : X.comp scope (closOf scope.names X.env []) H2.objs.size N s H fp = Y at I0
  have eY : (Y.prog = X.prog ∧ Y.w = X.w ∧ Y.K = X.K ∧ Y.calm = true ∧ Y.A = X.A) ∧ Y.env = compEnvC scope (closOf scope.names X.env []) H2.objs.size X.env ∧ Y.fs = frs X.stack ∧ Y.ex = fp ∧ Y.s₀ = s ∧ Y.H₀ = H ∧ Y.pn = [] := by
    subst hX; exact ⟨⟨rfl, rfl, rfl, hc, rfl⟩, rfl, rfl, rfl, rfl, rfl, rfl⟩
  have hgY : PG Y tg g := by subst hX; exact hg _ _ _ _ _
  have htY : PTs Y ifs tc := by subst hX; exact hts _ _ _ _ _
  have heY : PE Y elt te := by subst hX; exact he _ _ _ _ _
  have hxe : Y.xe = fun _ _ => False := by subst hX; rfl
  obtain ⟨⟨e1, e2, e3, e4, e5⟩, e6, e7, e8, e9, e10, e11⟩ := eY
  have sub := closOf_sub (env := X.env) scope.names [] (fun x c e => by simp at e)
  -- what stays true of the iterator's objects
  have stat : ∀ {H' : Hp}, (∀ b ∈ fp, H' b = none) → ∀ b ∈ fp, FpOk Y [] H' b := fun {H'} hn b hb => by
    refine ⟨hn b hb, ?_, ?_, .inl (by rw [e8]; exact hb), ?_, ?_⟩
    · rw [e6]; show b ≠ H2.objs.size; rw [hC]; exact Nat.ne_of_lt (Nat.lt_succ_of_lt (hfo b hb))
    · rw [e7]
      intro z
      rcases List.mem_cons.mp (I.stkSub b z) with e | e
      · exact (hf b hb).2.1 e
      · exact (hf b hb).2.2.1 e
    · intro x c e
      rw [e6] at e
      exact (hf b hb).2.2.2.2.1 x c (sub x c e)
    · intro q hq
      rw [e11] at hq
      exact absurd hq (by simp)
  have noT : ∀ b ∈ fp, b ≠ s.heap.objs.size := fun b hb => Nat.ne_of_lt (hfo b hb)
  have loop : ∀ s3 : Shared, s3 = { s with heap := h1, toks := s.toks + ([] : List (Str × Value)).length } →
      codeAny (model X.prog X.w) X.A (.compLoop (.ListComp elt [⟨tg, iter, ifs, 0⟩] scope pos) 0 (.ref it) (.ref s.heap.objs.size) (compEnvC scope (closOf scope.names X.env []) H2.objs.size X.env))
        (RR (.ref s.heap.objs.size) H2.objs.size) s3 := by
    rintro s3 rfl
    rw [← e1, ← e2, ← e5, ← e6]
    refine compLoop_gen (fun n s' => ∃ i σ' H', Inv Y [] σ' H' s' ∧ tn i s'.heap ∧ (∀ b ∈ fp, H' b = none) ∧ W i n σ' H') ?_ m0 ⟨0, _, _, I0, st1, fun b hb => by rw [upd_ne (noT b hb)]; exact (hf b hb).1, w0⟩
    rintro n s3 ⟨i, σ3, H3, I3, st3, fr3, w3⟩
    rcases turn i n σ3 H3 w3 with ⟨stop, qn⟩ | ⟨go, N', hN, step⟩
    · have tt := T.done Y e1 e2 e3 e4 i [] s3 σ3 H3 (fun _ _ => False) I3 (stat fr3) st3 stop
      rw [← e1, ← e2] at tt
      refine thn tt fun r s4 ⟨hr, I4⟩ => ?_
      subst hr
      obtain ⟨m, hn4, _⟩ := I4.loc
      have hl : Y.env.locals = H2.objs.size := by rw [e6]; rfl
      have u := I4.base
      rw [e7, e8, e9, e10] at u
      refine hRR _ _ s4 H3 m hC (by rw [← hl]; exact hn4) ?_ (by rw [← hl]; exact I4.free) qn
      refine I.call' (by rw [I4.os, e9]) u (by rw [← e1, ← e2]; exact I4.hok) I4.bare fun b hb => ?_
      obtain ⟨f0, f1, f2, f3, f4, f5⟩ := hf b hb
      exact ⟨f3, f1, f4, f5⟩
    · have tt := T.item Y e1 e2 e3 e4 i [] s3 σ3 H3 (fun _ _ => False) I3 (stat fr3) st3 go
      rw [← e1, ← e2] at tt
      refine thn tt fun r s4 ⟨u, hr, h4⟩ => ?_
      subst hr
      refine thn h4 fun _ s5 ⟨x, H5, I5, r5, y5, st5, fr5⟩ => ?_
      have I5' := I5.pinned (stat fr5) (T.obj _ _ st5)
      have a6 := hgY _ s5 σ3 H5 x u _ I5' r5 (step x H5 y5)
      rw [hxe] at a6
      refine thn a6 fun _ s6 ⟨σ6, H6, I6, q6⟩ => ?_
      have a7 := htY _ s6 σ6 H6 _ I6 q6
      rw [hxe] at a7
      refine thn a7 fun ok s7 ⟨H7, I7, q7⟩ => ?_
      have again : ∀ {H8 : Hp} {s8 : Shared}, Inv Y ([] ++ pinsAt fp s5.heap) σ6 H8 s8 → N' σ6 H8 → ∃ m, m < n ∧ ∃ i σ' H', Inv Y [] σ' H' s8 ∧ tn i s8.heap ∧ (∀ b ∈ fp, H' b = none) ∧ W i m σ' H' := fun {H8 s8} I8 n8 => by
        obtain ⟨m', hm, w8⟩ := hN σ6 H8 n8
        refine ⟨m', hm, i + 1, σ6, H8, I8.unpinned, T.keep _ _ _ st5 fun b hb o e => (I8.pin (b, o) (List.mem_append_right _ (List.mem_append_right _ (mem_pinsAt hb e)))).1, fun b hb => ?_, w8⟩
        obtain ⟨o, e, d⟩ := T.obj _ _ st5 b hb
        exact (I8.pin (b, o) (List.mem_append_right _ (List.mem_append_right _ (mem_pinsAt hb e)))).2.1
      cases ok with
      | false =>
        rw [if_neg Bool.false_ne_true] at q7 ⊢
        exact again I7 q7
      | true =>
        rw [if_pos rfl] at q7 ⊢
        have a8 := heY _ s7 σ6 H7 _ I7 q7
        rw [hxe] at a8
        refine thn a8 fun y s8 ⟨v, H8, I8, r8, ys, q8, hz8, n8⟩ => ?_
        have a9 := mt_append (X := Y) _ s8 σ6 H8 (.ref s.heap.objs.size) [v] (.ref s.heap.objs.size) [y] (fun _ H' => N' σ6 H') I8 rfl (.cons r8 .nil) ⟨_, ys, v, rfl, rfl, q8, hz8, n8⟩
        rw [hxe] at a9
        refine thn a9 fun _ s9 ⟨_, H9, I9, _, n9⟩ => ?_
        exact again I9 n9
  exact codeAny_compStart_list (loop _ rfl) (T.self _ 0 _ _ _ st1 (loop _ rfl))
theorem comp_after {pins : List (Addr × Obj)} {σ : St} {H H' : Hp} {s s' : Shared} {h' : Heap} {C : Addr} (I : Inv X pins σ H s) (hC : C = s.heap.objs.size + 1) (I' : Inv X pins σ H' s') (hn : H' C = none) (hs : Heap.SameBut C s'.heap h') : Inv X pins σ H' { s' with heap := h' } := by
  have hlt : ∀ b : Addr, b < s.heap.objs.size → b ≠ C := fun b hb => by rw [hC]; exact Nat.ne_of_lt (Nat.lt_succ_of_lt hb)
  refine I'.turned (it := C) (t' := s'.toks) (fun b o hb e => (hs.2 b hb).trans e) hn ?_ (.inr ?_) ?_ ?_
  · exact (hlt _ I.lt).symm
  · rw [hC]; exact Nat.le_succ_of_le I.sz
  · intro x c e
    obtain ⟨v, q⟩ := I.cell x c e
    exact hlt _ q.lt
  · intro p hp
    exact hlt _ (Heap.lt_size (I.pin p hp).1)
/-- [elt for tg in iter if ..] -/
theorem pe_comp (S : CompScope X scope N own js) (hc : X.calm = true) (hi : PI X tg iter wi)
    (hg : ∀ cl C s H fp, PG (X.comp scope cl C N s H fp) tg g) (hts : ∀ cl C s H fp, PTs (X.comp scope cl C N s H fp) ifs tc) (he : ∀ cl C s H fp, PE (X.comp scope cl C N s H fp) elt te)
    (hs : ∀ x, foldedSetIterable iter X.env x = pure x := by intro _; rfl) : PE X (.ListComp elt [⟨tg, iter, ifs, 0⟩] scope pos) (tComp wi own js g tc te) := by
  intro pins s σ H Q I h
  rw [eval_ListComp]
  refine wpAny_comprehension_free (use := none) rfl hs (closureFor_of fun x hx hk => I.ok.has x.1 (S.free x hx hk)) S.kind S.nodup (thn (hi pins s σ H _ I h) fun v s1 h1 => thn h1 fun itv s2 h2 => ?_)
  obtain ⟨it, fp, tn, J, H2, e, I2, T, st2, f2, q⟩ := h2
  subst e
  refine comp_block (RR := fun acc C => compPost (model X.prog X.w) X.A X.xe none (EP X pins σ Q) acc C) S hc I2 T st2 f2 hg hts he q ?_
  intro p C s' H' m hC hn I' hH' q'
  exact ⟨m, hn, fun h' hs' => ⟨.ref p, H', comp_after I2 hC I' hH' hs', rfl, q'⟩⟩
/-- y = [elt for tg in iter if ..], y a plain local name -/
theorem ps_setComp {i : Nat} {y : Str} {py spos : Pos} (hN : X.N.Nodup) (hi' : X.N[i]? = some y) (hx : Loc X.env.scope y) (hsw : swapsWith (.ListComp elt [⟨tg, iter, ifs, 0⟩] scope pos) (some (.Name y py)) spos.line X.env = pure true)
    (S : CompScope X scope N own js) (hc : X.calm = true) (hi : PI X tg iter wi)
    (hg : ∀ cl C s H fp, PG (X.comp scope cl C N s H fp) tg g) (hts : ∀ cl C s H fp, PTs (X.comp scope cl C N s H fp) ifs tc) (he : ∀ cl C s H fp, PE (X.comp scope cl C N s H fp) elt te)
    (hs : ∀ x, foldedSetIterable iter X.env x = pure x := by intro _; rfl) (hf : X.fn y = true ∨ X.env.scope.names.lookup y = some .local := by first | exact .inl rfl | exact .inr rfl | assumption) :
    PS X (.Assign [.Name y py] (.ListComp elt [⟨tg, iter, ifs, 0⟩] scope pos) spos) (tAsg (tComp wi own js g tc te) (gName i)) := by
  intro pins s σ H D I h
  rw [exec_Assign_Name_used _ _ _ _ hsw]
  refine wpAny_bind (wpAny_standAt (wpAny_bind ?_))
  show wpAny _ X.A (do let _ ← comprehension (.ListComp elt [⟨tg, iter, ifs, 0⟩] scope pos) scope X.env _ (newList []) false (eval iter X.env) (some (assign (.Name y py) X.env))) _ _ s
  refine wpAny_bind (wpAny_mono (wpAny_comprehension_free (use := some (assign (.Name y py) X.env)) (Q := fun _ s' => SP X pins D .next s') rfl hs (closureFor_of fun x hx hk => I.ok.has x.1 (S.free x hx hk)) S.kind S.nodup
    (thn (hi pins s σ H _ I h) fun v s1 h1 => thn h1 fun itv s2 h2 => ?_)) (fun _ s' hq => wpAny_pure (wpAny_pure hq)) fun _ _ e => e)
  obtain ⟨it, fp, tn, J, H2, e, I2, T, st2, f2, q⟩ := h2
  subst e
  refine comp_block (Q := fun x H1 => gName i x σ H1 D.nx) (RR := fun acc C => compPost (model X.prog X.w) X.A X.xe (some (assign (.Name y py) X.env)) (fun _ s' => SP X pins D .next s') acc C) S hc I2 T st2 f2 hg hts he q ?_
  intro p C s' H' m hC hn I' hH' q'
  show wpAny _ X.A (assign (.Name y py) X.env (.ref p)) _ _ _
  refine wpAny_assign_Name (store_ok2 (v := .ref p) I' hN hi' hx rfl (fun s'' I'' hsb => ?_) hf)
  obtain ⟨a, hsb, ha⟩ := hsb
  have hlt : ∀ b : Addr, b < s2.heap.objs.size → b ≠ C := fun b hb => by rw [hC]; exact Nat.ne_of_lt (Nat.lt_succ_of_lt hb)
  have hne : C ≠ a := by
    rcases ha with rfl | ha
    · exact (hlt _ I2.lt).symm
    · obtain ⟨v, q⟩ := I2.cell y a ha
      exact (hlt _ q.lt).symm
  refine ⟨m, hn.sameBut hsb hne, fun h' hs' => ⟨σ.set i (some (.ref p)), H', ?_, q'⟩⟩
  refine I''.turned (it := C) (t' := s''.toks) (fun b o hb e => (hs'.2 b hb).trans e) hH' ?_ (.inr ?_) ?_ ?_
  · exact (hlt _ I2.lt).symm
  · rw [hC]; exact Nat.le_succ_of_le I2.sz
  · intro x c e
    obtain ⟨v, q⟩ := I2.cell x c e
    exact hlt _ q.lt
  · intro p hp
    exact hlt _ (Heap.lt_size (I2.pin p hp).1)
end
end L2
namespace L2
open PySem PySem.Spec PyProof.Rows
/-! ### more rules -/
theorem call_isinst {X : Cx} : CallR X (.builtin "isinstance") (fun xs H Q => ∃ x n t b, xs = [x, .ty n] ∧ TyOf X.K H x t ∧ PySem.W.kitOne X.K t (.type n) = some b ∧ Q (.bl b) H) := by
  intro pins s σ H xs us Q I r h
  obtain ⟨x, n, t, b, rfl, ty, e, q⟩ := h
  obtain ⟨u, v, rfl, r1, r2⟩ := Vals.two r
  have e2 : v = Value.type n := r2
  subst e2
  exact isinst_ok I r1 ty e fun tk => ⟨.bl b, H, I.tok _, rfl, q⟩
/-! ### the rules with the written part by name -/
section
variable {X : Cx} {K : PySem.W.Frag}
theorem ix_listK (h : X.K = K) : IxR X (rIxL K) := h ▸ ix_list
theorem sl_listK (h : X.K = K) : SlR X (rSlL K) := h ▸ sl_list
theorem op_inK (h : X.K = K) : OpR X (compareOp .In) (rIn K false) := h ▸ op_in_seq
def cLen (K : PySem.W.Frag) : List V → Hp → VK → Prop := fun xs H Q => ∃ p ys, xs = [.ref p] ∧ (SqL K H p ys ∨ SqT K H p ys) ∧ Q (.int ys.length) H
theorem call_lenK (h : X.K = K) : CallR X (.builtin "len") (cLen K) := h ▸ call_len_seq
def cList (K : PySem.W.Frag) : List V → Hp → VK → Prop := fun xs H Q => ∃ p ys, xs = [.ref p] ∧ (SqL K H p ys ∨ SqT K H p ys) ∧ ∀ l, H l = none → Q (.ref l) (upd H l (.lst ys))
theorem call_listK (h : X.K = K) : CallR X (.type "list") (cList K) := h ▸ call_list_of
def cIsi (K : PySem.W.Frag) : List V → Hp → VK → Prop := fun xs H Q => ∃ x n t b, xs = [x, .ty n] ∧ TyOf K H x t ∧ PySem.W.kitOne K t (.type n) = some b ∧ Q (.bl b) H
theorem call_isinstanceK (h : X.K = K) : CallR X (.builtin "isinstance") (cIsi K) := h ▸ call_isinst
theorem pi_listK {tg l : Expr} {tl : TE} (h : X.K = K) (hl : PE X l tl) : PI X tg l (iList K tl) := h ▸ pi_list hl
def tTruth (K : PySem.W.Frag) (ta : TE) : TT := fun σ H Q => ta σ H fun x H' => ∃ k, TruV K x H' k ∧ Q k H'
theorem pt_truthK {a : Expr} {ta : TE} (h : X.K = K) (ha : PE X a ta) (he : ∀ whole, isTrue a X.env whole = (do let v ← whole; standAt a.pos; holding [v] (truthy v))) : PT X a (tTruth K ta) := h ▸ pt_truth ha he
theorem pe_bmK {o e : Expr} {es : List Expr} {to : TE} {t : TA} {name : Str} {apos cpos : Pos} {T id : String} {r : V → List V → Hp → VK → Prop} (h : X.K = K)
    (pa : PlainAttrs T) (slot : Slot T name id) (hty : typeOf (.builtin id) = pure (.type "method_descriptor")) (hm : MtR X id r) (ho : PE X o to) (ha : PA X (e :: es) t)
    (hbase : attributeBase o name X.env (eval o X.env) = eval o X.env := by rfl)
    (hfew : ((backTo cpos (starEach (e :: es) X.env)).all (fun x => !x.1) && (backToKw cpos (keywordEach [] X.env)).all (fun x => x.1.isSome)
      && decide ((e :: es).length + ([] : List Keyword).length + (if ([] : List Keyword).isEmpty then 0 else 1) < 30)) = true := by rfl)
    (hline : (apos.endLine == cpos.line) = true := by rfl) (hs : starEach (e :: es) X.env = (false, eval e X.env) :: starEach es X.env := by rfl) (hplain : (backTo cpos (starEach es X.env)).any (·.1) = false := by rfl) :
    PE X (.Call (.Attribute o name apos) (e :: es) [] cpos) (tBM K T r to t) := h ▸ pe_bm pa slot hty hm ho ha hbase hfew hline hs hplain
/-- + of ints, of lists, of texts -/
def rAddS : R2 := fun x y H Q => ∃ i j, x = .str i ∧ y = .str j ∧ i.length + j.length ≤ sizeLine ∧ Q (.str (i ++ j)) H
def rAddG : R2 := fun x y H Q => rI0 (fun i j => .int (i + j)) x y H Q ∨ rCat x y H Q ∨ rAddS x y H Q
theorem op_addG : OpR X (binaryOp .Add) rAddG := op_add.or (op_cat.or op_add_str)
def rNeG (K : PySem.W.Frag) : R2 := fun x y H Q => rNe x y H Q
theorem op_neG (h : X.K = K) : OpR X (compareOp .NotEq) (rNeG K) := op_ne
end
/-- what a block's scope must be, as one decision -/
def compOk (scope : Scope) (xn : List (Str × NameKind)) (XN N : List Str) (own : Nat) (js : List Nat) : Bool :=
  (scope.kind == .function) && scope.names.all (fun y => y.2 != .cell) && scope.names.all (fun y => y.2 != .local || scope.names.lookup y.1 == some .local) &&
  scope.names.all (fun y => y.2 != .free || (xn.lookup y.1 == some .cell || xn.lookup y.1 == some .free)) && (N.length == own + js.length) &&
  (List.range js.length).all (fun i => (N[own + i]? == XN[js.getD i 0]?) && match XN[js.getD i 0]? with
    | some x => scope.names.lookup x == some .free && (xn.lookup x == some .cell || xn.lookup x == some .free)
    | none => true)
theorem compScope_of {X : Cx} {scope sc : Scope} {XN N : List Str} {own : Nat} {js : List Nat} (hs : X.env.scope = sc) (hN : X.N = XN) (h : compOk scope sc.names XN N own js = true) : CompScope X scope N own js := by
  subst hs hN
  unfold compOk at h
  simp only [Bool.and_eq_true, List.all_eq_true, beq_iff_eq, bne_iff_ne, Bool.or_eq_true, List.mem_range] at h
  obtain ⟨⟨⟨⟨⟨h1, h2⟩, h3⟩, h4⟩, h5⟩, h6⟩ := h
  refine ⟨h1, h2, fun y hy hk => ?_, fun y hy hk => ?_, h5, fun i j hj => ?_⟩
  · rcases h3 y hy with z | z
    · exact absurd hk z
    · exact z
  · rcases h4 y hy with z | z
    · exact absurd hk z
    · exact z
  · have hi : i < js.length := (List.getElem?_eq_some_iff.mp hj).1
    have e : js.getD i 0 = j := by rw [List.getD_eq_getElem?_getD, hj]; rfl
    obtain ⟨a, b⟩ := h6 i hi
    rw [e] at a b
    refine ⟨a, fun x hx => ?_⟩
    rw [hx] at b
    simp only [Bool.and_eq_true, beq_iff_eq, Bool.or_eq_true] at b
    obtain ⟨b1, b2⟩ := b
    refine ⟨b1, ?_, ?_⟩
    · rcases b2 with z | z
      · exact .inr (.inl z)
      · exact .inr (.inr z)
    · intro z
      have z' : X.env.scope.names.lookup x = some .local := z
      rcases b2 with q | q <;> rw [z'] at q <;> cases q
/-! ### the reading, rule by rule -/
section
variable {σ σ' : St} {H : Hp} {Q : VK} {QT : Bool → Hp → Prop} {QA : List V → Hp → Prop} {i j : Int} {v x y : V} {te ta tb : TE} {tc tc' : TT} {tl tr : TA} {t u : TS} {K : PySem.W.Frag} {p : Addr} {xs : List V}
  {nx bk ct : St → Hp → Prop} {rt : VK} {D : Ends} {r r' : R2} {n : Nat}
theorem r_var {i : Nat} (h : σ[i]? = some (some v)) (q : Q v H) : tVar i σ H Q := ⟨v, h, q⟩
theorem r_c (q : Q v H) : tC v σ H Q := q
theorem r_op (h : ta σ H fun x H1 => tb σ H1 fun y H2 => r x y H2 Q) : tOp r ta tb σ H Q := h
theorem r_I0 {g : Int → Int → V} (q : Q (g i j) H) : rI0 g (.int i) (.int j) H Q := ⟨i, j, rfl, rfl, q⟩
theorem r_eqI (q : Q (.bl (decide (i = j))) H) : rEq (.int i) (.int j) H Q := ⟨rfl, by simpa using q⟩
theorem r_neI (q : Q (.bl (!decide (i = j))) H) : rNe (.int i) (.int j) H Q := ⟨rfl, by simpa using q⟩
theorem r_eqB {a b : Bool} (q : Q (.bl (decide (a = b))) H) : rEq (.bl a) (.bl b) H Q := ⟨rfl, by simpa using q⟩
theorem r_ixL (h : SqL K H p xs) (e : atI xs i = some v) (q : Q v H) : rIxL K (.ref p) (.int i) H Q := ⟨p, xs, i, v, rfl, rfl, h, e, q⟩
theorem r_cb {f : List V → Hp → VK → Prop} (h : tl σ H fun vs H1 => f vs H1 Q) : tCB f tl σ H Q := h
theorem r_nil (q : QA [] H) : tNil σ H QA := q
theorem r_cons (h : ta σ H fun x H1 => tl σ H1 fun xs H2 => QA (x :: xs) H2) : tCons ta tl σ H QA := h
theorem r_call {sp : Sp} {E : XK} (h : tl σ H fun vs H1 => sp vs H1 Q E) : tCall sp [] E tl σ H Q := by
  unfold tCall
  simpa only [List.append_nil] using h
theorem ite_d {c : Prop} {A B : Prop} [Decidable c] (h1 : c → A) (h2 : ¬ c → B) : if decide c = true then A else B := by
  by_cases h : c
  · rw [if_pos (decide_eq_true h)]; exact h1 h
  · rw [if_neg (by simpa using h)]; exact h2 h
theorem ite_nd {c : Prop} {A B : Prop} [Decidable c] (h1 : ¬ c → A) (h2 : c → B) : if (!decide c) = true then A else B := by
  by_cases h : c
  · rw [if_neg (by simpa using h)]; exact h2 h
  · rw [if_pos (by simpa using h)]; exact h1 h
theorem atI_ints {ns : List Int} {k : Int} (h0 : 0 ≤ k) (h1 : k < ns.length) : atI (ns.map V.int) k = some (.int (ns.getD k.toNat 0)) := by
  obtain ⟨n, rfl⟩ := Int.eq_ofNat_of_zero_le h0
  have hn : n < ns.length := by omega
  refine atI_nat ?_
  rw [List.getElem?_map, List.getD_eq_getElem?_getD, Int.toNat_natCast, List.getElem?_eq_getElem hn]
  rfl
theorem atI_refs {ps : List Addr} {k : Int} (h0 : 0 ≤ k) (h1 : k < ps.length) : atI (ps.map V.ref) k = some (.ref (ps.getD k.toNat 0)) := by
  obtain ⟨n, rfl⟩ := Int.eq_ofNat_of_zero_le h0
  have hn : n < ps.length := by omega
  refine atI_nat ?_
  rw [List.getElem?_map, List.getD_eq_getElem?_getD, Int.toNat_natCast, List.getElem?_eq_getElem hn]
  rfl
def LeafLst (xs : List V) (H : Hp) (Q : VK) : Prop := xs.length ≤ sizeLine ∧ ∀ p, H p = none → Q (.ref p) (upd H p (.lst xs))
theorem r_lst (h : tl σ H fun xs H1 => LeafLst xs H1 Q) : tLst tl σ H Q := h
theorem r_bm {T : String} {f : V → List V → Hp → VK → Prop} (h : te σ H fun x H1 => tyV K T x H1 ∧ tl σ H1 fun xs H2 => f x xs H2 Q) : tBM K T f te tl σ H Q := h
theorem r_andV (h : ta σ H fun x H1 => ∃ c, x = .bl c ∧ if c = true then tb σ H1 Q else Q (.bl false) H1) : tAndV ta tb σ H Q := h
theorem r_notV (h : ta σ H fun x H1 => ∃ c, x = .bl c ∧ Q (.bl (!c)) H1) : tNotV ta σ H Q := h
theorem r_exbl {b : Bool} {P : Bool → Prop} (h : P b) : ∃ c, V.bl b = .bl c ∧ P c := ⟨b, rfl, h⟩
theorem r_test (h : ta σ H fun x H' => ∃ k, x = .bl k ∧ QT k H') : tTest ta σ H QT := h
theorem r_tB (h : ta σ H fun x H' => ∃ k, x = .bl k ∧ QT k H') : tB ta σ H QT := h
theorem r_and (h : tc σ H fun c H1 => if c = true then tc' σ H1 QT else QT false H1) : tAnd tc tc' σ H QT := h
theorem r_or (h : tc σ H fun c H1 => if c = true then QT true H1 else tc' σ H1 QT) : tOr tc tc' σ H QT := h
theorem r_not (h : tc σ H fun c H1 => QT (!c) H1) : tNot tc σ H QT := h
theorem r_tt (h : QT true H) : tTT σ H QT := h
-- statements
theorem r_seq (h : t ⟨u ⟨nx, rt, bk, ct⟩, rt, bk, ct⟩ σ H) : tSeq t u ⟨nx, rt, bk, ct⟩ σ H := h
theorem r_ret (h : te σ H rt) : tRet te ⟨nx, rt, bk, ct⟩ σ H := h
theorem r_drop (h : te σ H fun _ H1 => nx σ H1) : tDrop te ⟨nx, rt, bk, ct⟩ σ H := h
theorem r_next (h : nx σ H) : tNext ⟨nx, rt, bk, ct⟩ σ H := h
theorem r_set {i : Nat} (h : te σ H fun x H1 => nx (σ.set i (some x)) H1) : tAsg te (gName i) ⟨nx, rt, bk, ct⟩ σ H := h
theorem r_ifS (h : tc σ H fun b H1 => if b = true then t D σ H1 else u D σ H1) : tIfS tc t u D σ H := h
theorem r_gname {i : Nat} {N : St → Hp → Prop} (h : N (σ.set i (some v)) H) : gName i v σ H N := h
/-- a loop over a range -/
def ForR (lo : Int) (n : Nat) (g : TG) (tb : TS) (D : Ends) (σ : St) (H : Hp) : Prop :=
  ∃ W : Nat → Nat → St → Hp → Prop, (∃ m, W 0 m σ H) ∧ ∀ i m σ H, W i m σ H →
    ((Itr lo n).stop i H ∧ D.nx σ H) ∨ ((Itr lo n).go i H ∧ ∃ N : St → Hp → Prop, (∀ σ' H', N σ' H' → ∃ m', m' < m ∧ W (i + 1) m' σ' H') ∧ ∀ x H', (Itr lo n).yld i H x H' → g x σ H' fun σ2 H2 => tb { D with nx := N, ct := N, bk := D.nx } σ2 H2)
theorem r_for1 {g : TG} {tb : TS} (h : tl σ H fun vs H1 => ∃ j : Int, vs = [.int j] ∧ -(2 ^ 62) ≤ j ∧ j < 2 ^ 62 ∧ ForR 0 j.toNat g tb D σ H1) : tFor (iRng1 tl) g tb D σ H := h
theorem r_for2 {g : TG} {tb : TS} (h : tl σ H fun vs H1 => ∃ i j : Int, vs = [.int i, .int j] ∧ (-(2 ^ 62) ≤ i ∧ i < 2 ^ 62 ∧ -(2 ^ 62) ≤ j ∧ j < 2 ^ 62) ∧ ForR i (j - i).toNat g tb D σ H1) : tFor (iRng2 tl) g tb D σ H := h
theorem r_rng1 {P : Int → Prop} (b1 : -(2 ^ 62) ≤ i) (b2 : i < 2 ^ 62) (h : P i) : ∃ j : Int, [V.int i] = [.int j] ∧ -(2 ^ 62) ≤ j ∧ j < 2 ^ 62 ∧ P j := ⟨i, rfl, b1, b2, h⟩
theorem r_rng2 {P : Int → Int → Prop} (b : -(2 ^ 62) ≤ i ∧ i < 2 ^ 62 ∧ -(2 ^ 62) ≤ j ∧ j < 2 ^ 62) (h : P i j) : ∃ i' j' : Int, [V.int i, V.int j] = [.int i', .int j'] ∧ (-(2 ^ 62) ≤ i' ∧ i' < 2 ^ 62 ∧ -(2 ^ 62) ≤ j' ∧ j' < 2 ^ 62) ∧ P i' j' := ⟨i, j, rfl, b, h⟩
theorem r_len (h : SqL K H p xs) (q : Q (.int xs.length) H) : cLen K [.ref p] H Q := ⟨p, xs, rfl, .inl h, q⟩
theorem r_lenI {ns : List Int} (h : SqL K H p (ns.map V.int)) (q : Q (.int ns.length) H) : cLen K [.ref p] H Q := ⟨p, _, rfl, .inl h, by rw [List.length_map]; exact q⟩
theorem r_lenR {ns : List Addr} (h : SqL K H p (ns.map V.ref)) (q : Q (.int ns.length) H) : cLen K [.ref p] H Q := ⟨p, _, rfl, .inl h, by rw [List.length_map]; exact q⟩
theorem r_isi {T : String} {ty : Value} {b : Bool} (h : TyOf K H x ty) (e : PySem.W.kitOne K ty (.type T) = some b) (q : Q (.bl b) H) : cIsi K [x, .ty T] H Q := ⟨x, T, ty, b, rfl, h, e, q⟩
theorem r_truth (h : ta σ H fun x H' => ∃ k, TruV K x H' k ∧ QT k H') : tTruth K ta σ H QT := h
theorem r_trubl {b : Bool} {P : Bool → Prop} (h : P b) : ∃ k, TruV K (.bl b) H k ∧ P k := ⟨b, rfl, h⟩
theorem r_addI (q : Q (.int (i + j)) H) : rAddG (.int i) (.int j) H Q := .inl ⟨i, j, rfl, rfl, q⟩
theorem r_neGI (q : Q (.bl (!decide (i = j))) H) : rNeG K (.int i) (.int j) H Q := r_neI q
theorem r_forR {lo : Int} {g : TG} {tb : TS} (Pv : Nat → St → Hp → Prop) (h0 : Pv 0 σ H)
    (hs : ∀ i σ H, i < n → Pv i σ H → g (.int (lo + i)) σ H fun σ2 H2 => tb ⟨Pv (i + 1), rt, nx, Pv (i + 1)⟩ σ2 H2) (hd : ∀ σ H, Pv n σ H → nx σ H) : ForR lo n g tb ⟨nx, rt, bk, ct⟩ σ H :=
  for_range (D := ⟨nx, rt, bk, ct⟩) Pv h0 hs hd
end
end L2
namespace L2
open PySem PySem.Spec PyProof.Rows
section
variable {H : Hp} {Q : VK} {K : PySem.W.Frag} {p : Addr} {xs : List V} {y : V}
theorem same_new {H : Hp} {p : Addr} {o : HO} (hp : H p = none) : Same H (upd H p o) := fun b u e => by
  rw [upd_ne (ne_of_none e hp)]; exact e
/-- all but p is as it was -/
def But (p : Addr) (H H' : Hp) : Prop := ∀ b, b ≠ p → H' b = H b
theorem But.upd {H : Hp} {p : Addr} {o : HO} : But p H (upd H p o) := fun b h => upd_ne h
theorem Same.but {B H H' : Hp} {p : Addr} (s : Same B H) (b : But p H H') (hp : B p = none) : Same B H' := fun c o e => by
  rw [b c (ne_of_none e hp)]; exact s c o e
theorem leaf_lst (hz : xs.length ≤ 1000) (h : ∀ p H2, H p = none → Same H H2 → H2 p = some (.lst xs) → Q (.ref p) H2) : LeafLst xs H Q :=
  ⟨Nat.le_of_lt (small1000 hz), fun p hp => h p _ hp (same_new hp) upd_same⟩
theorem leaf_list (h : SqL K H p xs) (q : ∀ l H2, H l = none → Same H H2 → H2 l = some (.lst xs) → Q (.ref l) H2) : cList K [.ref p] H Q := ⟨p, xs, rfl, .inl h, fun l hl => q l _ hl (same_new hl) upd_same⟩
theorem leaf_append (h : H p = some (.lst xs)) (hz : xs.length ≤ 1000000) (q : ∀ H2, But p H H2 → H2 p = some (.lst (xs ++ [y])) → Q .non H2) : rAppend (.ref p) [y] H Q := ⟨p, xs, y, rfl, rfl, h, by rw [sizeLine_eq]; omega, q _ But.upd upd_same⟩
theorem leaf_cat {a b : Addr} {ys : List V} (h : H a = some (.lst xs)) (h' : H b = some (.lst ys)) (hz : xs.length + ys.length ≤ 1000) (q : ∀ p H2, H p = none → Same H H2 → H2 p = some (.lst (xs ++ ys)) → Q (.ref p) H2) : rAddG (.ref a) (.ref b) H Q :=
  .inr (.inl ⟨a, b, xs, ys, rfl, rfl, h, h', Nat.le_of_lt (small1000 hz), fun p hp => q p _ hp (same_new hp) upd_same⟩)
theorem r_mod {f : Int → Int → V} {i j : Int} (c : 0 < j) (q : Q (f i j) H) : rI (fun _ j => 0 < j) f (.int i) (.int j) H Q := ⟨i, j, rfl, rfl, c, q⟩
theorem r_tyL {P : Prop} (h : H p = some (.lst xs)) (q : P) : tyV K "list" (.ref p) H ∧ P := ⟨.inl ⟨rfl, _, SqL.of h⟩, q⟩
end
end L2
namespace L2
open PySem PySem.Spec PyProof.Rows
section
variable {σ : St} {H : Hp} {Q : VK} {K : PySem.W.Frag} {js : List Nat} {te : TE} {tc : TT} {J : It} {n : Nat} {x : Nat → V}
/-- what a loop or a comprehension walks, read over every heap that keeps H -/
structure Iter (J : It) (n : Nat) (x : Nat → V) (H : Hp) : Prop where
  go : ∀ i H', Same H H' → i < n → J.go i H'
  yld : ∀ i H' v H2, Same H H' → i < n → J.yld i H' v H2 → H2 = H' ∧ v = x i
  stop : ∀ H', Same H H' → J.stop n H'
theorem iter_range (lo : Int) (n : Nat) (H : Hp) : Iter (Itr lo n) n (fun i => .int (lo + i)) H :=
  ⟨fun i H' _ h => h, fun i H' v H2 _ _ h => h, fun H' _ => Nat.le_refl n⟩
theorem iter_list {a : Addr} {xs : List V} (h : SqL K H a xs) : Iter (Itl K a) xs.length (fun i => xs.getD i .non) H :=
  ⟨fun i H' s hi => ⟨xs, xs[i], s.seq h, List.getElem?_eq_getElem hi⟩, fun i H' v H2 s hi h' => ⟨h'.1, by
    have := h'.2 xs (s.seq h)
    rw [List.getD_eq_getElem?_getD, this]; rfl⟩, fun H' s => ⟨xs, s.seq h, Nat.le_refl _⟩⟩
/-- a comprehension behind its source -/
def CompI (J : It) (js : List Nat) (tc : TT) (te : TE) (σ : St) (H : Hp) (Q : VK) : Prop := ∀ p, H p = none →
  ∃ W : Nat → Nat → St → Hp → Prop, (∃ m, W 0 m (capS 1 js σ) (upd H p (.lst []))) ∧ ∀ i m σc H, W i m σc H →
    (J.stop i H ∧ Q (.ref p) H) ∨ (J.go i H ∧ ∃ N : St → Hp → Prop, (∀ σ' H', N σ' H' → ∃ m', m' < m ∧ W (i + 1) m' σ' H') ∧ ∀ x H', J.yld i H x H' →
      gName 0 x σc H' fun σ2 H2 => tc σ2 H2 fun b H3 => if b = true then te σ2 H3 fun v H4 => ∃ ys, H4 p = some (.lst ys) ∧ ys.length < sizeLine ∧ N σ2 (upd H4 p (.lst (ys ++ [v]))) else N σ2 H3)
theorem r_comp2 {tl : TA} (h : tl σ H fun vs H1 => ∃ i j : Int, vs = [.int i, .int j] ∧ (-(2 ^ 62) ≤ i ∧ i < 2 ^ 62 ∧ -(2 ^ 62) ≤ j ∧ j < 2 ^ 62) ∧ CompI (Itr i (j - i).toNat) js tc te σ H1 Q) : tComp (iRng2 tl) 1 js (gName 0) tc te σ H Q := h
theorem r_compL {tl : TE} (h : tl σ H fun x H1 => ∃ a, x = .ref a ∧ (∃ xs, SqL K H1 a xs) ∧ CompI (Itl K a) js tc te σ H1 Q) : tComp (iList K tl) 1 js (gName 0) tc te σ H Q := h
def capV (js : List Nat) (σ : St) : St := js.map fun j => (σ[j]?).getD none
theorem capS_set' (u : Option V) (v : V) : (u :: capV js σ).set 0 (some v) = some v :: capV js σ := rfl
theorem same_upd {H H' : Hp} {p : Addr} {o : HO} (s : Same H H') (hp : H p = none) : Same H (upd H' p o) := fun b u e => by
  rw [upd_ne (ne_of_none e hp)]; exact s b u e
/-- elements without the heap, with a test -/
theorem comp_pure (it : Iter J n x H) (hz : n < sizeLine) (c : Nat → Bool) (f : Nat → V)
    (ht : ∀ i H' Q', i < n → Same H H' → Q' (c i) H' → tc (some (x i) :: capV js σ) H' Q')
    (he : ∀ i H' Q', i < n → Same H H' → c i = true → Q' (f i) H' → te (some (x i) :: capV js σ) H' Q')
    (hq : ∀ p, H p = none → Q (.ref p) (upd H p (.lst (((List.range n).filter c).map f)))) : CompI J js tc te σ H Q := by
  intro p hp
  refine ⟨fun i m σc H' => m = n - i ∧ i ≤ n ∧ (∃ u, σc = u :: capV js σ) ∧ H' = upd H p (.lst (((List.range i).filter c).map f)), ⟨n, by simp, Nat.zero_le _, ⟨none, rfl⟩, rfl⟩, ?_⟩
  rintro i m σc H' ⟨rfl, hi, ⟨u, rfl⟩, rfl⟩
  have s : ∀ o, Same H (upd H p o) := fun o => same_new hp
  have hlen : (((List.range i).filter c).map f).length ≤ i := by
    rw [List.length_map]
    exact Nat.le_trans (List.length_filter_le _ _) (by simp)
  by_cases hlt : i < n
  · refine .inr ⟨it.go i _ (s _) hlt, fun σ' H' => (∃ u, σ' = u :: capV js σ) ∧ H' = upd H p (.lst (((List.range (i + 1)).filter c).map f)), fun σ' H' ⟨h1, h2⟩ => ⟨n - (i + 1), by omega, rfl, hlt, h1, h2⟩, fun v H2 hy => ?_⟩
    obtain ⟨rfl, rfl⟩ := it.yld i _ v H2 (s _) hlt hy
    show tc ((u :: capV js σ).set 0 (some (x i))) _ _
    rw [capS_set']
    have e : (List.range (i + 1)).filter c = (List.range i).filter c ++ if c i = true then [i] else [] := by
      rw [List.range_succ, List.filter_append]
      cases hc : c i <;> simp [hc]
    refine ht i _ _ hlt (s _) ?_
    cases hc : c i with
    | false =>
      rw [if_neg Bool.false_ne_true]
      refine ⟨⟨_, rfl⟩, ?_⟩
      rw [e, hc]
      simp
    | true =>
      rw [if_pos rfl]
      refine he i _ _ hlt (s _) hc ⟨_, upd_same, by omega, ⟨_, rfl⟩, ?_⟩
      rw [upd_upd, e, hc]
      simp
  · have e : i = n := by omega
    subst e
    exact .inl ⟨it.stop _ (s _), hq p hp⟩
/-- a for over what Iter says -/
def ForI (J : It) (g : TG) (tb : TS) (D : Ends) (σ : St) (H : Hp) : Prop :=
  ∃ W : Nat → Nat → St → Hp → Prop, (∃ m, W 0 m σ H) ∧ ∀ i m σ H, W i m σ H →
    (J.stop i H ∧ D.nx σ H) ∨ (J.go i H ∧ ∃ N : St → Hp → Prop, (∀ σ' H', N σ' H' → ∃ m', m' < m ∧ W (i + 1) m' σ' H') ∧ ∀ x H', J.yld i H x H' → g x σ H' fun σ2 H2 => tb { D with nx := N, ct := N, bk := D.nx } σ2 H2)
theorem r_forL {tl : TE} {g : TG} {tb : TS} {D : Ends} (h : tl σ H fun x H1 => ∃ a, x = .ref a ∧ (∃ xs, SqL K H1 a xs) ∧ ForI (Itl K a) g tb D σ H1) : tFor (iList K tl) g tb D σ H := h
theorem r_lstAt {a : Addr} {P : Addr → Prop} {xs : List V} (h : SqL K H a xs) (q : P a) : ∃ b, V.ref a = .ref b ∧ (∃ xs, SqL K H b xs) ∧ P b := ⟨a, rfl, ⟨xs, h⟩, q⟩
theorem r_forIL {a : Addr} {xs : List V} {g : TG} {tb : TS} {nx bk ct : St → Hp → Prop} {rt : VK} (Pv : Nat → St → Hp → Prop) (h0 : Pv 0 σ H) (hl : ∀ i σ H, i ≤ xs.length → Pv i σ H → SqL K H a xs)
    (hs : ∀ i x σ H, xs[i]? = some x → Pv i σ H → g x σ H fun σ2 H2 => tb ⟨Pv (i + 1), rt, nx, Pv (i + 1)⟩ σ2 H2) (hd : ∀ σ H, Pv xs.length σ H → nx σ H) : ForI (Itl K a) g tb ⟨nx, rt, bk, ct⟩ σ H :=
  for_list (D := ⟨nx, rt, bk, ct⟩) Pv h0 hl hs hd
theorem getD_ext {xs ys : List Int} (hl : xs.length = ys.length) (h : ∀ j, j < xs.length → xs.getD j 0 = ys.getD j 0) : xs = ys := by
  refine List.ext_getElem hl fun i h1 h2 => ?_
  have := h i h1
  rw [List.getD_eq_getElem?_getD, List.getD_eq_getElem?_getD, List.getElem?_eq_getElem h1, List.getElem?_eq_getElem h2] at this
  exact this
/-- ints without a test -/
theorem comp_ints (it : Iter J n x H) (hz : n ≤ 1000) (f : Nat → Int)
    (he : ∀ i H' Q', i < n → Same H H' → Q' (.int (f i)) H' → te (some (x i) :: capV js σ) H' Q')
    (hq : ∀ p H2, H p = none → Same H H2 → H2 p = some (.lst (((List.range n).map f).map V.int)) → Q (.ref p) H2) : CompI J js tTT te σ H Q := by
  refine comp_pure it (small1000 hz) (fun _ => true) (fun i => .int (f i)) (fun i H' Q' _ _ q => q) (fun i H' Q' hi s _ q => he i H' Q' hi s q) fun p hp => hq p _ hp (same_new hp) ?_
  rw [upd_same, List.filter_eq_self.mpr (fun _ _ => rfl), List.map_map]
  rfl
end
end L2
namespace L2
open PySem PySem.Spec PyProof.Rows
/-- a list of lists of ints -/
def LL (K : PySem.W.Frag) (H : Hp) (a : Addr) (rs : List (List Int)) : Prop :=
  ∃ ps : List Addr, SqL K H a (ps.map V.ref) ∧ ps.length = rs.length ∧ ∀ i, i < rs.length → H (ps.getD i 0) = some (.lst ((rs.getD i []).map V.int))
theorem LL.same {K : PySem.W.Frag} {H H' : Hp} {a : Addr} {rs : List (List Int)} (h : LL K H a rs) (s : Same H H') : LL K H' a rs := by
  obtain ⟨ps, h1, h2, h3⟩ := h
  exact ⟨ps, s.seq h1, h2, fun i hi => s _ _ (h3 i hi)⟩
/-- a list of new lists of ints, made over B -/
structure RowsAt (B : Hp) (p : Addr) (rs : List (List Int)) (H : Hp) : Prop where
  same : Same B H
  new : B p = none
  rows : ∃ ps : List Addr, H p = some (.lst (ps.map V.ref)) ∧ ps.length = rs.length ∧ ps.Nodup ∧ ∀ i, i < rs.length → H (ps.getD i 0) = some (.lst ((rs.getD i []).map V.int)) ∧ B (ps.getD i 0) = none ∧ ps.getD i 0 ≠ p
theorem RowsAt.start {B H : Hp} {p : Addr} (hp : B p = none) (s : Same B H) (e : H p = some (.lst [])) : RowsAt B p [] H :=
  ⟨s, hp, [], e, rfl, List.nodup_nil, fun i hi => absurd hi (by simp)⟩
theorem getD_app_lt {α : Type} {xs ys : List α} {d : α} {i : Nat} (h : i < xs.length) : (xs ++ ys).getD i d = xs.getD i d := by
  rw [List.getD_eq_getElem?_getD, List.getD_eq_getElem?_getD, List.getElem?_append_left h]
theorem getD_app_self {α : Type} {xs : List α} {y d : α} : (xs ++ [y]).getD xs.length d = y := by
  rw [List.getD_eq_getElem?_getD, List.getElem?_append_right (Nat.le_refl _)]
  simp
theorem mem_getD {α : Type} {xs : List α} {d a : α} (h : a ∈ xs) : ∃ i, i < xs.length ∧ xs.getD i d = a := by
  obtain ⟨k, hk, e⟩ := List.getElem_of_mem h
  exact ⟨k, hk, by rw [List.getD_eq_getElem?_getD, List.getElem?_eq_getElem hk, e]; rfl⟩
/-- a new row is laid and appended -/
theorem RowsAt.push {B H H2 H3 : Hp} {p q : Addr} {rs : List (List Int)} {r : List Int} {zs : List V} (R : RowsAt B p rs H) (hq : H q = none) (s : Same H H2) (e : H2 q = some (.lst (r.map V.int))) (hz : H2 p = some (.lst zs)) (b : But p H2 H3) (e3 : H3 p = some (.lst (zs ++ [.ref q]))) : RowsAt B p (rs ++ [r]) H3 := by
  obtain ⟨sb, hp, ps, h1, h2, nd, h3⟩ := R
  have ez : zs = ps.map V.ref := by
    have := s p _ h1
    rw [hz] at this
    exact (HO.lst.inj (Option.some.inj this))
  subst ez
  have hBq : B q = none := sb.free hq
  have hqp : q ≠ p := (ne_of_none h1 hq).symm
  refine ⟨(sb.trans s).but b hp, hp, ps ++ [q], by rw [e3, List.map_append]; rfl, by simp [h2], ?_, fun i hi => ?_⟩
  · refine List.nodup_append.mpr ⟨nd, by simp, fun a ha c hc => ?_⟩
    have hc' : c = q := by simpa using hc
    subst hc'
    obtain ⟨k, hk, ek⟩ := mem_getD (d := 0) ha
    have := (h3 k (by omega)).1
    rw [ek] at this
    exact ne_of_none this hq
  · rw [List.length_append, List.length_singleton] at hi
    by_cases hlt : i < rs.length
    · obtain ⟨a1, a2, a3⟩ := h3 i hlt
      rw [getD_app_lt (by omega), getD_app_lt hlt]
      refine ⟨?_, a2, a3⟩
      rw [b _ a3]
      exact s _ _ a1
    · have ei : i = rs.length := by omega
      subst ei
      rw [getD_app_self, ← h2, getD_app_self]
      refine ⟨?_, hBq, hqp⟩
      rw [b _ hqp]
      exact e
theorem RowsAt.ll {K : PySem.W.Frag} {B H : Hp} {p : Addr} {rs : List (List Int)} (R : RowsAt B p rs H) : LL K H p rs := by
  obtain ⟨sb, hp, ps, h1, h2, nd, h3⟩ := R
  exact ⟨ps, SqL.of h1, h2, fun i hi => (h3 i hi).1⟩
theorem RowsAt.lst {B H : Hp} {p : Addr} {rs : List (List Int)} (R : RowsAt B p rs H) : ∃ zs : List V, H p = some (.lst zs) ∧ zs.length = rs.length := by
  obtain ⟨sb, hp, ps, h1, h2, nd, h3⟩ := R
  exact ⟨_, h1, by rw [List.length_map, h2]⟩
theorem getD_map_range {α : Type} {f : Nat → α} {n i : Nat} {d : α} (h : i < n) : ((List.range n).map f).getD i d = f i := by
  rw [List.getD_eq_getElem?_getD, List.getElem?_map, List.getElem?_range h]
  rfl
theorem getDL_ext {xs ys : List (List Int)} (hl : xs.length = ys.length) (h : ∀ j, j < xs.length → xs.getD j [] = ys.getD j []) : xs = ys := by
  refine List.ext_getElem hl fun i h1 h2 => ?_
  have := h i h1
  rw [List.getD_eq_getElem?_getD, List.getD_eq_getElem?_getD, List.getElem?_eq_getElem h1, List.getElem?_eq_getElem h2] at this
  exact this
end L2
namespace L2
open PySem PySem.Spec PyProof.Rows
/-! ### a range downward by ones -/
section
variable {X : Cx} {tg : Expr}
end
section
variable {σ : St} {H : Hp} {i j : Int} {D : Ends} {nx bk ct : St → Hp → Prop} {rt : VK} {n : Nat} {Q : VK}
theorem r_un {f : Int → V} (q : Q (f i) H) : rU f (.int i) H Q := ⟨i, rfl, q⟩
theorem r_tun {r : V → Hp → VK → Prop} {ta : TE} (h : ta σ H fun x H1 => r x H1 Q) : tUn r ta σ H Q := h
end
end L2
namespace L2
open PySem PySem.Spec PyProof.Rows
/-! ### zip of two lists, walked by a pair of names -/
section
variable {X : Cx} {pins : List (Addr × Obj)} {σ : St} {H : Hp} {s : Shared} {h' : Heap}
/-- some untracked records of ours have turned, and a new object is laid and tracked -/
theorem Inv.turnedNew {ch : List Addr} {T : Addr} {o : HO} {t' : Nat} (I : Inv X pins σ H s) (k : ∀ b ob, b ∉ ch → s.heap.get? b = some ob → h'.get? b = some ob) (hf : ∀ b ∈ ch, FpOk X pins H b ∧ ∃ ob, h'.get? b = some ob) (hT : s.heap.objs.size ≤ T)
    (new : ObjOk X.prog X.w (upd H T o) h' T o) : Inv X pins σ (upd H T o) { s with heap := h', toks := t' } := by
  have hn : H T = none := I.hok.fresh hT
  have ne : ∀ b ob, s.heap.get? b = some ob → b ≠ T := fun b ob e => Nat.ne_of_lt (Nat.lt_of_lt_of_le (Heap.lt_size e) hT)
  have nch : ∀ b u, H b = some u → b ∉ ch := fun b u e z => by rw [(hf b z).1.1] at e; cases e
  refine I.step (g' := s.gens) (d' := s.drawn) (ch := ch) (fun b hb => ?_) (fun b ob _ _ hc e _ => k b ob hc e) (fun b ob _ _ hc e _ => ⟨ob.slots, k b ob hc e⟩) (fun b ob _ e n => by rw [upd_ne (ne b ob e)]; exact n)
    (fun b ob hc e => ⟨ob, k b ob hc e⟩) (fun b xs e => by rw [upd_ne (ne_of_none e hn)]; exact e) (fun b ob u e => by rw [upd_ne (ne_of_none e hn)]; exact e) (fun b ps e => ⟨#[], by rw [upd_ne (ne_of_none e hn), e]; simp⟩) (fun m hm => ?_) (fun b u e => ?_) I.bare
  · obtain ⟨⟨f0, f1, f2, f3, f4, f5⟩, _⟩ := hf b hb
    exact ⟨f3, f1, f4, f5⟩
  · obtain ⟨ob, es, ep, ho, r⟩ := hm
    exact ⟨ob, es, ep, k _ ob (fun z => (hf _ z).1.2.1 rfl) ho, r⟩
  · by_cases hb : b = T
    · subst hb; rw [upd_same] at e; cases e; exact new
    · rw [upd_ne hb] at e
      refine (I.hok b u e).stay (fun c v hc q => k c v ?_ q) (fun c q => by rw [upd_ne (ne_of_none q hn)]; exact q) fun c xs q => by rw [upd_ne (ne_of_none q hn)]; exact q
      rcases hc with z | z
      · rw [z]; exact nch b u e
      · exact nch c _ z
theorem Inv.turnedL {ch : List Addr} {t' : Nat} (I : Inv X pins σ H s) (k : ∀ b ob, b ∉ ch → s.heap.get? b = some ob → h'.get? b = some ob) (hf : ∀ b ∈ ch, FpOk X pins H b) : Inv X pins σ H { s with heap := h', toks := t' } := by
  have nch : ∀ b u, H b = some u → b ∉ ch := fun b u e z => by rw [(hf b z).1] at e; cases e
  refine I.step (g' := s.gens) (d' := s.drawn) (ch := ch) (fun b hb => ?_) (fun b ob _ _ hc e _ => k b ob hc e) (fun b ob _ _ hc e _ => ⟨ob.slots, k b ob hc e⟩) (fun b ob _ e n => n)
    (fun b ob hc e => ⟨ob, k b ob hc e⟩) (fun b xs e => e) (fun b ob u e => e) (fun b ps e => ⟨#[], by rw [e]; simp⟩) (fun m hm => ?_) (fun b u e => ?_) I.bare
  · obtain ⟨f0, f1, f2, f3, f4, f5⟩ := hf b hb
    exact ⟨f3, f1, f4, f5⟩
  · obtain ⟨ob, es, ep, ho, r⟩ := hm
    exact ⟨ob, es, ep, k _ ob (fun z => (hf _ z).2.1 rfl) ho, r⟩
  · refine (I.hok b u e).stay (fun c v hc q => k c v ?_ q) (fun c q => q) fun c xs q => q
    rcases hc with z | z
    · rw [z]; exact nch b u e
    · exact nch c _ z
end
/-- two lists side by side: a new pair a turn -/
def Itz (K : PySem.W.Frag) (a b : Addr) : It :=
  ⟨fun i H => ∃ xs ys x y, SqL K H a xs ∧ SqL K H b ys ∧ xs[i]? = some x ∧ ys[i]? = some y,
   fun i H v H' => ∃ T, H T = none ∧ v = .ref T ∧ ∀ xs ys, SqL K H a xs → SqL K H b ys → ∃ x y, xs[i]? = some x ∧ ys[i]? = some y ∧ H' = upd H T (.tup [x, y]),
   fun i H => ∃ xs ys, SqL K H a xs ∧ SqL K H b ys ∧ (xs.length ≤ i ∨ ys.length ≤ i)⟩
theorem turn_zip {P : Program} {w : World} {K : PySem.W.Frag} {elts : List Expr} {x1 : Nat} {tpos : Pos} {l1 l2 z TI TO i1 i2 : Addr} (D : ZipApart z TI TO i1 i2 l1 l2) :
    Turn P w K (.Tuple elts x1 tpos) (Itz K l1 l2) [z, TI, TO, i1, i2] z (fun i h => IsZip h z TI TO .none ∧ IsPair h TI (.ref i1) (.ref i2) ∧ (∃ a b, IsPair h TO a b) ∧ h.IsListIter i1 l1 i ∧ h.IsListIter i2 l2 i) where
  mem := by simp
  obj := fun i h st b hb => by
    obtain ⟨h1, h2, ⟨_, _, h3⟩, ⟨o4, h4, c4, d4⟩, ⟨o5, h5, c5, d5⟩⟩ := st
    simp only [List.mem_cons, List.not_mem_nil, or_false] at hb
    rcases hb with rfl | rfl | rfl | rfl | rfl
    · exact ⟨_, h1, fun v z => by cases z⟩
    · exact ⟨_, h2, fun v z => by cases z⟩
    · exact ⟨_, h3, fun v z => by cases z⟩
    · exact ⟨_, h4, fun v z => by rw [d4] at z; cases z⟩
    · exact ⟨_, h5, fun v z => by rw [d5] at z; cases z⟩
  keep := fun i h h' st k => by
    obtain ⟨h1, h2, ⟨a, b, h3⟩, h4, h5⟩ := st
    exact ⟨k z (by simp) _ h1, k TI (by simp) _ h2, ⟨a, b, k TO (by simp) _ h3⟩, h4.at fun o e => k i1 (by simp) o e, h5.at fun o e => k i2 (by simp) o e⟩
  item := by
    intro X hP hw hK hc i pins s σ H E I hf st hg
    subst hP hw hK
    obtain ⟨xs, ys, x, y, hq1, hq2, hx, hy⟩ := hg
    obtain ⟨its1, rv1, p1, hz1⟩ := I.list hq1
    obtain ⟨its2, rv2, p2, hz2⟩ := I.list hq2
    obtain ⟨u1, hu1, ru1⟩ := rv1.get hx
    obtain ⟨u2, hu2, ru2⟩ := rv2.get hy
    obtain ⟨g1, g2, ⟨ta, tb, g3⟩, g4, g5⟩ := st
    refine wpAny_pyNext_zip_item D g1 g2 g3 g4 g5 p1.isList p2.isList (x := u1) (y := u2) (by simpa using hu1) (by simpa using hu2) fun h' a1 a2 a3 a4 a5 a6 hk => ?_
    refine ⟨_, rfl, ?_⟩
    refine wpAny_letOwnedTupleGo_zip a1 fun h2 b1 hs2 => ?_
    have hTn : H s.heap.objs.size = none := I.hok.fresh (Nat.le_refl _)
    have ltz : ∀ b ∈ [z, TI, TO, i1, i2], b ≠ s.heap.objs.size := fun b hb => by
      obtain ⟨⟨o, e⟩⟩ : ∃ o, s.heap.get? b = some o := by
        obtain ⟨o4, e4, _⟩ := g4
        obtain ⟨o5, e5, _⟩ := g5
        simp only [List.mem_cons, List.not_mem_nil, or_false] at hb
        rcases hb with rfl | rfl | rfl | rfl | rfl
        · exact ⟨_, g1⟩
        · exact ⟨_, g2⟩
        · exact ⟨_, g3⟩
        · exact ⟨_, e4⟩
        · exact ⟨_, e5⟩
      exact Nat.ne_of_lt (Heap.lt_size ‹_›)
    have keep : ∀ b ob, b ∉ [z, TO, i1, i2] → s.heap.get? b = some ob → h2.get? b = some ob := fun b ob hb e => by
      simp only [List.mem_cons, List.not_mem_nil, or_false, not_or] at hb
      obtain ⟨n1, n2, n3, n4⟩ := hb
      exact hs2.extBut b ob n1 (hk b ob n1 n2 n3 n4 e)
    have pT : IsPair h2 s.heap.objs.size u1 u2 := hs2.extBut _ _ (ltz z (by simp)).symm a5
    have c4 : h2.IsListIter i1 l1 (i + 1) := a3.extBut hs2.extBut D.i1z
    have c5 : h2.IsListIter i2 l2 (i + 1) := a4.extBut hs2.extBut D.i2z
    have c3 : IsPair h2 TO u1 u2 := hs2.extBut _ _ D.TOz a2
    have c2 : IsPair h2 TI (.ref i1) (.ref i2) := hs2.extBut _ _ D.TIz (hk _ _ D.TIz D.TITO D.TIi1 D.TIi2 g2)
    refine ⟨.ref s.heap.objs.size, upd H s.heap.objs.size (.tup [x, y]), ?_, rfl, ⟨_, hTn, rfl, fun xs' ys' q1' q2' => ?_⟩, ⟨b1, c2, ⟨_, _, c3⟩, c4, c5⟩, fun b hb => ?_⟩
    · refine I.turnedNew (t' := s.toks) (ch := [z, TO, i1, i2]) keep (fun b hb => ⟨hf b ?_, ?_⟩) (Nat.le_refl _) ?_
      · simp only [List.mem_cons, List.not_mem_nil, or_false] at hb ⊢
        rcases hb with rfl | rfl | rfl | rfl <;> simp
      · obtain ⟨o4, e4, _⟩ := c4
        obtain ⟨o5, e5, _⟩ := c5
        simp only [List.mem_cons, List.not_mem_nil, or_false] at hb
        rcases hb with rfl | rfl | rfl | rfl
        · exact ⟨_, b1⟩
        · exact ⟨_, c3⟩
        · exact ⟨_, e4⟩
        · exact ⟨_, e5⟩
      · exact ⟨by show 2 ≤ sizeLine; rw [sizeLine_eq]; decide, [u1, u2], .cons ru1 (.cons ru2 .nil), _, pT, rfl, _, rfl⟩
    · rw [I.list_inj q1' hq1, I.list_inj q2' hq2]
      exact ⟨x, y, hx, hy, rfl⟩
    · rw [upd_ne (ltz b hb)]
      exact (hf b hb).1
  done := by
    intro X hP hw hK hc i pins s σ H E I hf st hg
    subst hP hw hK
    obtain ⟨xs, ys, hq1, hq2, hx⟩ := hg
    obtain ⟨its1, rv1, p1, hz1⟩ := I.list hq1
    obtain ⟨its2, rv2, p2, hz2⟩ := I.list hq2
    obtain ⟨g1, g2, ⟨ta, tb, g3⟩, g4, g5⟩ := st
    have hl1 := rv1.length
    have hl2 := rv2.length
    refine wpAny_pyNext_zip_end (I.ok.hd hc) D g1 g2 g3 g4 g5 p1.isList p2.isList ?_ fun h' hk => ⟨rfl, I.turnedL (t' := s.toks) (ch := [z, TI, TO, i1, i2]) (fun b ob hb e => ?_) hf⟩
    · rcases hx with hx | hx
      · exact .inl (Array.getElem?_eq_none (by simp; omega))
      · exact .inr (Array.getElem?_eq_none (by simp; omega))
    · simp only [List.mem_cons, List.not_mem_nil, or_false, not_or] at hb
      obtain ⟨n1, n2, n3, n4, n5⟩ := hb
      exact hk b ob n1 n3 n4 n5 e
  self := fun _ _ _ _ _ st h => wpAny_pyIter_zip st.1 h
section
variable {X : Cx} {K : PySem.W.Frag}
def iZip (K : PySem.W.Frag) (ta : TA) : TI := fun σ H R => ta σ H fun vs H1 => ∃ a b xs ys, vs = [.ref a, .ref b] ∧ SqL K H1 a xs ∧ SqL K H1 b ys ∧ R (Itz K a b) H1
theorem pi_zip2 {a b : Expr} {ta : TA} {p pos tpos : Pos} {elts : List Expr} {x1 : Nat} (hK : X.K = K) (hg : Gl X "zip") (hm : X.mg "zip" = none) (ha : PA X [a, b] ta) (hs : starEach [a, b] X.env = (false, eval a X.env) :: starEach [b] X.env := by rfl)
    (hs2 : (backTo pos (starEach [b] X.env)).any (·.1) = false := by rfl) : PI X (.Tuple elts x1 tpos) (.Call (.Name "zip" p) [a, b] [] pos) (iZip K ta) := by
  subst hK
  intro pins s σ H R I h
  refine Call_ (ld_blt I hg hm boot_zip (PyProof.Rows.callWith_type1 (thn (ha pos pins s σ H _ I h) fun us s1 ⟨vs, H1, I1, r1, q1⟩ => ?_) hs hs2))
  obtain ⟨l1, l2, xs, ys, e, q1, q2, q⟩ := q1
  subst e
  obtain ⟨v1, v2, rfl, r1, r2⟩ := Vals.two r1
  cases r1
  cases r2
  obtain ⟨its1, rv1, p1, hz1⟩ := I1.list q1
  obtain ⟨its2, rv2, p2, hz2⟩ := I1.list q2
  refine call_zip_2 p1.isList p2.isList fun h' hz hTI hTO hi1 hi2 hsz hk => ?_
  refine wpAny_pyIter_zip hz ?_
  obtain ⟨o1, e1, _⟩ := p1.isList
  obtain ⟨o2, e2, _⟩ := p2.isList
  have L1 := Heap.lt_size e1
  have L2 := Heap.lt_size e2
  have I2 : Inv X pins σ H1 { s1 with heap := h' } := I1.kept (t' := s1.toks) hk
  have nn : ∀ k l : Nat, k ≠ l → s1.heap.objs.size + k ≠ s1.heap.objs.size + l := fun k l hkl z => hkl (Nat.add_left_cancel z)
  have n0 : ∀ k : Nat, 0 < k → s1.heap.objs.size ≠ s1.heap.objs.size + k := fun k hk => by omega
  have D : ZipApart (s1.heap.objs.size + 4) (s1.heap.objs.size + 2) (s1.heap.objs.size + 3) s1.heap.objs.size (s1.heap.objs.size + 1) l1 l2 := by
    have m1 : ∀ k : Nat, l1 ≠ s1.heap.objs.size + k := fun k => Nat.ne_of_lt (Nat.lt_of_lt_of_le L1 (Nat.le_add_right _ _))
    have m2 : ∀ k : Nat, l2 ≠ s1.heap.objs.size + k := fun k => Nat.ne_of_lt (Nat.lt_of_lt_of_le L2 (Nat.le_add_right _ _))
    exact ⟨nn 2 4 (by decide), nn 3 4 (by decide), n0 4 (by decide), nn 1 4 (by decide), nn 2 3 (by decide), (n0 2 (by decide)).symm, nn 2 1 (by decide), (n0 3 (by decide)).symm, nn 3 1 (by decide), n0 1 (by decide), m1 4, m1 3, m1 0, m1 1, m2 4, m2 3, m2 0, m2 1⟩
  refine ⟨s1.heap.objs.size + 4, _, _, Itz X.K l1 l2, H1, rfl, I2, turn_zip D, ⟨hz, hTI, ⟨_, _, hTO⟩, hi1, hi2⟩, fun b hb => ?_, q⟩
  have hge : s1.heap.objs.size ≤ b := by
    simp only [List.mem_cons, List.not_mem_nil, or_false] at hb
    rcases hb with rfl | rfl | rfl | rfl | rfl
    · exact Nat.le_add_right _ _
    · exact Nat.le_add_right _ _
    · exact Nat.le_add_right _ _
    · exact Nat.le_refl _
    · exact Nat.le_add_right _ _
  exact I1.fpOk hge (I1.hok.fresh hge)
theorem pg_tupK {es : List Expr} {k : Nat} {t : TGs} {n : Nat} {pos : Pos} (hK : X.K = K) (hc : X.calm = true) (h : PGs X es t)
    (hn : (assignEach es X.env).length = n := by rfl) (hst : (assignEach es X.env).findIdx? (·.1) = none := by rfl) : PG X (.Tuple es k pos) (gTup K n t) := hK ▸ pg_tup hc h hn hst
end
section
variable {σ : St} {H : Hp} {D : Ends} {nx bk ct : St → Hp → Prop} {rt : VK} {K : PySem.W.Frag} {Q : VK}
theorem r_zipAt {a b : Addr} {xs ys : List V} {P : Addr → Addr → Prop} (h1 : SqL K H a xs) (h2 : SqL K H b ys) (q : P a b) : ∃ a' b' xs ys, [V.ref a, V.ref b] = [.ref a', .ref b'] ∧ SqL K H a' xs ∧ SqL K H b' ys ∧ P a' b' := ⟨a, b, xs, ys, rfl, h1, h2, q⟩
end
theorem seq_cut {t u : TS} {nx bk ct : St → Hp → Prop} {rt : VK} {σ : St} {H : Hp} (M : St → Hp → Prop) (h1 : ∀ nx' : St → Hp → Prop, (∀ σ' H', M σ' H' → nx' σ' H') → t ⟨nx', rt, bk, ct⟩ σ H)
    (h2 : ∀ σ' H', M σ' H' → u ⟨nx, rt, bk, ct⟩ σ' H') : tSeq t u ⟨nx, rt, bk, ct⟩ σ H := h1 _ h2
/-! ### == of lists of flat values -/
section
variable {X : Cx} {K : PySem.W.Frag}
/-- the items one by one -/
def eqVs : List V → List V → Bool
  | [], [] => true
  | x :: xs, y :: ys => eqV x y && eqVs xs ys
  | _, _ => false
theorem eqVs_len : ∀ {xs ys : List V}, xs.length ≠ ys.length → eqVs xs ys = false
  | [], [], h => absurd rfl h
  | [], _ :: _, _ => rfl
  | _ :: _, [], _ => rfl
  | x :: xs, y :: ys, h => by
    unfold eqVs
    rw [eqVs_len (xs := xs) (ys := ys) (fun e => h (by simp [e])), Bool.and_false]
theorem eqVs_all : ∀ {xs ys : List V}, xs.length = ys.length → (List.range xs.length).all (fun j => eqV (xs.getD j .non) (ys.getD j .non)) = eqVs xs ys
  | [], [], _ => rfl
  | x :: xs, y :: ys, h => by
    have ih := eqVs_all (xs := xs) (ys := ys) (by simpa using h)
    rw [List.length_cons, List.range_succ_eq_map, List.all_cons, List.all_map]
    unfold eqVs
    rw [← ih]
    rfl
def rEqL (K : PySem.W.Frag) : R2 := fun x y H Q => ∃ a b xs ys, x = .ref a ∧ y = .ref b ∧ SqL K H a xs ∧ SqL K H b ys ∧ xs.all flatV = true ∧ ys.all flatV = true ∧ Q (.bl (eqVs xs ys)) H
theorem op_eqL (hu : X.A.units < cLine) : OpR X (compareOp .Eq) (rEqL X.K) := by
  intro pins s σ H x y v u Q I rx ry h
  obtain ⟨a, b, xs, ys, rfl, rfl, h1, h2, f1, f2, q⟩ := h
  cases rx
  cases ry
  obtain ⟨its1, r1, p1, z1⟩ := I.list h1
  obtain ⟨its2, r2, p2, z2⟩ := I.list h2
  have l1 := r1.length
  have l2 := r2.length
  by_cases hl : xs.length = ys.length
  · refine SeqAt.eq_listAt (e := fun j => eqV (xs.getD j .non) (ys.getD j .non)) p1.isList p2.isList (by simp; omega) hu (fun j h1 h2 => ?_) ⟨.bl _, H, I, rfl, ?_⟩
    · simp only [List.size_toArray] at h1 h2
      have e1 : xs[j]? = some (xs.getD j .non) := by rw [List.getD_eq_getElem?_getD, List.getElem?_eq_getElem (by omega)]; rfl
      have e2 : ys[j]? = some (ys.getD j .non) := by rw [List.getD_eq_getElem?_getD, List.getElem?_eq_getElem (by omega)]; rfl
      obtain ⟨u1, a1, b1⟩ := r1.get e1
      obtain ⟨u2, a2, b2⟩ := r2.get e2
      have c1 : its1.toArray[j] = u1 := by simpa [List.getElem?_eq_getElem h1] using a1
      have c2 : its2.toArray[j] = u2 := by simpa [List.getElem?_eq_getElem h2] using a2
      rw [c1, c2]
      exact eqAt_V b1 b2 (List.all_eq_true.mp f1 _ (List.mem_of_getElem? e1)) (List.all_eq_true.mp f2 _ (List.mem_of_getElem? e2))
    · have e : its1.toArray.size = xs.length := by simp; omega
      rw [e, eqVs_all hl]
      exact q
  · refine SeqAt.eq_list_lengthsAt p1.isList p2.isList (by simp; omega) hu ⟨.bl false, H, I, rfl, ?_⟩
    rw [← eqVs_len hl]
    exact q
def rEqGL (K : PySem.W.Frag) : R2 := fun x y H Q => rEq x y H Q ∨ rEqL K x y H Q
theorem op_eqGL (h : X.K = K) (hu : X.A.units < cLine) : OpR X (compareOp .Eq) (rEqGL K) := op_eq.or (h ▸ op_eqL hu)
end
section
variable {H : Hp} {K : PySem.W.Frag} {Q : VK} {i j : Int}
theorem r_eqGLI (q : Q (.bl (decide (i = j))) H) : rEqGL K (.int i) (.int j) H Q := .inl (r_eqI q)
theorem r_eqGLB {a b : Bool} (q : Q (.bl (decide (a = b))) H) : rEqGL K (.bl a) (.bl b) H Q := .inl (r_eqB q)
/-- in, not in: an int among ints -/
theorem inV_int {x : Int} {xs : List Int} : inV (.int x) (xs.map V.int) = decide (x ∈ xs) := by
  unfold inV
  rw [Bool.eq_iff_iff, List.any_eq_true]
  simp only [List.mem_map, decide_eq_true_eq]
  constructor
  · rintro ⟨v, ⟨y, hy, rfl⟩, e⟩
    have e' : y = x := by simpa [eqV] using e
    rw [← e']; exact hy
  · intro h
    exact ⟨_, ⟨x, h, rfl⟩, by simp [eqV]⟩
theorem r_inI {a : Addr} {xs : List Int} (h : SqL K H a (xs.map V.int)) (q : Q (.bl (decide (i ∈ xs))) H) : rIn K false (.int i) (.ref a) H Q :=
  ⟨a, _, rfl, .inl h, rfl, by simp [flatV], by rw [inV_int]; exact q⟩
end
end L2
namespace L2
open PySem PySem.Spec PyProof.Rows
/-! ### max(xs, default=d) of a list of ints -/
section
variable {prog : Program} {w : World} {A : Around} {R : Result → Shared → Prop}
end
section
variable {X : Cx} {K : PySem.W.Frag}
end
section
variable {σ : St} {H : Hp} {Q : VK} {K : PySem.W.Frag} {ta td : TE}
end
end L2
namespace Prf
open PySem PySem.Spec PyProof.Rows L2
/-- the cell of a script -/
def lawAt (ns : List Int) (k : Int) : Int := if (ns.length : Int) = 0 then 0 else ns.getD (k % ns.length).toNat 0 + k / ns.length
/-- a set of the papers 1 to 10, as a list -/
structure SetL (xs : List Int) : Prop where
  up : xs.Pairwise (· < ·)
  rng : ∀ x ∈ xs, 1 ≤ x ∧ x ≤ 10
  few : xs.length ≤ 10
/-- a set of the papers 1 to m, as a list -/
structure SetM (m : Int) (xs : List Int) : Prop where
  up : xs.Pairwise (· < ·)
  rng : ∀ x ∈ xs, 1 ≤ x ∧ x ≤ m
theorem SetM.len {m : Int} : ∀ {xs : List Int} {l : Int}, xs.Pairwise (· < ·) → (∀ x ∈ xs, l < x ∧ x ≤ m) → l ≤ m → (xs.length : Int) ≤ m - l
  | [], l, _, _, h => by simp; omega
  | x :: r, l, hp, hb, h => by
    obtain ⟨h1, h2⟩ := List.pairwise_cons.mp hp
    have hx := hb x List.mem_cons_self
    have := SetM.len (l := x) h2 (fun y hy => ⟨h1 y hy, (hb y (List.mem_cons_of_mem _ hy)).2⟩) hx.2
    rw [List.length_cons]
    omega
theorem SetM.few {m : Int} {xs : List Int} (h : SetM m xs) (m0 : 0 ≤ m) : (xs.length : Int) ≤ m := by
  have := SetM.len (l := 0) h.up (fun x hx => by have := h.rng x hx; omega) m0
  omega
/-- what a reader can take of a set, paper by paper; the sum over the readers -/
def takeStep (hs : List Int) (r : List Int) (n : Int) (x : Int) : Int := if r.getD 0 0 ≠ hs.getD (x - 1).toNat 0 ∧ n < r.getD 1 0 then n + 1 else n
def takenB (hs : List Int) (r : List Int) (xs : List Int) : Int := xs.foldl (takeStep hs r) 0
def spaceB (hs : List Int) (rs : List (List Int)) (xs : List Int) : Int := (rs.map fun r => takenB hs r xs).sum
theorem getD_mem {α : Type} {xs : List α} {d : α} {i : Nat} (h : i < xs.length) : xs.getD i d ∈ xs := by
  rw [List.getD_eq_getElem?_getD, List.getElem?_eq_getElem h]
  exact List.getElem_mem h
end Prf
namespace L2
open PySem PySem.Spec PyProof.Rows
section
variable {X : Cx} {K : PySem.W.Frag}
/-! ### min and max of two, great divisors, list(range(..)) -/
def CBig (i j : Int) : Prop := 0 < j ∧ j < 2 ^ 200
theorem op_fdivB : OpR X (binaryOp .FloorDiv) (rI CBig fun i j => .int (i / j)) := opI fun i j _ _ _ _ _ hc q => by
  obtain ⟨h1, h2⟩ := hc
  have hl : j.natAbs.log2 < 9000 := by
    have h3 : j.natAbs < 2 ^ 200 := by
      have e : (j.natAbs : Int) = j := Int.natAbs_of_nonneg (by omega)
      have : (j.natAbs : Int) < ((2 ^ 200 : Nat) : Int) := by rw [e]; exact h2
      exact Int.ofNat_lt.mp this
    have h4 : j.natAbs.log2 < 200 := (Nat.log2_lt (by omega)).mpr h3
    omega
  refine floordiv_int (by omega) ?_ (.inl (PyProof.noPylong_of_log2 hl))
  rw [Int.fdiv_eq_ediv_of_nonneg i (by omega)]
  exact q
end
section
variable {σ : St} {H : Hp} {Q : VK} {K : PySem.W.Frag} {i j : Int} {p : Addr} {xs : List V} {ta : TA} {te : TE} {tl th : TO}
theorem r_divB {f : Int → Int → V} (c1 : 0 < j) (c2 : j < 2 ^ 200) (q : Q (f i j) H) : rI CBig f (.int i) (.int j) H Q := ⟨i, j, rfl, rfl, ⟨c1, c2⟩, q⟩
/-! slices -/
theorem r_sl {r : V → Option Int → Option Int → Hp → VK → Prop} (h : te σ H fun x H1 => tl σ H1 fun l H2 => th σ H2 fun u H3 => r x l u H3 Q) : tSl r te tl th σ H Q := h
theorem r_npart {QO : Option Int → Hp → Prop} (h : QO none H) : tNoPart σ H QO := h
theorem r_part {QO : Option Int → Hp → Prop} (h : te σ H fun x H1 => ∃ i, x = .int i ∧ QO (some i) H1) : tPart te σ H QO := h
theorem r_exint {P : Int → Prop} (h : P i) : ∃ k, V.int i = .int k ∧ P k := ⟨i, rfl, h⟩
theorem leaf_slice {lo hi : Option Int} (h : SqL K H p xs) (q : ∀ l H2, H l = none → Same H H2 → H2 l = some (.lst (cutV xs lo hi)) → Q (.ref l) H2) : rSlL K (.ref p) lo hi H Q := ⟨p, xs, rfl, h, fun l hl => q l _ hl (same_new hl) upd_same⟩
theorem cutV_to (k : Nat) : cutV xs none (some (k : Int)) = xs.take k := by
  unfold cutV
  rw [HT.sIx_none, HT.sIx_nat, List.drop_zero, Nat.sub_zero]
  by_cases h : k ≤ xs.length
  · rw [Nat.min_eq_left h]
  · rw [Nat.min_eq_right (by omega), List.take_of_length_le (Nat.le_refl _), List.take_of_length_le (by omega)]
/-! xs[i] = v -/
/-! xs.pop(i) -/
end
end L2
namespace Prf
open PySem PySem.Spec PyProof.Rows L2
/-- how many rows have x -/
def cntB (rows : List (List Int)) (x : Int) : Nat := (rows.filter fun r => decide (x ∈ r)).length
theorem cnt_range (rows : List (List Int)) (x : Int) : ((List.range rows.length).filter fun i => decide (x ∈ rows.getD i [])).length = cntB rows x := by
  unfold cntB
  induction rows with
  | nil => rfl
  | cons r rs ih =>
    rw [List.length_cons, List.range_succ_eq_map, List.filter_cons, List.filter_cons, List.filter_map, ]
    have e : ((fun i => decide (x ∈ (r :: rs).getD i [])) ∘ Nat.succ) = fun i => decide (x ∈ rs.getD i []) := by funext i; rfl
    rw [e]
    by_cases h : x ∈ r
    · simp only [List.getD_cons_zero, h, decide_true, if_true, List.length_cons, List.length_map]
      rw [ih]
    · simp only [List.getD_cons_zero, h, decide_false, Bool.false_eq_true, if_false, List.length_map]
      exact ih
/-- [row for row in rows if x in row] -/
theorem comp_cnt {K : PySem.W.Frag} {σ : L2.St} {H : Hp} {Q : VK} {js : List Nat} {tc : TT} {a : Addr} {ps : List Addr} {rows : List (List Int)} {x : Int} (h1 : SqL K H a (ps.map V.ref)) (h2 : ps.length = rows.length) (hz : rows.length ≤ 1000)
    (ht : ∀ i H' (Q' : Bool → Hp → Prop), i < rows.length → Same H H' → Q' (decide (x ∈ rows.getD i [])) H' → tc (some (.ref (ps.getD i 0)) :: capV js σ) H' Q')
    (hq : ∀ p H2 zs, H p = none → Same H H2 → H2 p = some (.lst zs) → zs.length = cntB rows x → Q (.ref p) H2) : CompI (Itl K a) js tc (tVar 0) σ H Q := by
  have ex : ∀ i, i < rows.length → (ps.map V.ref).getD i .non = .ref (ps.getD i 0) := fun i hi => by
    rw [List.getD_eq_getElem?_getD, List.getElem?_map, List.getElem?_eq_getElem (by omega), List.getD_eq_getElem?_getD, List.getElem?_eq_getElem (by omega)]
    rfl
  have hl : (ps.map V.ref).length = rows.length := by rw [List.length_map, h2]
  refine comp_pure (iter_list h1) (by rw [hl]; exact small1000 hz) (fun i => decide (x ∈ rows.getD i [])) (fun i => .ref (ps.getD i 0)) (fun i H' Q' hi s q => ?_) (fun i H' Q' hi s _ q => ?_) fun p hp => ?_
  · show tc (some ((ps.map V.ref).getD i .non) :: capV js σ) H' Q'
    rw [hl] at hi
    rw [ex i hi]
    exact ht i H' Q' hi s q
  · show tVar 0 (some ((ps.map V.ref).getD i .non) :: capV js σ) H' Q'
    rw [hl] at hi
    rw [ex i hi]
    exact r_var (i := 0) rfl q
  · refine hq p _ _ hp (same_new hp) upd_same ?_
    rw [List.length_map, hl, cnt_range]
end Prf
namespace L2
open PySem PySem.Spec PyProof.Rows
section
variable {X : Cx} {K : PySem.W.Frag}
/-! ### is None, is not None -/
def rIsN : R2 := fun x y H Q => y = .non ∧ Q (.bl (decide (x = .non))) H
def rNotN : R2 := fun x y H Q => y = .non ∧ Q (.bl (!decide (x = .non))) H
theorem op_isNN : OpR X (compareOp .Is) rIsN := op_isN
theorem op_notNN : OpR X (compareOp .IsNot) rNotN := op_notN
/-! products of great numbers -/
end
section
variable {σ : St} {H : Hp} {Q : VK} {K : PySem.W.Frag} {x : V}
theorem r_isN (q : Q (.bl (decide (x = .non))) H) : rIsN x .non H Q := ⟨rfl, q⟩
theorem r_notN (q : Q (.bl (!decide (x = .non))) H) : rNotN x .non H Q := ⟨rfl, q⟩
theorem filter_range (xs : List V) (c : V → Bool) : ((List.range xs.length).filter fun i => c (xs.getD i .non)).map (fun i => xs.getD i .non) = xs.filter c := by
  induction xs with
  | nil => rfl
  | cons y ys ih =>
    rw [List.length_cons, List.range_succ_eq_map, List.filter_cons, List.filter_map, List.filter_cons]
    have e : ((fun i => c ((y :: ys).getD i .non)) ∘ Nat.succ) = fun i => c (ys.getD i .non) := by funext i; rfl
    have e2 : ∀ l : List Nat, (l.map Nat.succ).map (fun i => (y :: ys).getD i .non) = l.map fun i => ys.getD i .non := fun l => by rw [List.map_map]; rfl
    rw [e]
    cases h : c y with
    | true =>
      simp only [List.getD_cons_zero, h, if_true, List.map_cons]
      rw [e2, ih]
    | false =>
      simp only [List.getD_cons_zero, h, Bool.false_eq_true, if_false]
      rw [e2, ih]
/-- [x for x in xs if c] -/
theorem comp_keep {js : List Nat} {tc : TT} {a : Addr} {xs : List V} (h : SqL K H a xs) (hz : xs.length ≤ 1000) (c : V → Bool)
    (ht : ∀ i H' (Q' : Bool → Hp → Prop), i < xs.length → Same H H' → Q' (c (xs.getD i .non)) H' → tc (some (xs.getD i .non) :: capV js σ) H' Q')
    (hq : ∀ p H2, H p = none → Same H H2 → H2 p = some (.lst (xs.filter c)) → Q (.ref p) H2) : CompI (Itl K a) js tc (tVar 0) σ H Q := by
  refine comp_pure (iter_list h) (small1000 hz) (fun i => c (xs.getD i .non)) (fun i => xs.getD i .non) ht (fun i H' Q' _ _ _ q => r_var (i := 0) rfl q) fun p hp => hq p _ hp (same_new hp) ?_
  rw [upd_same, filter_range]
end
end L2
namespace Prf
open PySem PySem.Spec PyProof.Rows L2
/-- rows of readers: right by the document -/
def pairB (rs : List (List Int)) (h : Int) (row : List Int) : Bool :=
  decide (row.length = 2) && row.all (fun x => decide (1 ≤ x) && decide (x ≤ (rs.length : Int)) && !decide ((rs.getD (x - 1).toNat []).getD 0 0 = h)) && decide (row.getD 0 0 < row.getD 1 0)
def rightB (hs : List Int) (rs rows : List (List Int)) : Bool :=
  decide (rows.length = hs.length) && (List.range hs.length).all (fun k => pairB rs (hs.getD k 0) (rows.getD k [])) && (List.range rs.length).all (fun k => decide ((cntB rows (0 + (k : Int) + 1) : Int) ≤ (rs.getD k []).getD 1 0))
/-! ### papers, readers and a dealing of them, drawn -/
/-- papers and readers within the document's bounds -/
structure InB (hs : List Int) (rs : List (List Int)) : Prop where
  lp : hs.length ≤ 10
  lr : rs.length ≤ 8
  hh : ∀ i, i < hs.length → 1 ≤ hs.getD i 0 ∧ hs.getD i 0 ≤ 6
  r2 : ∀ i, i < rs.length → (rs.getD i []).length = 2
  rh : ∀ i, i < rs.length → 0 ≤ (rs.getD i []).getD 0 0 ∧ (rs.getD i []).getD 0 0 ≤ 6
  rl : ∀ i, i < rs.length → 0 ≤ (rs.getD i []).getD 1 0 ∧ (rs.getD i []).getD 1 0 ≤ 30
/-- a paper's house and its row -/
structure PRow (c : Nat) (hB : Nat → Int) (h : Int) (row : List Int) : Prop where
  ex : ∃ x y : Nat, x < y ∧ y < c ∧ row = [(x : Int) + 1, (y : Int) + 1] ∧ h ≠ hB x ∧ h ≠ hB y
  rng : 1 ≤ h ∧ h ≤ 6
/-- what was drawn -/
structure Planted (least : Int) (hs : List Int) (rs rows : List (List Int)) : Prop where
  inb : InB hs rs
  two : 2 ≤ rs.length
  len : rows.length = hs.length
  low : least ≤ hs.length
  row2 : ∀ i, i < rows.length → (rows.getD i []).length = 2
  right : rightB hs rs rows = true
theorem PRow.pair {c : Nat} {hB : Nat → Int} {h : Int} {row : List Int} {rs : List (List Int)} (P : PRow c hB h row) (hl : rs.length = c) (hh : ∀ j, j < c → (rs.getD j []).getD 0 0 = hB j) : pairB rs h row = true := by
  obtain ⟨⟨x, y, h1, h2, rfl, h3, h4⟩, _⟩ := P
  unfold pairB
  have ex : ((x : Int) + 1 - 1).toNat = x := by omega
  have ey : ((y : Int) + 1 - 1).toNat = y := by omega
  simp only [List.length_cons, List.length_nil, decide_true, Bool.true_and, List.all_cons, List.all_nil, Bool.and_true, ex, ey, hh x (by omega), hh y h2, List.getD_cons_zero, List.getD_cons_succ]
  rw [decide_eq_true (show 1 ≤ (x : Int) + 1 by omega), decide_eq_true (show (x : Int) + 1 ≤ (rs.length : Int) by omega), decide_eq_false (fun z => h3 z.symm), decide_eq_true (show 1 ≤ (y : Int) + 1 by omega), decide_eq_true (show (y : Int) + 1 ≤ (rs.length : Int) by omega), decide_eq_false (fun z => h4 z.symm), decide_eq_true (show (x : Int) + 1 < (y : Int) + 1 by omega)]
  rfl
end Prf
/- When can each paper be given as many readers as it needs: the counting theorem, in whole numbers alone. -/
namespace Hall
def sm : Nat → (Nat → Nat) → Nat
  | 0, _ => 0
  | n+1, f => sm n f + f n
theorem sm_congr {n : Nat} {f g : Nat → Nat} (h : ∀ i, i < n → f i = g i) : sm n f = sm n g := by
  induction n with
  | zero => rfl
  | succ n ih => simp only [sm]; rw [ih (fun i hi => h i (by omega)), h n (by omega)]
theorem sm_add {n : Nat} {f g : Nat → Nat} : sm n (fun i => f i + g i) = sm n f + sm n g := by
  induction n with
  | zero => rfl
  | succ n ih => simp only [sm]; rw [ih]; omega
theorem sm_le {n : Nat} {f g : Nat → Nat} (h : ∀ i, i < n → f i ≤ g i) : sm n f ≤ sm n g := by
  induction n with
  | zero => exact Nat.le_refl _
  | succ n ih =>
    simp only [sm]
    have := ih (fun i hi => h i (by omega)); have := h n (by omega); omega
theorem sm_zero {n : Nat} : sm n (fun _ => 0) = 0 := by
  induction n with
  | zero => rfl
  | succ n ih => simp only [sm]; omega
theorem sm_swap {n m : Nat} {f : Nat → Nat → Nat} :
    sm n (fun i => sm m (fun j => f i j)) = sm m (fun j => sm n (fun i => f i j)) := by
  induction n with
  | zero => simp only [sm]; rw [sm_zero]
  | succ n ih => simp only [sm]; rw [ih, sm_add]
theorem sm_eq_all {n : Nat} {f g : Nat → Nat} (h : ∀ i, i < n → f i ≤ g i) (e : sm n g ≤ sm n f) :
    ∀ i, i < n → f i = g i := by
  induction n with
  | zero => intro i hi; omega
  | succ n ih =>
    simp only [sm] at e
    have h1 := sm_le (fun i hi => h i (by omega) : ∀ i, i < n → f i ≤ g i)
    have h2 := h n (by omega)
    intro i hi
    by_cases hn : i = n
    · subst hn; omega
    · exact ih (fun i hi => h i (by omega)) (by omega) i (by omega)
theorem sm_one {n p : Nat} {f : Nat → Nat} (hp : p < n) (h : ∀ i, i < n → i ≠ p → f i = 0) : sm n f = f p := by
  induction n with
  | zero => omega
  | succ n ih =>
    simp only [sm]
    by_cases hn : p = n
    · subst hn
      have : sm p f = sm p (fun _ => 0) := sm_congr (fun i hi => h i (by omega) (by omega))
      rw [this, sm_zero]; omega
    · rw [ih (by omega) (fun i hi hne => h i (by omega) hne), h n (by omega) (by omega)]; omega
theorem sm_pos {n : Nat} {f : Nat → Nat} (h : 0 < sm n f) : ∃ i, i < n ∧ 0 < f i := by
  induction n with
  | zero => simp [sm] at h
  | succ n ih =>
    simp only [sm] at h
    by_cases hn : 0 < f n
    · exact ⟨n, by omega, hn⟩
    · obtain ⟨i, hi, hf⟩ := ih (by omega); exact ⟨i, by omega, hf⟩
theorem sm_lt {n p : Nat} {f g : Nat → Nat} (hp : p < n) (h : ∀ i, i < n → f i ≤ g i) (hl : f p < g p) :
    sm n f < sm n g := by
  have h1 := sm_le h
  rcases Nat.lt_or_ge (sm n f) (sm n g) with h2 | h2
  · exact h2
  · have := sm_eq_all h h2 p hp; omega
def b2 (b : Bool) : Nat := if b then 1 else 0
@[simp] theorem b2_t : b2 true = 1 := rfl
@[simp] theorem b2_f : b2 false = 0 := rfl
def deg (n : Nat) (A : Nat → Nat → Bool) (S : Nat → Bool) (r : Nat) : Nat := sm n fun p => b2 (S p && A p r)
def room (n m : Nat) (L : Nat → Nat) (A : Nat → Nat → Bool) (S : Nat → Bool) : Nat := sm m fun r => min (L r) (deg n A S r)
def need (n : Nat) (d : Nat → Nat) (S : Nat → Bool) : Nat := sm n fun p => if S p then d p else 0
def Ok (n m : Nat) (L d : Nat → Nat) (A : Nat → Nat → Bool) : Prop := ∀ S, need n d S ≤ room n m L A S
variable {n m : Nat} {L d : Nat → Nat} {A : Nat → Nat → Bool}
theorem deg_mod {S T : Nat → Bool} {r : Nat} :
    deg n A (fun p => S p && T p) r + deg n A (fun p => S p || T p) r = deg n A S r + deg n A T r := by
  unfold deg
  rw [← sm_add, ← sm_add]
  apply sm_congr
  intro i _
  show b2 ((S i && T i) && A i r) + b2 ((S i || T i) && A i r) = b2 (S i && A i r) + b2 (T i && A i r)
  cases S i <;> cases T i <;> cases A i r <;> rfl
theorem need_mod {S T : Nat → Bool} :
    need n d (fun p => S p && T p) + need n d (fun p => S p || T p) = need n d S + need n d T := by
  unfold need
  rw [← sm_add, ← sm_add]
  apply sm_congr
  intro i _
  show (if S i && T i then d i else 0) + (if S i || T i then d i else 0) = (if S i then d i else 0) + (if T i then d i else 0)
  cases S i <;> cases T i <;> simp
theorem deg_mono {S T : Nat → Bool} (h : ∀ p, S p = true → T p = true) {r : Nat} : deg n A S r ≤ deg n A T r := by
  apply sm_le
  intro i _
  have h' := h i
  show b2 (S i && A i r) ≤ b2 (T i && A i r)
  revert h'
  cases S i <;> cases T i <;> cases A i r <;> simp
theorem room_sub {S T : Nat → Bool} :
    room n m L A (fun p => S p && T p) + room n m L A (fun p => S p || T p) ≤ room n m L A S + room n m L A T := by
  unfold room
  rw [← sm_add, ← sm_add]
  apply sm_le
  intro r _
  have h1 := deg_mod (n := n) (A := A) (S := S) (T := T) (r := r)
  have h2 : deg n A (fun p => S p && T p) r ≤ deg n A S r := deg_mono (fun p h => by simp at h; exact h.1)
  have h3 : deg n A (fun p => S p && T p) r ≤ deg n A T r := deg_mono (fun p h => by simp at h; exact h.2)
  omega
theorem tight_cap (hA : Ok n m L d A) {S T : Nat → Bool} (hS : room n m L A S = need n d S)
    (hT : room n m L A T = need n d T) :
    room n m L A (fun p => S p && T p) = need n d (fun p => S p && T p) := by
  have h1 := room_sub (n := n) (m := m) (L := L) (A := A) (S := S) (T := T)
  have h2 := need_mod (n := n) (d := d) (S := S) (T := T)
  have h3 := hA (fun p => S p && T p)
  have h4 := hA (fun p => S p || T p)
  omega
def cut (A : Nat → Nat → Bool) (p r : Nat) : Nat → Nat → Bool := fun q s => A q s && !(q == p && s == r)
theorem cut_sub {p r q s : Nat} (h : cut A p r q s = true) : A q s = true := by
  unfold cut at h; simp at h; exact h.1
theorem deg_cut_ne {p r s : Nat} (h : s ≠ r) {S : Nat → Bool} : deg n (cut A p r) S s = deg n A S s := by
  unfold deg cut
  apply sm_congr
  intro i _
  have : (s == r) = false := by simp [h]
  simp [this]
theorem deg_cut_eq {p r : Nat} (hp : p < n) {S : Nat → Bool} :
    deg n (cut A p r) S r + b2 (S p && A p r) = deg n A S r := by
  unfold deg
  have : b2 (S p && A p r) = sm n (fun q => b2 (q == p && (S p && A p r))) := by
    rw [sm_one hp]
    · simp
    · intro i _ hi
      have : (i == p) = false := by simp [hi]
      simp [this]
  rw [this, ← sm_add]
  apply sm_congr
  intro i _
  unfold cut
  by_cases hi : i = p
  · subst hi
    cases S i <;> cases A i r <;> simp
  · have : (i == p) = false := by simp [hi]
    simp [this]
theorem deg_out {p r : Nat} (hp : p < n) {S : Nat → Bool} (hS : S p = true) :
    deg n A (fun q => S q && !(q == p)) r + b2 (A p r) = deg n A S r := by
  unfold deg
  have : b2 (A p r) = sm n (fun q => b2 (q == p && A p r)) := by
    rw [sm_one hp]
    · simp
    · intro i _ hi
      have : (i == p) = false := by simp [hi]
      simp [this]
  rw [this, ← sm_add]
  apply sm_congr
  intro i _
  by_cases hi : i = p
  · subst hi
    simp [hS]
  · have : (i == p) = false := by simp [hi]
    simp [this]
theorem need_out {p : Nat} (hp : p < n) {S : Nat → Bool} (hS : S p = true) :
    need n d (fun q => S q && !(q == p)) + d p = need n d S := by
  unfold need
  have : d p = sm n (fun q => if q == p then d p else 0) := by
    rw [sm_one hp]
    · simp
    · intro i _ hi
      have : (i == p) = false := by simp [hi]
      simp [this]
  rw [this, ← sm_add]
  apply sm_congr
  intro i _
  by_cases hi : i = p
  · subst hi
    simp [hS]
  · have : (i == p) = false := by simp [hi]
    simp [this]
/-- what a set says where the edge can't be spared -/
theorem tight_of (hA : Ok n m L d A) {p r : Nat} (hp : p < n) (hr : r < m) (ha : A p r = true)
    (hn : ¬ Ok n m L d (cut A p r)) :
    ∃ S, room n m L A S = need n d S ∧ S p = true ∧ deg n A S r ≤ L r := by
  have hn' : ∃ S, ¬ need n d S ≤ room n m L (cut A p r) S := by
    apply Classical.byContradiction
    intro hc
    exact hn (fun S => Classical.byContradiction fun h => hc ⟨S, h⟩)
  obtain ⟨S, hS⟩ := hn'
  have h1 := hA S
  -- the room drops by at most one, at r
  have hle : ∀ s, s < m → min (L s) (deg n (cut A p r) S s) ≤ min (L s) (deg n A S s) := by
    intro s _
    by_cases h : s = r
    · subst h
      have := deg_cut_eq (A := A) (r := s) hp (S := S)
      omega
    · rw [deg_cut_ne h]; exact Nat.le_refl _
  have hd : room n m L A S ≤ room n m L (cut A p r) S + (min (L r) (deg n A S r) - min (L r) (deg n (cut A p r) S r)) := by
    unfold room
    have : min (L r) (deg n A S r) - min (L r) (deg n (cut A p r) S r)
        = sm m (fun s => if s = r then min (L r) (deg n A S r) - min (L r) (deg n (cut A p r) S r) else 0) := by
      rw [sm_one hr]
      · simp
      · intro i _ hi; simp [hi]
    rw [this, ← sm_add]
    apply sm_le
    intro s hs
    by_cases h : s = r
    · subst h; simp; omega
    · simp [h, deg_cut_ne h]
  have hc := deg_cut_eq (A := A) (r := r) hp (S := S)
  rw [ha] at hc
  simp only [Bool.and_true] at hc
  refine ⟨S, ?_, ?_, ?_⟩
  · cases hSp : S p
    · rw [hSp, b2_f] at hc; omega
    · rw [hSp, b2_t] at hc; omega
  · cases hSp : S p
    · rw [hSp, b2_f] at hc; omega
    · rfl
  · cases hSp : S p
    · rw [hSp, b2_f] at hc; omega
    · rw [hSp, b2_t] at hc; omega
theorem no_spare (hA : Ok n m L d A) {p : Nat} (hp : p < n) (hd : d p < sm m (fun r => b2 (A p r)))
    (hn : ∀ r, r < m → A p r = true → ¬ Ok n m L d (cut A p r)) : False := by
  have h0 : ∃ r, r < m ∧ 0 < b2 (A p r) := sm_pos (by omega)
  obtain ⟨r0, hr0, hb0⟩ := h0
  have ha0 : A p r0 = true := by cases h : A p r0 <;> simp_all
  have key : ∀ k, k ≤ m → ∃ T, room n m L A T = need n d T ∧ T p = true ∧ ∀ r, r < k → A p r = true → deg n A T r ≤ L r := by
    intro k
    induction k with
    | zero =>
      intro _
      obtain ⟨S, h1, h2, _⟩ := tight_of hA hp hr0 ha0 (hn r0 hr0 ha0)
      exact ⟨S, h1, h2, fun r hr => by omega⟩
    | succ k ih =>
      intro hk
      obtain ⟨T, h1, h2, h3⟩ := ih (by omega)
      cases hak : A p k
      · refine ⟨T, h1, h2, fun r hr ha => ?_⟩
        by_cases h : r = k
        · subst h; rw [hak] at ha; simp at ha
        · exact h3 r (by omega) ha
      · obtain ⟨S, g1, g2, g3⟩ := tight_of hA hp (by omega) hak (hn k (by omega) hak)
        refine ⟨fun q => T q && S q, tight_cap hA h1 g1, by simp [h2, g2], fun r hr ha => ?_⟩
        have m1 : deg n A (fun q => T q && S q) r ≤ deg n A T r := deg_mono (fun q h => by simp at h; exact h.1)
        have m2 : deg n A (fun q => T q && S q) r ≤ deg n A S r := deg_mono (fun q h => by simp at h; exact h.2)
        by_cases h : r = k
        · subst h; omega
        · have := h3 r (by omega) ha; omega
  obtain ⟨T, h1, h2, h3⟩ := key m (Nat.le_refl _)
  have e1 : room n m L A T = room n m L A (fun q => T q && !(q == p)) + sm m (fun r => b2 (A p r)) := by
    unfold room
    rw [← sm_add]
    apply sm_congr
    intro r hr
    have e := deg_out (A := A) (r := r) hp h2
    cases ha : A p r
    · rw [ha] at e; simp at e; simp; omega
    · have := h3 r hr ha
      rw [ha] at e; simp at e; simp; omega
  have e2 := need_out (d := d) hp h2
  have e3 := hA (fun q => T q && !(q == p))
  omega
def edges (n m : Nat) (A : Nat → Nat → Bool) : Nat := sm n fun p => sm m fun r => b2 (A p r)
theorem edges_cut {p r : Nat} (hp : p < n) (hr : r < m) (ha : A p r = true) :
    edges n m (cut A p r) < edges n m A := by
  have hle : ∀ q s, b2 (cut A p r q s) ≤ b2 (A q s) := by
    intro q s
    show b2 (A q s && !(q == p && s == r)) ≤ b2 (A q s)
    cases A q s <;> cases (q == p) <;> cases (s == r) <;> simp
  apply sm_lt hp
  · intro q _; exact sm_le (fun s _ => hle q s)
  · apply sm_lt hr
    · intro s _; exact hle p s
    · unfold cut; simp [ha]
/-- THE THEOREM: where every set of papers has room enough, the readers can be given. -/
theorem hall : ∀ k (A : Nat → Nat → Bool), edges n m A ≤ k → Ok n m L d A →
    ∃ B : Nat → Nat → Bool, (∀ p r, B p r = true → A p r = true) ∧
      (∀ p, p < n → sm m (fun r => b2 (B p r)) = d p) ∧ (∀ r, r < m → sm n (fun p => b2 (B p r)) ≤ L r) := by
  intro k
  induction k with
  | zero =>
    intro A he hA
    -- no edge at all: nothing is needed
    refine ⟨A, fun _ _ h => h, ?_, ?_⟩
    · intro p hp
      have h0 : sm m (fun r => b2 (A p r)) = 0 := by
        have := sm_eq_all (n := n) (f := fun _ => 0) (g := fun p => sm m fun r => b2 (A p r)) (fun _ _ => by omega)
          (by rw [sm_zero]; exact he) p hp
        exact this.symm
      have h1 := hA (fun q => q == p)
      have h2 : need n d (fun q => q == p) = d p := by
        unfold need; rw [sm_one hp]
        · simp
        · intro i _ hi; simp [hi]
      have h3 : room n m L A (fun q => q == p) ≤ sm m (fun r => b2 (A p r)) := by
        unfold room
        apply sm_le
        intro r _
        have : deg n A (fun q => q == p) r = b2 (A p r) := by
          unfold deg; rw [sm_one hp]
          · simp
          · intro i _ hi
            have : (i == p) = false := by simp [hi]
            simp [this]
        omega
      omega
    · intro r hr
      have h0 : sm n (fun p => b2 (A p r)) = 0 := by
        unfold edges at he
        rw [sm_swap] at he
        have := sm_eq_all (n := m) (f := fun _ => 0) (g := fun r => sm n fun p => b2 (A p r)) (fun _ _ => by omega)
          (by rw [sm_zero]; exact he) r hr
        exact this.symm
      omega
  | succ k ih =>
    intro A he hA
    by_cases hall : ∀ p, p < n → sm m (fun r => b2 (A p r)) = d p
    · refine ⟨A, fun _ _ h => h, hall, ?_⟩
      have h1 := hA (fun _ => true)
      have h2 : need n d (fun _ => true) = sm n (fun p => sm m (fun r => b2 (A p r))) := by
        unfold need; apply sm_congr; intro i hi; rw [hall i hi]; simp
      rw [h2, sm_swap] at h1
      unfold room at h1
      intro r hr
      have h3 := sm_eq_all (n := m) (f := fun r => min (L r) (deg n A (fun _ => true) r))
        (g := fun r => sm n (fun p => b2 (A p r)))
        (fun r _ => by
          have : deg n A (fun _ => true) r = sm n (fun p => b2 (A p r)) := by
            unfold deg; apply sm_congr; intro i _; simp
          show min _ _ ≤ _
          omega) h1 r hr
      omega
    · have : ∃ p, p < n ∧ sm m (fun r => b2 (A p r)) ≠ d p := by
        apply Classical.byContradiction
        intro hc
        exact hall (fun p hp => Classical.byContradiction fun h => hc ⟨p, hp, h⟩)
      obtain ⟨p, hp, hne⟩ := this
      have hge : d p ≤ sm m (fun r => b2 (A p r)) := by
        have h1 := hA (fun q => q == p)
        have h2 : need n d (fun q => q == p) = d p := by
          unfold need; rw [sm_one hp]
          · simp
          · intro i _ hi; simp [hi]
        have h3 : room n m L A (fun q => q == p) ≤ sm m (fun r => b2 (A p r)) := by
          unfold room
          apply sm_le
          intro r _
          have : deg n A (fun q => q == p) r = b2 (A p r) := by
            unfold deg; rw [sm_one hp]
            · simp
            · intro i _ hi
              have : (i == p) = false := by simp [hi]
              simp [this]
          omega
        omega
      by_cases hs : ∃ r, r < m ∧ A p r = true ∧ Ok n m L d (cut A p r)
      · obtain ⟨r, hr, ha, hok⟩ := hs
        have hlt := edges_cut (n := n) (m := m) hp hr ha
        obtain ⟨B, b1, b2', b3⟩ := ih (cut A p r) (by omega) hok
        exact ⟨B, fun q s h => cut_sub (b1 q s h), b2', b3⟩
      · exact (no_spare hA hp (by omega) (fun r hr ha hok => hs ⟨r, hr, ha, hok⟩)).elim
end Hall
namespace Hall
variable {n m : Nat} {L d : Nat → Nat} {A : Nat → Nat → Bool}
/-- a dealing: two readers a paper, the lesser first -/
structure Deal (n m : Nat) (L : Nat → Nat) (A : Nat → Nat → Bool) (D : Nat → Nat × Nat) : Prop where
  lt : ∀ p, p < n → (D p).1 < (D p).2
  hi : ∀ p, p < n → (D p).2 < m
  a : ∀ p, p < n → A p (D p).1 = true
  b : ∀ p, p < n → A p (D p).2 = true
  lim : ∀ r, r < m → sm n (fun p => b2 (r == (D p).1 || r == (D p).2)) ≤ L r
end Hall
namespace Prf
open PySem PySem.Spec PyProof.Rows L2
/-! ### there is a dealing just where no set is against it -/
def agB (hs : List Int) (rs : List (List Int)) (xs : List Int) : Bool := decide (spaceB hs rs xs < 2 * (xs.length : Int))
structure RightP (hs : List Int) (rs rows : List (List Int)) : Prop where
  len : rows.length = hs.length
  two : ∀ k, k < hs.length → (rows.getD k []).length = 2
  lo : ∀ k, k < hs.length → 1 ≤ (rows.getD k []).getD 0 0
  lt : ∀ k, k < hs.length → (rows.getD k []).getD 0 0 < (rows.getD k []).getD 1 0
  hi : ∀ k, k < hs.length → (rows.getD k []).getD 1 0 ≤ (rs.length : Int)
  a : ∀ k, k < hs.length → (rs.getD ((rows.getD k []).getD 0 0 - 1).toNat []).getD 0 0 ≠ hs.getD k 0
  b : ∀ k, k < hs.length → (rs.getD ((rows.getD k []).getD 1 0 - 1).toNat []).getD 0 0 ≠ hs.getD k 0
  lim : ∀ k, k < rs.length → (cntB rows ((k : Int) + 1) : Int) ≤ (rs.getD k []).getD 1 0
theorem getD_take {α : Type} {xs : List α} {d : α} {i k : Nat} (h : i < k) : (xs.take k).getD i d = xs.getD i d := by
  rw [List.getD_eq_getElem?_getD, List.getD_eq_getElem?_getD, List.getElem?_take, if_pos h]
theorem InB.take {hs : List Int} {rs : List (List Int)} (B : InB hs rs) (k : Nat) : InB hs (rs.take k) := by
  have hl : (rs.take k).length ≤ rs.length := by rw [List.length_take]; omega
  have hk : ∀ i, i < (rs.take k).length → i < k ∧ i < rs.length := fun i hi => by rw [List.length_take] at hi; omega
  refine ⟨B.lp, by have := B.lr; omega, B.hh, fun i hi => ?_, fun i hi => ?_, fun i hi => ?_⟩ <;> rw [getD_take (hk i hi).1]
  · exact B.r2 i (hk i hi).2
  · exact B.rh i (hk i hi).2
  · exact B.rl i (hk i hi).2
theorem InB.push {hs : List Int} {rs : List (List Int)} (B : InB hs rs) {h l : Int} (hr : rs.length < 8) (h0 : 0 ≤ h ∧ h ≤ 6) (h1 : 0 ≤ l ∧ l ≤ 30) : InB hs (rs ++ [[h, l]]) := by
  have g : ∀ i, i < (rs ++ [[h, l]]).length → (i < rs.length ∧ (rs ++ [[h, l]]).getD i [] = rs.getD i []) ∨ (rs ++ [[h, l]]).getD i [] = [h, l] := fun i hi => by
    by_cases e : i < rs.length
    · exact .inl ⟨e, getD_app_lt e⟩
    · rw [List.length_append] at hi
      have : i = rs.length := by simp only [List.length_cons, List.length_nil] at hi; omega
      subst this
      exact .inr getD_app_self
  refine ⟨B.lp, by rw [List.length_append]; simp only [List.length_cons, List.length_nil]; omega, B.hh, fun i hi => ?_, fun i hi => ?_, fun i hi => ?_⟩
  · rcases g i hi with ⟨e, g⟩ | g <;> rw [g]
    · exact B.r2 i e
    · rfl
  · rcases g i hi with ⟨e, g⟩ | g <;> rw [g]
    · exact B.rh i e
    · exact h0
  · rcases g i hi with ⟨e, g⟩ | g <;> rw [g]
    · exact B.rl i e
    · exact h1
theorem LL.push {K : PySem.W.Frag} {H : Hp} {p q : Addr} {rs : List (List Int)} {r : List Int} {ps : List Addr} (e : H p = some (.lst (ps.map V.ref ++ [.ref q]))) (hl : ps.length = rs.length) (hq : H q = some (.lst (r.map V.int)))
    (hall : ∀ i, i < rs.length → H (ps.getD i 0) = some (.lst ((rs.getD i []).map V.int))) : LL K H p (rs ++ [r]) := by
  have e' : ps.map V.ref ++ [.ref q] = (ps ++ [q]).map V.ref := by simp
  rw [e'] at e
  refine ⟨ps ++ [q], SqL.of e, by simp [hl], fun i hi => ?_⟩
  by_cases h : i < rs.length
  · rw [getD_app_lt (by omega), getD_app_lt h]; exact hall i h
  · have h2 : i = rs.length := by simp only [List.length_append, List.length_cons, List.length_nil] at hi; omega
    subst h2
    rw [getD_app_self, ← hl, getD_app_self]; exact hq
/-! ### the order of sets; the sets by their masks -/
def okFrom (m : Int) : Int → List Int → Bool
  | _, [] => true
  | l, x :: r => decide (l < x) && decide (x ≤ m) && okFrom m x r
theorem SetM.ok {m : Int} : ∀ {l : Int} {xs : List Int}, xs.Pairwise (· < ·) → (∀ x ∈ xs, l < x ∧ x ≤ m) → okFrom m l xs = true
  | l, [], _, _ => rfl
  | l, x :: r, h, b => by
    obtain ⟨h1, h2⟩ := List.pairwise_cons.mp h
    have hx := b x List.mem_cons_self
    unfold okFrom
    rw [decide_eq_true hx.1, decide_eq_true hx.2, SetM.ok h2 fun y hy => ⟨h1 y hy, (b y (List.mem_cons_of_mem _ hy)).2⟩]
    rfl
/-! ### marks -/
def agreeB (x y s : Int) : Bool := decide (x - y ≤ s ∧ y - x ≤ s)
def min2 (x y : Int) : Int := if y < x then y else x
def max2 (x y : Int) : Int := if y > x then y else x
def mark2 (x y s : Int) : List Int := if agreeB x y s then (if (x + y) % 2 = 1 then [x + y, 2] else [(x + y) / 2, 1]) else [min2 x y, 1]
def mid3 (x y z : Int) : Int := x + y + z - max2 (max2 x y) z - min2 (min2 x y) z
theorem mid3_mem (x y z : Int) : mid3 x y z = x ∨ mid3 x y z = y ∨ mid3 x y z = z := by
  unfold mid3 min2 max2
  repeat' split
  all_goals omega
def leftB (rs rows : List (List Int)) : List Int := (List.range rs.length).map fun k => (rs.getD k []).getD 1 0 - (cntB rows ((k : Int) + 1) : Int)
structure Low (top bottom t b : Int) : Prop where
  t0 : 0 ≤ t
  b1 : 1 ≤ b
  eq : t * bottom = top * b
  co : Int.gcd t b = 1
  tl : t ≤ top
  bl : b ≤ bottom
/-! ### papers and readers who do not suffice, drawn -/
structure Lack (hs : List Int) (rs : List (List Int)) (xs : List Int) : Prop where
  inb : InB hs rs
  one : 1 ≤ hs.length
  set : SetM hs.length xs
  ag : agB hs rs xs = true
end Prf
namespace Prf
open PySem PySem.Spec PyProof.Rows L2
/-! ### all ways to give each paper a pair, as numbers -/
end Prf
namespace L2
open PySem PySem.Spec PyProof.Rows
theorem sum_rng : ∀ (ns : List Int) (B : Int), 0 ≤ B → (∀ x ∈ ns, 0 ≤ x ∧ x ≤ B) → 0 ≤ ns.sum ∧ ns.sum ≤ B * ns.length
  | [], B, hB, _ => by simp
  | n :: ns, B, hB, h => by
    have h1 := h n List.mem_cons_self
    have h2 := sum_rng ns B hB fun x hx => h x (List.mem_cons_of_mem _ hx)
    rw [List.sum_cons, List.length_cons]
    have e : B * ((ns.length + 1 : Nat) : Int) = B * ns.length + B := by
      rw [Int.natCast_add, Int.mul_add]; simp
    omega
section
variable {X : Cx} {K : PySem.W.Frag}
def cSum (K : PySem.W.Frag) : List V → Hp → VK → Prop := fun xs H Q => ∃ (a : Addr) (ns : List Int), xs = [.ref a] ∧ SqL K H a (ns.map V.int) ∧ (∀ x ∈ ns, 0 ≤ x ∧ x ≤ 1000000) ∧ ns.length ≤ 1000 ∧ Q (.int ns.sum) H
theorem call_sumK (hK : X.K = K) (hc : X.calm = true) : CallR X (.builtin "sum") (cSum K) := by
  subst hK
  intro pins s σ H xs us Q I r h
  obtain ⟨a, ns, rfl, hl, hb, hz, q⟩ := h
  obtain ⟨u, rfl, ru⟩ := r.one
  cases ru
  obtain ⟨its, rv, pl, _⟩ := I.list hl
  have hi := intsAre_of rv
  have ha : AllInts its.toArray := hi.allInts
  obtain ⟨zs, ez⟩ := ha.items
  have en : zs.toList.map (·.1) = ns := by
    have h1 := nums_intItems zs
    rw [← ez] at h1
    rw [← h1]
    exact hi.numsOf
  refine sum_intList (xs := zs) (I.ok.hd hc) (by rw [← ez]; exact pl.isList) (fun j hj => ?_) fun h' tk t' k => ⟨.int ns.sum, H, I.kept k, ⟨t', ?_⟩, q⟩
  · rw [numAt_eq, preSum_eq, en]
    have hjn : j < ns.length := by rw [← en]; simpa using hj
    have h0 := hb (ns.getD j 0) (by rw [List.getD_eq_getElem?_getD, List.getElem?_eq_getElem hjn]; exact List.getElem_mem hjn)
    have h1 := sum_rng (ns.take (j + 1)) 1000000 (by decide) fun x hx => hb x (List.mem_of_mem_take hx)
    have h2 : ((ns.take (j + 1)).length : Int) ≤ 1000 := by rw [List.length_take]; omega
    exact ⟨⟨by omega, by omega⟩, ⟨by omega, by omega⟩⟩
  · rw [preSum_eq, en, List.take_of_length_le (by rw [← en]; simp)]
def cMinL (K : PySem.W.Frag) : List V → Hp → VK → Prop := fun xs H Q => ∃ (a : Addr) (ns : List Int), xs = [.ref a] ∧ SqL K H a (ns.map V.int) ∧ 0 < ns.length ∧ ∀ m ∈ ns, (∀ x ∈ ns, m ≤ x) → Q (.int m) H
theorem call_minL (hK : X.K = K) (hc : X.calm = true) : CallR X (.builtin "min") (cMinL K) := by
  subst hK
  intro pins s σ H xs us Q I r h
  obtain ⟨a, ns, rfl, hl, hz, q⟩ := h
  obtain ⟨u, rfl, ru⟩ := r.one
  cases ru
  obtain ⟨its, rv, pl, _⟩ := I.list hl
  have hi := intsAre_of rv
  have ha : AllInts its.toArray := hi.allInts
  obtain ⟨zs, ez⟩ := ha.items
  have en : zs.toList.map (·.1) = ns := by
    have h1 := nums_intItems zs
    rw [← ez] at h1
    rw [← h1]
    exact hi.numsOf
  have hs : 0 < zs.size := by
    have : zs.size = ns.length := by rw [← en]; simp
    omega
  refine min_intList (xs := zs) (I.ok.hd hc) (by rw [← ez]; exact pl.isList) hs fun v h' tk hv k => ?_
  obtain ⟨t, rfl⟩ := intItems_at hv
  obtain ⟨h1, h2⟩ := argBest_lt (numAt zs) (zs.size - 1)
  refine ⟨.int _, H, I.kept k, ⟨t, rfl⟩, q _ ?_ fun x hx => ?_⟩
  · rw [numAt_eq, ← en]
    exact getD_mem (by rw [List.length_map, Array.length_toList]; omega)
  · rw [← en] at hx
    obtain ⟨j, hj, ej⟩ := mem_getD (d := 0) hx
    rw [← ej]
    rw [List.length_map, Array.length_toList] at hj
    rw [← numAt_eq]
    exact h2 j (by omega)
def cSorted (K : PySem.W.Frag) : List V → Hp → VK → Prop := fun xs H Q => ∃ (a : Addr) (ns : List Int), xs = [.ref a] ∧ SqL K H a (ns.map V.int) ∧ ns.length < 64 ∧ ∀ ns' : List Int, ns'.Perm ns → ns'.Pairwise (· ≤ ·) → ∀ p, H p = none → Q (.ref p) (upd H p (.lst (ns'.map V.int)))
theorem call_sortedK (hK : X.K = K) : CallR X (.builtin "sorted") (cSorted K) := by
  subst hK
  intro pins s σ H xs us Q I r h
  obtain ⟨a, ns, rfl, hl, hz, q⟩ := h
  obtain ⟨u, rfl, ru⟩ := r.one
  cases ru
  obtain ⟨its, rv, pl, _⟩ := I.list hl
  have hi := intsAre_of rv
  have hlen : its.length < 64 := by rw [← rv.length, List.length_map]; exact hz
  refine sorted_ints pl.isList hi hlen fun out ns' a1 a2 a3 => ?_
  obtain ⟨e, he⟩ := sortedAll_at s.heap its out
  have hf : H (s.heap.objs.size + 1) = none := I.hok.fresh (Nat.le_succ _)
  refine ⟨.ref (s.heap.objs.size + 1), _, I.laid (t' := s.toks) (o := .lst (ns'.map V.int)) (fun b o x => sortedAll_old x) (Nat.le_succ _) ?_, rfl, q ns' a2 a3 _ hf⟩
  refine ⟨by rw [List.length_map, a2.length_eq, sizeLine_eq]; omega, out.toList, e, vals_ints a1, ?_⟩
  exact he
end
section
variable {σ : St} {H : Hp} {Q : VK} {K : PySem.W.Frag} {a : Addr} {ns : List Int} {bs : List Bool}
theorem leaf_sum (h : SqL K H a (ns.map V.int)) (hb : ∀ x ∈ ns, 0 ≤ x ∧ x ≤ 1000000) (hz : ns.length ≤ 1000) (q : Q (.int ns.sum) H) : cSum K [.ref a] H Q := ⟨a, ns, rfl, h, hb, hz, q⟩
theorem leaf_minL (h : SqL K H a (ns.map V.int)) (hz : 0 < ns.length) (q : ∀ m ∈ ns, (∀ x ∈ ns, m ≤ x) → Q (.int m) H) : cMinL K [.ref a] H Q := ⟨a, ns, rfl, h, hz, q⟩
theorem leaf_sorted (h : SqL K H a (ns.map V.int)) (hz : ns.length < 64) (q : ∀ ns' : List Int, ns'.Perm ns → ns'.Pairwise (· ≤ ·) → ∀ p H2, H p = none → Same H H2 → H2 p = some (.lst (ns'.map V.int)) → Q (.ref p) H2) : cSorted K [.ref a] H Q :=
  ⟨a, ns, rfl, h, hz, fun ns' h1 h2 p hp => q ns' h1 h2 p _ hp (same_new hp) upd_same⟩
end
end L2
namespace L2
open PySem PySem.Spec PyProof.Rows
section
variable {σ : St} {H : Hp} {Q : VK} {K : PySem.W.Frag} {js : List Nat} {te : TE} {tc : TT} {J : It} {n k : Nat} {x y : Nat → V} {g : TG} {w : Nat → St}
/-- a comprehension behind its source, with any target -/
def CompG (J : It) (k : Nat) (js : List Nat) (g : TG) (tc : TT) (te : TE) (σ : St) (H : Hp) (Q : VK) : Prop := ∀ p, H p = none →
  ∃ W : Nat → Nat → St → Hp → Prop, (∃ m, W 0 m (capS k js σ) (upd H p (.lst []))) ∧ ∀ i m σc H, W i m σc H →
    (J.stop i H ∧ Q (.ref p) H) ∨ (J.go i H ∧ ∃ N : St → Hp → Prop, (∀ σ' H', N σ' H' → ∃ m', m' < m ∧ W (i + 1) m' σ' H') ∧ ∀ x H', J.yld i H x H' →
      g x σc H' fun σ2 H2 => tc σ2 H2 fun b H3 => if b = true then te σ2 H3 fun v H4 => ∃ ys, H4 p = some (.lst ys) ∧ ys.length < sizeLine ∧ N σ2 (upd H4 p (.lst (ys ++ [v]))) else N σ2 H3)
theorem compG_of (h : CompG J 1 js (gName 0) tc te σ H Q) : CompI J js tc te σ H Q := h
/-- what a comprehension's source and target give, turn by turn -/
structure Turns (J : It) (n k : Nat) (js : List Nat) (σ : St) (g : TG) (w : Nat → St) (H : Hp) : Prop where
  len : ∀ i, (w i).length = k
  go : ∀ i H', Same H H' → i < n → J.go i H'
  stop : ∀ H', Same H H' → J.stop n H'
  yld : ∀ i H' v H2 (u : St) (N : St → Hp → Prop), Same H H' → i < n → u.length = k → J.yld i H' v H2 → (∀ H3, Same H' H3 → N (w i ++ capV js σ) H3) → g v (u ++ capV js σ) H2 N
theorem Turns.one (it : Iter J n x H) : Turns J n 1 js σ (gName 0) (fun i => [some (x i)]) H where
  len := fun _ => rfl
  go := it.go
  stop := it.stop
  yld := fun i H' v H2 u N s hi hu hy q => by
    obtain ⟨rfl, rfl⟩ := it.yld i H' v H2 s hi hy
    match u, hu with
    | [a], _ => exact q _ (Same.refl _)
/-- elements that are ints, the heap may grow -/
theorem comp_grow (T : Turns J n k js σ g w H) (hz : n ≤ 1000) (c : Nat → Bool) (f : Nat → V)
    (ht : ∀ i H' Q', i < n → Same H H' → (∀ H2, Same H' H2 → Q' (c i) H2) → tc (w i ++ capV js σ) H' Q')
    (he : ∀ i H' Q', i < n → Same H H' → c i = true → (∀ H2, Same H' H2 → Q' (f i) H2) → te (w i ++ capV js σ) H' Q')
    (hq : ∀ p H2, H p = none → Same H H2 → H2 p = some (.lst (((List.range n).filter c).map f)) → Q (.ref p) H2) : CompG J k js g tc te σ H Q := by
  intro p hp
  refine ⟨fun i m σc H' => m = n - i ∧ i ≤ n ∧ (∃ u : St, u.length = k ∧ σc = u ++ capV js σ) ∧ Same H H' ∧ H' p = some (.lst (((List.range i).filter c).map f)), ⟨n, by simp, Nat.zero_le _, ⟨List.replicate k none, List.length_replicate, rfl⟩, same_new hp, upd_same⟩, ?_⟩
  rintro i m σc H' ⟨rfl, hi, ⟨u, hu, rfl⟩, s, hpp⟩
  have hlen : (((List.range i).filter c).map f).length ≤ i := by
    rw [List.length_map]
    exact Nat.le_trans (List.length_filter_le _ _) (by simp)
  have hsl : n < sizeLine := small1000 hz
  by_cases hlt : i < n
  · refine .inr ⟨T.go i _ s hlt, fun σ' H' => (∃ u : St, u.length = k ∧ σ' = u ++ capV js σ) ∧ Same H H' ∧ H' p = some (.lst (((List.range (i + 1)).filter c).map f)), fun σ' H' ⟨h1, h2, h3⟩ => ⟨n - (i + 1), by omega, rfl, hlt, h1, h2, h3⟩, fun v H2 hy => ?_⟩
    have e : (List.range (i + 1)).filter c = (List.range i).filter c ++ if c i = true then [i] else [] := by
      rw [List.range_succ, List.filter_append]
      cases hc : c i <;> simp [hc]
    refine T.yld i H' v H2 u _ s hlt hu hy fun H3 s3 => ?_
    refine ht i _ _ hlt (s.trans s3) fun H4 s4 => ?_
    have s34 := s3.trans s4
    cases hc : c i with
    | false =>
      rw [if_neg Bool.false_ne_true]
      refine ⟨⟨w i, T.len i, rfl⟩, s.trans s34, ?_⟩
      rw [e, hc]
      simpa using s34 _ _ hpp
    | true =>
      rw [if_pos rfl]
      refine he i _ _ hlt (s.trans s34) hc fun H5 s5 => ?_
      refine ⟨_, s5 _ _ (s34 _ _ hpp), by omega, ⟨w i, T.len i, rfl⟩, same_upd ((s.trans s34).trans s5) hp, ?_⟩
      rw [upd_same, e, hc]
      simp
  · have e : i = n := by omega
    subst e
    exact .inl ⟨T.stop _ s, hq p _ hp s hpp⟩
/-- elements that are new lists of ints -/
theorem comp_rows (T : Turns J n k js σ g w H) (hz : n ≤ 1000) (f : Nat → List Int)
    (he : ∀ i H' Q', i < n → Same H H' → (∀ q H2, H' q = none → Same H' H2 → H2 q = some (.lst ((f i).map V.int)) → Q' (.ref q) H2) → te (w i ++ capV js σ) H' Q')
    (hq : ∀ p H2, RowsAt H p ((List.range n).map f) H2 → Q (.ref p) H2) : CompG J k js g tTT te σ H Q := by
  intro p hp
  refine ⟨fun i m σc H' => m = n - i ∧ i ≤ n ∧ (∃ u : St, u.length = k ∧ σc = u ++ capV js σ) ∧ RowsAt H p ((List.range i).map f) H', ⟨n, by simp, Nat.zero_le _, ⟨List.replicate k none, List.length_replicate, rfl⟩, RowsAt.start hp (same_new hp) upd_same⟩, ?_⟩
  rintro i m σc H' ⟨rfl, hi, ⟨u, hu, rfl⟩, R⟩
  have s := R.same
  have hsl : n < sizeLine := small1000 hz
  by_cases hlt : i < n
  · refine .inr ⟨T.go i _ s hlt, fun σ' H' => (∃ u : St, u.length = k ∧ σ' = u ++ capV js σ) ∧ RowsAt H p ((List.range (i + 1)).map f) H', fun σ' H' ⟨h1, h2⟩ => ⟨n - (i + 1), by omega, rfl, hlt, h1, h2⟩, fun v H2 hy => ?_⟩
    refine T.yld i H' v H2 u _ s hlt hu hy fun H3 s3 => ?_
    refine r_tt ?_
    rw [if_pos rfl]
    refine he i _ _ hlt (s.trans s3) fun q H4 f4 s4 e4 => ?_
    obtain ⟨zs, hzs, hzl⟩ := R.lst
    have hzn : zs.length = i := by rw [hzl]; simp
    have hp4 := s4 _ _ (s3 _ _ hzs)
    refine ⟨zs, hp4, by omega, ⟨w i, T.len i, rfl⟩, ?_⟩
    rw [List.range_succ, List.map_append]
    exact R.push (s3.free f4) (s3.trans s4) e4 hp4 But.upd upd_same
  · have e : i = n := by omega
    subst e
    exact .inl ⟨T.stop _ s, hq p _ R⟩
end
end L2
namespace L2
open PySem PySem.Spec PyProof.Rows
section
variable {prog : Program} {w : World} {A : Around} {E : Value → Shared → Prop} {s : Shared}
abbrev kwS (v : Value) : List (Str × Value) := [(Str.ofString "start", v)]
theorem enumK_type (a v : Value) : checkTypeCall "enumerate" ⟨[a], kwS v⟩ = pure () := by kernel_rfl
theorem enumK_new (a v : Value) : checkBuiltinCall "enumerate.__new__" ⟨[.type "enumerate", a], kwS v⟩ = pure () := by kernel_rfl
theorem enumK_init (a b v : Value) : argsOk "object.__init__" ⟨[a, b], kwS v⟩ := by unfold argsOk; kernel_rfl
theorem enumK_meets (l : Addr) (items : Array Value) (n : Nat) (dct : Option Addr) (sl : Array (Option Value)) (t : Tok) :
    Meets (Builtin.«enumerate.__new__» ⟨[.type "enumerate", .ref l], kwS (.int 1 t)⟩) (fun _ R s => s.heap.get? l = some { cls := .type "list", dict := dct, data := .seq items n, slots := sl } ∧
      R (.ok (.ret (.ref (s.heap.push { cls := .type "list_iterator", data := .fields #[.ref l, .int 0 0] }).objs.size)))
        { s with heap := (s.heap.push { cls := .type "list_iterator", data := .fields #[.ref l, .int 0 0] }).push { cls := .type "enumerate", data := .fields #[.none, .bool false, .ref s.heap.objs.size, rawInt 1, .none, .none] } }) :=
  .of_wp fun prog w A R s ⟨hl, h⟩ => by
    obtain ⟨hp, g, d, tk, os⟩ := s
    have hsub := sub_enumerate
    have hL : Heap.IsList (Shared.heap ⟨hp, g, d, tk, os⟩) l items := ⟨_, hl, rfl, n, rfl⟩
    wp_walk using AutoSeq1.wpAny_loadPart' hl
    refine wpAny_stack_any fun st => wpAny_pure ?_
    split
    · rename_i c _ _ _ _ _
      cases hcc : (c == Value.type "enumerate")
      · wp_walk using AutoSeq1.wpAny_loadPart' hl, wpAny_pyIter_list hL
        exact ⟨_, rfl, h⟩
      · wp_walk using AutoSeq1.wpAny_loadPart' hl, wpAny_pyIter_list hL
        exact ⟨_, rfl, h⟩
    · wp_walk using AutoSeq1.wpAny_loadPart' hl, wpAny_pyIter_list hL
      exact ⟨_, rfl, h⟩
theorem enumK_oinit (self a v : Value) : Meets (Builtin.«object.__init__» ⟨[self, a], kwS v⟩) (fun _ R s => s.TypeIs self "enumerate" ∧ R (.ok (.ret .none)) s) := by
  refine Meets.of_wp fun prog w A R s hs => ?_
  obtain ⟨hT, hq⟩ := hs
  have hl := F.called_enumerate.init.lookup
  have hm := F.called_enumerate.made
  have hne : (some "enumerate.__new__" != some "object.__new__") = true := by decide
  repeat (any_goals (first | (assumption) | wp_step))
  exact ⟨_, rfl, hq⟩
/-- enumerate(l, start=1) -/
theorem enumK_call {l : Addr} {items : Array Value} {t : Tok} {Q : Value → Shared → Prop} (hL : s.heap.IsList l items)
    (h : ∀ h', IsEnum h' (s.heap.objs.size + 1) s.heap.objs.size 1 .none → h'.IsListIter s.heap.objs.size l 0 → (∀ b o, s.heap.get? b = some o → h'.get? b = some o) → Q (.ref (s.heap.objs.size + 1)) { s with heap := h' }) :
    wpAny (model prog w) A (call (.type "enumerate") [.ref l] (kwS (.int 1 t))) Q E s := by
  obtain ⟨⟨c, dct, dt, sl⟩, hl, hc, n, hd⟩ := hL
  obtain rfl : c = .type "list" := hc
  obtain rfl : dt = .seq items n := hd
  have ft := F.called_enumerate
  obtain ⟨c0, tl, hmro⟩ := ft.mro
  have hmade := ft.made
  have hsub := ft.sub
  have hct := enumK_type (.ref l) (.int 1 t)
  refine wpAny_call (codeAny_of_tree ?_)
  show wpAny _ _ (callAny (.type "enumerate") _) _ _ _
  refine wpAny_pure ⟨Code.quiet_builtin _ (by decide +kernel), codeAny_builtin F.entry_type_call ?_⟩
  rw [Around.under_plain (weight_type_call_type "enumerate" [.ref l] (kwS (.int 1 t))) (units_type_call_type "enumerate" [.ref l] (kwS (.int 1 t)))]
  have n1 := ft.notType
  have n2 := ft.canCreate
  repeat (any_goals (first | (assumption) | wp_step))
  have hz : (s.heap.push { cls := .type "list_iterator", data := .fields #[.ref l, .int 0 0] }).objs.size = s.heap.objs.size + 1 := Heap.size_push ..
  let R0 : Result → Shared → Prop := fun r s' => r = .ok (.ret (.ref (s.heap.objs.size + 1))) ∧ ∃ h', s' = { s with heap := h' } ∧ IsEnum h' (s.heap.objs.size + 1) s.heap.objs.size 1 .none ∧ h'.IsListIter s.heap.objs.size l 0 ∧ (∀ b o, s.heap.get? b = some o → h'.get? b = some o)
  have key : codeAny (model prog w) A.in1 (Code.call (.builtin "enumerate.__new__") ⟨[.type "enumerate", .ref l], kwS (.int 1 t)⟩) R0 s := by
    refine codeAny_call_builtin ft.plain F.entry_enumerate_new (wpAny_of_eq (enumK_new _ _) (enumK_meets l items n dct sl t prog w A.in1 R0 s ⟨hl, ?_⟩))
    rw [hz]
    refine ⟨rfl, _, rfl, ?_, ⟨_, Heap.get?_push_of_some _ (Heap.get?_push_size _ rfl), rfl, rfl⟩, fun b o x => Heap.get?_push_of_some _ (Heap.get?_push_of_some _ x)⟩
    have e := Heap.get?_push_size (s.heap.push { cls := .type "list_iterator", data := .fields #[.ref l, .int 0 0] }) (o := { cls := .type "enumerate", data := .fields #[.none, .bool false, .ref s.heap.objs.size, rawInt 1, .none, .none] }) rfl
    rw [hz] at e
    exact e
  refine codeAny_mono key fun r s1 hr => ?_
  obtain ⟨rfl, h', rfl, a1, a2, a3⟩ := hr
  have hT : Shared.TypeIs { s with heap := h' } (.ref (s.heap.objs.size + 1)) "enumerate" := ⟨_, a1, rfl⟩
  have hli := ft.init.lookup
  have hbi := ft.init.bind (.ref (s.heap.objs.size + 1))
  repeat (any_goals (first | (assumption) | wp_step))
  let R1 : Result → Shared → Prop := fun r s' => r = .ok (.ret .none) ∧ s' = { s with heap := h' }
  have key2 : codeAny (model prog w) A.in1 (Code.call (.builtin "object.__init__") ⟨[.ref (s.heap.objs.size + 1), .ref l], kwS (.int 1 t)⟩) R1 { s with heap := h' } :=
    codeAny_call_builtin ft.init.plain F.entry_object_init (ft.init.check _ _ _ _ _ _ _ _ hT (enumK_init _ _ _) (enumK_oinit _ _ _ prog w A.in1 R1 _ ⟨hT, rfl, rfl⟩))
  refine codeAny_mono key2 fun r s2 hr => ?_
  obtain ⟨rfl, rfl⟩ := hr
  repeat (any_goals (first | (assumption) | wp_step))
  exact h _ a1 a2 a3
/-- one turn of an enumerate whose count is c -/
theorem enumC_next {e it l : Addr} {i : Nat} {c : Int} {xs : Array Value} {x old : Value} {Q : Value → Shared → Prop} (he : IsEnum s.heap e it c old) (hit : s.heap.IsListIter it l i) (hl : s.heap.IsList l xs) (hx : xs[i]? = some x) (ne : e ≠ it)
    (q : ∀ k, IsEnumOut k e it (c + 1) x s.heap.objs.size → k.IsListIter it l (i + 1) → k.get? s.heap.objs.size = some { cls := .type "tuple", data := .seq #[.int c s.toks, x] } →
      (∀ b o, b ≠ e → b ≠ it → s.heap.get? b = some o → k.get? b = some o) → Q (.ref s.heap.objs.size) { s with heap := k, toks := s.toks + 1 }) :
    wpAny (model prog w) A (Builtin.«enumerate.__next__» ⟨[.ref e], []⟩) (fun fin s' => ∃ v, fin = .done (.ret v) ∧ Q v s') E s := by
  obtain ⟨g0, ge, dr, tk, os⟩ := s
  have elt : e < g0.objs.size := Heap.lt_size he
  show wpAny _ _ (field (.ref e) 2 >>= _) _ _ _
  refine wpAny_bind (wpAny_field he rfl (x := .ref it) rfl (wpAny_bind (wpAny_nextOf_list_item hit hl hx fun g1 i1 b1 => ?_)))
  replace b1 : Heap.SameBut it g0 g1 := b1
  have e1 : IsEnum g1 e it c old := (b1.2 e ne).trans he
  show wpAny _ _ (field (.ref e) 3 >>= _) _ _ ⟨g1, ge, dr, tk, os⟩
  refine wpAny_bind (wpAny_field e1 rfl (x := rawInt c) rfl ?_)
  show wpAny _ _ (field (.ref e) 4 >>= _) _ _ ⟨g1, ge, dr, tk, os⟩
  refine wpAny_bind (wpAny_field e1 rfl (x := .none) rfl ?_)
  show wpAny _ _ (mkInt c >>= _) _ _ ⟨g1, ge, dr, tk, os⟩
  refine wpAny_bind (wpAny_mkInt ?_)
  show wpAny _ _ (setField (.ref e) 3 (rawInt (c + 1)) >>= _) _ _ ⟨g1, ge, dr, tk + 1, os⟩
  refine wpAny_bind (wpAny_setField_rec e1 (by simp) fun g2 e2 b2 => ?_)
  replace b2 : Heap.SameBut e g1 g2 := b2
  replace e2 : IsEnum g2 e it (c + 1) old := e2
  show wpAny _ _ (setField (.ref e) 4 .none >>= _) _ _ ⟨g2, ge, dr, tk + 1, os⟩
  refine wpAny_bind (wpAny_setField_rec e2 (by simp) fun g3 e3 b3 => ?_)
  replace b3 : Heap.SameBut e g2 g3 := b3
  replace e3 : IsEnum g3 e it (c + 1) old := e3
  show wpAny _ _ (newTuple [.int c tk, x] >>= _) _ _ ⟨g3, ge, dr, tk + 1, os⟩
  refine wpAny_bind (wpAny_newTuple ?_)
  have z3 : g3.objs.size = g0.objs.size := by rw [b3.1, b2.1, b1.1]
  have keep3 : ∀ b o, b ≠ e → b ≠ it → g0.get? b = some o → g3.get? b = some o := fun b o n1 n2 y => b3.extBut b o n1 (b2.extBut b o n1 (b1.extBut b o n2 y))
  have i3 : g3.IsListIter it l (i + 1) := (i1.extBut b2.extBut ne.symm).extBut b3.extBut ne.symm
  have e4 : IsEnum (g3.push { cls := .type "tuple", data := .seq #[.int c tk, x] }) e it (c + 1) old := Heap.get?_push_of_some _ e3
  have t4 : (g3.push { cls := .type "tuple", data := .seq #[.int c tk, x] }).get? g0.objs.size = some { cls := .type "tuple", data := .seq #[.int c tk, x] } := by rw [← z3]; exact Heap.get?_push_size _ rfl
  have keep4 : ∀ b o, b ≠ e → b ≠ it → g0.get? b = some o → (g3.push { cls := .type "tuple", data := .seq #[.int c tk, x] }).get? b = some o := fun b o n1 n2 y => Heap.get?_push_of_some _ (keep3 b o n1 n2 y)
  have i4 : (g3.push { cls := .type "tuple", data := .seq #[.int c tk, x] }).IsListIter it l (i + 1) := i3.at fun o y => Heap.get?_push_of_some _ y
  rw [z3]
  generalize g3.push { cls := .type "tuple", data := .seq #[.int c tk, x] } = g4 at e4 t4 keep4 i4
  show wpAny _ _ (Builtin.SmallTypes.ownedTupleIsFree (.ref e) >>= _) _ _ ⟨g4, ge, dr, tk + 1, os⟩
  refine wpAny_bind ?_
  unfold Builtin.SmallTypes.ownedTupleIsFree
  refine wpAny_bind (wpAny_field e4 rfl (x := .none) rfl (wpAny_pure ?_))
  simp only [if_true]
  refine wpAny_bind (wpAny_rule (wpAny_bind (wpAny_field e4 rfl (x := old) rfl (wpAny_bind (wpAny_setField_rec e4 (by simp) fun g5 e5 b5 => ?_)))))
  replace b5 : Heap.SameBut e g4 g5 := b5
  replace e5 : IsEnum g5 e it (c + 1) x := e5
  show wpAny _ _ (Builtin.SmallTypes.ownedTupleHandOut (.ref e) (.ref g0.objs.size) >>= _) _ _ ⟨g5, ge, dr, tk + 1, os⟩
  refine wpAny_bind ?_
  unfold Builtin.SmallTypes.ownedTupleHandOut
  refine wpAny_bind (wpAny_setField_rec e5 (by simp) fun g6 e6 b6 => ?_)
  replace b6 : Heap.SameBut e g5 g6 := b6
  replace e6 : IsEnumOut g6 e it (c + 1) x g0.objs.size := e6
  refine wpAny_setField_rec e6 (by simp) fun g7 e7 b7 => ?_
  replace b7 : Heap.SameBut e g6 g7 := b7
  have far : ∀ b o, b ≠ e → g4.get? b = some o → g7.get? b = some o := fun b o n1 y => b7.extBut b o n1 (b6.extBut b o n1 (b5.extBut b o n1 y))
  exact wpAny_bind (wpAny_letGo (wpAny_pure ⟨_, rfl, q g7 e7 (i4.at fun o y => far it o ne.symm y) (far _ _ (Nat.ne_of_gt elt) t4) fun b o n1 n2 y => far b o n1 (keep4 b o n1 n2 y)⟩))
theorem enumC_item {e it l : Addr} {i : Nat} {c : Int} {xs : Array Value} {x old : Value} {Q : Option Value → Shared → Prop} (he : IsEnum s.heap e it c old) (hit : s.heap.IsListIter it l i) (hl : s.heap.IsList l xs) (hx : xs[i]? = some x) (ne : e ≠ it)
    (q : ∀ k, IsEnumOut k e it (c + 1) x s.heap.objs.size → k.IsListIter it l (i + 1) → k.get? s.heap.objs.size = some { cls := .type "tuple", data := .seq #[.int c s.toks, x] } →
      (∀ b o, b ≠ e → b ≠ it → s.heap.get? b = some o → k.get? b = some o) → Q (some (.ref s.heap.objs.size)) { s with heap := k, toks := s.toks + 1 }) :
    wpAny (model prog w) A (pyNext (.ref e)) Q E s := by
  have hT : s.TypeIs (.ref e) "enumerate" := ⟨_, he, rfl⟩
  unfold pyNext
  refine wpAny_bind (wpAny_attempt (wpAny_callSpecial?_slot (name := Str.ofString "__next__") hT F.slot_enumerate_next (wpAny_call_entry F.slot_enumerate_next hT F.entry_enumerate_next ?_ (F.args_enumerate_next_1 _))))
  exact enumC_next he hit hl hx ne fun k a b d f => wpAny_pure (q k a b d f)
theorem enumC_end {e it l : Addr} {i : Nat} {c : Int} {xs : Array Value} {old : Value} {Q : Option Value → Shared → Prop} (hh : A.handled = none) (he : IsEnum s.heap e it c old) (hit : s.heap.IsListIter it l i) (hl : s.heap.IsList l xs) (hx : xs[i]? = none)
    (q : ∀ k, Heap.ExtBut it s.heap k → Q none { s with heap := k }) : wpAny (model prog w) A (pyNext (.ref e)) Q E s := by
  have hT : s.TypeIs (.ref e) "enumerate" := ⟨_, he, rfl⟩
  unfold pyNext
  refine wpAny_bind (wpAny_attempt (wpAny_callSpecial?_slot (name := Str.ofString "__next__") hT F.slot_enumerate_next (wpAny_call_entry F.slot_enumerate_next hT F.entry_enumerate_next ?_ (F.args_enumerate_next_1 _))))
  show wpAny _ _ (field (.ref e) 2 >>= _) _ _ _
  refine wpAny_bind (wpAny_field he rfl (x := .ref it) rfl (wpAny_bind (wpAny_nextOf_list_end hh hit hl hx fun k y hk hy => ?_)))
  obtain ⟨o, ho, hc⟩ := hy
  exact wpAny_bind (wpAny_isInstance (T := "StopIteration") (b := true) ⟨o, ho, hc⟩ isSubtype_stop (wpAny_pure (q _ hk)))
theorem callWith_tykw {M : Model} {env : Env} {pos : Pos} {T : String} {e : Expr} {rest : List Expr} {kws : List Keyword} {Q : Value → Shared → Prop}
    (h : wpAny M A (spliced (backTo pos (starEach (e :: rest) env))) (fun vs s1 => wpAny M A (evalAll ((backToKw pos (keywordEach kws env)).map (·.2)))
      (fun ks s2 => wpAny M A (call (.type T) vs (((backToKw pos (keywordEach kws env)).filterMap (·.1)).zip ks)) Q E s2) E s1) E s)
    (he : backTo pos (starEach (e :: rest) env) = (false, eval e env) :: backTo pos (starEach rest env)) (hp : (backTo pos (starEach (e :: rest) env)).any (·.1) = false)
    (ha : (backToKw pos (keywordEach kws env)).all (·.1.isSome) = true) (hk : (backToKw pos (keywordEach kws env)).any (·.1.isNone) = false) :
    wpAny M A (callWith pos (.type T) [] (backTo pos (starEach (e :: rest) env)) (backToKw pos (keywordEach kws env))) Q E s := by
  have h2 : wpAny M A (evalArgs (.type T) true (backTo pos (starEach (e :: rest) env)) (backToKw pos (keywordEach kws env))) (fun a s1 => wpAny M A (call (.type T) ([] ++ a.pos) a.kw) Q E s1) E s := by
    rw [he] at h ⊢
    exact evalArgs_kwB ha h
  unfold callWith
  refine wpAny_bind (wpAny_holding (wpAny_mono h2 (fun a s1 h1 => wpAny_bind (wpAny_standAt ?_)) fun _ _ z => z))
  simp only [hp, hk, Bool.or_false]
  exact wpAny_bind (wpAny_pure (wpAny_bind (wpAny_mono h1 (fun r s2 hr => wpAny_bind (wpAny_holding (wpAny_point (wpAny_pure hr)))) fun _ _ z => z)))
end
/-- a list with its places, counted from c -/
def Ite (K : PySem.W.Frag) (a : Addr) (c : Int) : It :=
  ⟨fun i H => ∃ xs x, SqL K H a xs ∧ xs[i]? = some x,
   fun i H v H' => ∃ T, H T = none ∧ v = .ref T ∧ ∀ xs, SqL K H a xs → ∃ x, xs[i]? = some x ∧ H' = upd H T (.tup [.int (c + i), x]),
   fun i H => ∃ xs, SqL K H a xs ∧ xs.length ≤ i⟩
theorem turn_enum {P : Program} {w : World} {K : PySem.W.Frag} {elts : List Expr} {x1 : Nat} {tpos : Pos} {l z I : Addr} {c : Int} (hzI : z ≠ I) (hlz : l ≠ z) (hlI : l ≠ I) :
    Turn P w K (.Tuple elts x1 tpos) (Ite K l c) [z, I] z (fun i h => (∃ old, IsEnum h z I (c + i) old) ∧ h.IsListIter I l i) where
  mem := by simp
  obj := fun i h st b hb => by
    obtain ⟨⟨old, h1⟩, o2, h2, c2, d2⟩ := st
    simp only [List.mem_cons, List.not_mem_nil, or_false] at hb
    rcases hb with rfl | rfl
    · exact ⟨_, h1, fun v y => by cases y⟩
    · exact ⟨_, h2, fun v y => by rw [d2] at y; cases y⟩
  keep := fun i h h' st k => by
    obtain ⟨⟨old, h1⟩, h2⟩ := st
    exact ⟨⟨old, k z (by simp) _ h1⟩, h2.at fun o e => k I (by simp) o e⟩
  item := by
    intro X hP hw hK hc i pins s σ H E Iv hf st hg
    subst hP hw hK
    obtain ⟨xs, x, hq, hx⟩ := hg
    obtain ⟨its, rv, p1, _⟩ := Iv.list hq
    obtain ⟨u, hu, ru⟩ := rv.get hx
    obtain ⟨⟨old, g1⟩, g2⟩ := st
    have hI : I < s.heap.objs.size := by obtain ⟨_, y, _⟩ := g2; exact Heap.lt_size y
    have hz : z < s.heap.objs.size := Heap.lt_size g1
    refine enumC_item g1 g2 p1.isList (x := u) (by simpa using hu) hzI fun k a1 a2 a3 a4 => ⟨_, rfl, ?_⟩
    refine wpAny_letOwnedTupleGo_enum a1 fun k2 b1 b2 => ?_
    replace b2 : Heap.SameBut z k k2 := b2
    have hTn : H s.heap.objs.size = none := Iv.hok.fresh (Nat.le_refl _)
    have keep : ∀ b ob, b ∉ [z, I] → s.heap.get? b = some ob → k2.get? b = some ob := fun b ob hb e => by
      simp only [List.mem_cons, List.not_mem_nil, or_false, not_or] at hb
      exact b2.extBut b ob hb.1 (a4 b ob hb.1 hb.2 e)
    have ei : c + (i : Int) + 1 = c + ((i + 1 : Nat) : Int) := by rw [Int.natCast_add]; omega
    have c2 : k2.IsListIter I l (i + 1) := a2.extBut b2.extBut hzI.symm
    refine ⟨.ref s.heap.objs.size, upd H s.heap.objs.size (.tup [.int (c + i), x]), ?_, rfl, ⟨_, hTn, rfl, fun xs' q' => ?_⟩, ⟨⟨_, by rw [← ei]; exact b1⟩, c2⟩, fun b hb => ?_⟩
    · refine Iv.turnedNew (t' := s.toks + 1) (ch := [z, I]) keep (fun b hb => ⟨hf b hb, ?_⟩) (Nat.le_refl _) ?_
      · simp only [List.mem_cons, List.not_mem_nil, or_false] at hb
        rcases hb with rfl | rfl
        · exact ⟨_, b1⟩
        · obtain ⟨o, e, _⟩ := c2; exact ⟨_, e⟩
      · exact ⟨by show 2 ≤ sizeLine; rw [sizeLine_eq]; decide, [.int (c + i) s.toks, u], .cons ⟨_, rfl⟩ (.cons ru .nil), _, b2.extBut _ _ (Nat.ne_of_gt hz) a3, rfl, _, rfl⟩
    · rw [Iv.list_inj q' hq]
      exact ⟨x, hx, rfl⟩
    · have : b ≠ s.heap.objs.size := by
        simp only [List.mem_cons, List.not_mem_nil, or_false] at hb
        rcases hb with rfl | rfl
        · exact Nat.ne_of_lt hz
        · exact Nat.ne_of_lt hI
      rw [upd_ne this]
      exact (hf b hb).1
  done := by
    intro X hP hw hK hc i pins s σ H E Iv hf st hg
    subst hP hw hK
    obtain ⟨xs, hq, hx⟩ := hg
    obtain ⟨its, rv, p1, _⟩ := Iv.list hq
    obtain ⟨⟨old, g1⟩, g2⟩ := st
    have hl1 := rv.length
    refine enumC_end (Iv.ok.hd hc) g1 g2 p1.isList (Array.getElem?_eq_none (by simp; omega)) fun k hk => ⟨rfl, Iv.turnedL (t' := s.toks) (ch := [z, I]) (fun b ob hb e => ?_) hf⟩
    simp only [List.mem_cons, List.not_mem_nil, or_false, not_or] at hb
    exact hk b ob hb.2 e
  self := fun _ _ _ _ _ ⟨⟨_, st⟩, _⟩ h => wpAny_pyIter_enum st h
section
variable {X : Cx} {K : PySem.W.Frag}
def iEnum (K : PySem.W.Frag) (c : Int) (ta : TA) : TI := fun σ H R => ta σ H fun vs H1 => ∃ a xs, vs = [.ref a] ∧ SqL K H1 a xs ∧ R (Ite K a c) H1
theorem enum_fp {pins : List (Addr × Obj)} {σ : St} {H : Hp} {s : Shared} {h' : Heap} (I : Inv X pins σ H s) (b : Addr) (hb : b ∈ [s.heap.objs.size + 1, s.heap.objs.size]) : FpOk X pins H b := by
  have hge : s.heap.objs.size ≤ b := by
    simp only [List.mem_cons, List.not_mem_nil, or_false] at hb
    rcases hb with rfl | rfl
    · exact Nat.le_succ _
    · exact Nat.le_refl _
  exact I.fpOk hge (I.hok.fresh hge)
theorem pi_enum1 {a : Expr} {ta : TA} {p pos tpos kpos cpos : Pos} {ci : Nat} {elts : List Expr} {x1 : Nat} (hK : X.K = K) (hg : Gl X "enumerate") (hm : X.mg "enumerate" = none) (ha : PA X [a] ta)
    (hb : bootBuiltins "enumerate" = some (.type "enumerate") := by rfl)
    (he : backTo pos (starEach [a] X.env) = (false, eval a X.env) :: backTo pos (starEach [] X.env) := by rfl) (hpl : (backTo pos (starEach [a] X.env)).any (·.1) = false := by rfl) :
    PI X (.Tuple elts x1 tpos) (.Call (.Name "enumerate" p) [a] [⟨some "start", .Constant (.int 1) ci cpos, kpos⟩] pos) (iEnum K 1 ta) := by
  subst hK
  intro pins s σ H R I h
  refine wpAny_Call_Name_kw (ld_blt I hg hm hb ?_ (by decide) (by decide))
  refine callWith_tykw (thn (ha pos pins s σ H _ I h) fun us s1 ⟨vs, H1, I1, r1, q1⟩ => thn ((pk_cons pe_int pk_nil) pos pins s1 σ H1 (fun zs H2 => zs = [.int 1] ∧ H2 = H1) I1 ⟨rfl, rfl⟩) fun ws s2 ⟨zs, H2, I2, r2, q2⟩ => ?_) he hpl rfl rfl
  obtain ⟨rfl, rfl⟩ := q2
  obtain ⟨l, xs, e, q1, q⟩ := q1
  subst e
  obtain ⟨v1, rfl, ru⟩ := r1.one
  cases ru
  obtain ⟨v2, rfl, tt, rfl⟩ := r2.one
  obtain ⟨its, rv, p1, _⟩ := I2.list q1
  obtain ⟨o1, e1, _⟩ := p1.isList
  have L1 := Heap.lt_size e1
  refine enumK_call p1.isList fun k a1 a2 a4 => ?_
  refine wpAny_pyIter_enum a1 ?_
  have I3 : Inv X pins σ H2 { s2 with heap := k } := I2.kept (t' := s2.toks) a4
  exact ⟨s2.heap.objs.size + 1, _, _, Ite X.K l 1, H2, rfl, I3, turn_enum (Nat.succ_ne_self _) (Nat.ne_of_lt (Nat.lt_succ_of_lt L1)) (Nat.ne_of_lt L1), ⟨⟨_, a1⟩, a2⟩, enum_fp (h' := k) I2, q⟩
end
section
variable {σ : St} {H : Hp} {D : Ends} {nx bk ct : St → Hp → Prop} {rt : VK} {K : PySem.W.Frag} {Q : VK} {js : List Nat} {te : TE} {tc : TT} {c : Int} {a b : Addr} {xs ys : List V}
theorem r_compE {tl : TA} {k : Nat} {g : TG} (h : tl σ H fun vs H1 => ∃ a xs, vs = [.ref a] ∧ SqL K H1 a xs ∧ CompG (Ite K a c) k js g tc te σ H1 Q) : tComp (iEnum K c tl) k js g tc te σ H Q := h
theorem r_compZ {tl : TA} {k : Nat} {g : TG} (h : tl σ H fun vs H1 => ∃ a b xs ys, vs = [.ref a, .ref b] ∧ SqL K H1 a xs ∧ SqL K H1 b ys ∧ CompG (Itz K a b) k js g tc te σ H1 Q) : tComp (iZip K tl) k js g tc te σ H Q := h
theorem r_enumAt {P : Addr → Prop} (h : SqL K H a xs) (q : P a) : ∃ b xs, [V.ref a] = [.ref b] ∧ SqL K H b xs ∧ P b := ⟨a, xs, rfl, h, q⟩
theorem Turns.enum (h : SqL K H a xs) : Turns (Ite K a c) xs.length 2 js σ (gTup K 2 (gCons (gName 0) (gCons (gName 1) gNil))) (fun i => [some (.int (c + i)), some (xs.getD i .non)]) H where
  len := fun _ => rfl
  go := fun i H' s hi => ⟨xs, xs[i], s.seq h, by simp [hi]⟩
  stop := fun H' s => ⟨xs, s.seq h, Nat.le_refl _⟩
  yld := fun i H' v H2 u N s hi hu hy q => by
    obtain ⟨T, hT, rfl, yy⟩ := hy
    obtain ⟨x, hx, rfl⟩ := yy xs (s.seq h)
    have ex : xs.getD i .non = x := by rw [List.getD_eq_getElem?_getD, hx]; rfl
    match u, hu with
    | [u1, u2], _ =>
      refine ⟨T, [.int (c + i), x], rfl, SqT.of upd_same, rfl, .int (c + i), [x], rfl, x, [], rfl, rfl, ?_⟩
      have := q _ (same_new (o := .tup [.int (c + i), x]) hT)
      rw [ex] at this
      exact this
theorem Turns.zip (h : SqL K H a xs) (h2 : SqL K H b ys) (hl : xs.length = ys.length) : Turns (Itz K a b) xs.length 2 js σ (gTup K 2 (gCons (gName 0) (gCons (gName 1) gNil))) (fun i => [some (xs.getD i .non), some (ys.getD i .non)]) H where
  len := fun _ => rfl
  go := fun i H' s hi => ⟨xs, ys, xs[i], ys[i], s.seq h, s.seq h2, by simp [hi], by simp [hl ▸ hi]⟩
  stop := fun H' s => ⟨xs, ys, s.seq h, s.seq h2, .inl (Nat.le_refl _)⟩
  yld := fun i H' v H2 u N s hi hu hy q => by
    obtain ⟨T, hT, rfl, yy⟩ := hy
    obtain ⟨x, y, hx, hy, rfl⟩ := yy xs ys (s.seq h) (s.seq h2)
    have ex : xs.getD i .non = x := by rw [List.getD_eq_getElem?_getD, hx]; rfl
    have ey : ys.getD i .non = y := by rw [List.getD_eq_getElem?_getD, hy]; rfl
    match u, hu with
    | [u1, u2], _ =>
      refine ⟨T, [x, y], rfl, SqT.of upd_same, rfl, x, [y], rfl, y, [], rfl, rfl, ?_⟩
      have := q _ (same_new (o := .tup [x, y]) hT)
      rw [ex, ey] at this
      exact this
end
end L2
namespace Prf
open PySem PySem.Spec PyProof.Rows L2
def b1 (b : Bool) : Nat := if b then 1 else 0
theorem cnt_cons (r : List Int) (rows : List (List Int)) (x : Int) : cntB (r :: rows) x = b1 (decide (x ∈ r)) + cntB rows x := by
  unfold cntB b1
  rw [List.filter_cons]
  cases decide (x ∈ r) <;> simp <;> omega
theorem cnt_set (x : Int) (row : List Int) : ∀ (gv : List (List Int)) (p : Nat), p < gv.length → cntB (gv.set p row) x + b1 (decide (x ∈ gv.getD p [])) = cntB gv x + b1 (decide (x ∈ row))
  | g :: gv, 0, _ => by
    rw [List.set_cons_zero, cnt_cons, cnt_cons]
    show _ + b1 (decide (x ∈ g)) = _
    omega
  | g :: gv, p + 1, h => by
    rw [List.set_cons_succ, cnt_cons, cnt_cons]
    have := cnt_set x row gv p (by simpa using h)
    show _ + b1 (decide (x ∈ gv.getD p [])) = _
    omega
theorem getD_set {α : Type} {xs : List α} {d v : α} {i j : Nat} (h : i < xs.length) : (xs.set i v).getD j d = if j = i then v else xs.getD j d := by
  rw [List.getD_eq_getElem?_getD, List.getElem?_set, List.getD_eq_getElem?_getD]
  by_cases e : j = i
  · subst e; simp [h]
  · simp [e, Ne.symm e]
/-- what is given, to whom, within the limits; o: a reading that is owed to the reader o -/
structure Vld (al gv : List (List Int)) (lim sp : List Int) (o : Int) : Prop where
  lg : gv.length = al.length
  ls : sp.length = lim.length
  nd : ∀ q, q < gv.length → (gv.getD q []).Nodup
  sub : ∀ q, q < gv.length → ∀ r ∈ gv.getD q [], r ∈ al.getD q []
  ar : ∀ q, q < al.length → ∀ r ∈ al.getD q [], 1 ≤ r ∧ r ≤ lim.length
  s0 : ∀ r : Nat, r < lim.length → 0 ≤ sp.getD r 0
  eq : ∀ r : Nat, r < lim.length → sp.getD r 0 + (cntB gv ((r : Int) + 1) : Int) + (if (r : Int) + 1 = o then 1 else 0) = lim.getD r 0
theorem Vld.take {al gv : List (List Int)} {lim sp : List Int} {r : Int} (V : Vld al gv lim sp 0) (r1 : 1 ≤ r) (r2 : r ≤ lim.length) (h : 0 < sp.getD (r - 1).toNat 0) : Vld al gv lim (sp.set (r - 1).toNat (sp.getD (r - 1).toNat 0 - 1)) r := by
  have hi : (r - 1).toNat < sp.length := by have := V.ls; omega
  refine ⟨V.lg, by rw [List.length_set]; exact V.ls, V.nd, V.sub, V.ar, fun k hk => ?_, fun k hk => ?_⟩
  · rw [getD_set hi]
    split
    · omega
    · exact V.s0 k hk
  · have e := V.eq k hk
    rw [if_neg (by omega)] at e
    rw [getD_set hi]
    by_cases ek : k = (r - 1).toNat
    · rw [if_pos ek, if_pos (by omega)]
      subst ek
      omega
    · rw [if_neg ek, if_neg (by omega)]
      exact e
theorem Vld.push {al gv : List (List Int)} {lim sp : List Int} {r : Int} {p : Nat} (V : Vld al gv lim sp r) (hp : p < gv.length) (hr : r ∈ al.getD p []) (hn : r ∉ gv.getD p []) : Vld al (gv.set p (gv.getD p [] ++ [r])) lim sp 0 := by
  refine ⟨by rw [List.length_set]; exact V.lg, V.ls, fun q hq => ?_, fun q hq => ?_, V.ar, V.s0, fun k hk => ?_⟩
  · rw [List.length_set] at hq
    rw [getD_set hp]
    split
    · refine List.nodup_append.mpr ⟨V.nd p hp, by simp, fun a ha b hb => ?_⟩
      have : b = r := by simpa using hb
      subst this
      intro e; subst e; exact hn ha
    · exact V.nd q hq
  · rw [List.length_set] at hq
    rw [getD_set hp]
    split
    · rename_i e
      subst e
      intro x hx
      rcases List.mem_append.mp hx with h | h
      · exact V.sub q hp x h
      · have : x = r := by simpa using h
        subst this; exact hr
    · exact V.sub q hq
  · have e := V.eq k hk
    have c := cnt_set ((k : Int) + 1) (gv.getD p [] ++ [r]) gv p hp
    have l := V.lg
    have hrr := V.ar p (by omega) r hr
    rw [if_neg (show ¬ (k : Int) + 1 = 0 by omega)]
    by_cases ek : (k : Int) + 1 = r
    · rw [if_pos ek] at e
      rw [ek] at c e ⊢
      have d1 : decide (r ∈ gv.getD p []) = false := decide_eq_false hn
      have d2 : decide (r ∈ gv.getD p [] ++ [r]) = true := decide_eq_true (by simp)
      rw [d1, d2] at c
      have c2 : cntB (gv.set p (gv.getD p [] ++ [r])) r + 0 = cntB gv r + 1 := c
      omega
    · rw [if_neg ek] at e
      have d : decide ((k : Int) + 1 ∈ gv.getD p [] ++ [r]) = decide ((k : Int) + 1 ∈ gv.getD p []) := by
        rw [decide_eq_decide]; simp [ek]
      rw [d] at c
      omega
theorem Vld.drop {al gv : List (List Int)} {lim sp : List Int} {r : Int} {p : Nat} (V : Vld al gv lim sp 0) (hp : p < gv.length) (hr : r ∈ gv.getD p []) : Vld al (gv.set p ((gv.getD p []).erase r)) lim sp r := by
  have ndp := V.nd p hp
  refine ⟨by rw [List.length_set]; exact V.lg, V.ls, fun q hq => ?_, fun q hq => ?_, V.ar, V.s0, fun k hk => ?_⟩
  · rw [List.length_set] at hq
    rw [getD_set hp]
    split
    · exact ndp.erase r
    · exact V.nd q hq
  · rw [List.length_set] at hq
    rw [getD_set hp]
    split
    · rename_i e
      subst e
      intro x hx
      exact V.sub q hp x (List.mem_of_mem_erase hx)
    · exact V.sub q hq
  · have e := V.eq k hk
    have c := cnt_set ((k : Int) + 1) ((gv.getD p []).erase r) gv p hp
    rw [if_neg (show ¬ (k : Int) + 1 = 0 by omega)] at e
    by_cases ek : (k : Int) + 1 = r
    · rw [if_pos ek]
      rw [ek] at c e ⊢
      have d1 : decide (r ∈ gv.getD p []) = true := decide_eq_true hr
      have d2 : decide (r ∈ (gv.getD p []).erase r) = false := decide_eq_false (by rw [ndp.mem_erase_iff]; simp)
      rw [d1, d2] at c
      have c2 : cntB (gv.set p ((gv.getD p []).erase r)) r + 1 = cntB gv r + 0 := c
      omega
    · rw [if_neg ek]
      have d : decide ((k : Int) + 1 ∈ (gv.getD p []).erase r) = decide ((k : Int) + 1 ∈ gv.getD p []) := by
        rw [decide_eq_decide, ndp.mem_erase_iff]; simp [ek]
      rw [d] at c
      omega
/-- every reader who may read the paper q was asked or has it -/
def Cov (al gv : List (List Int)) (ks : List Int) (q : Nat) : Prop := ∀ r ∈ al.getD q [], r ∈ ks ∨ r ∈ gv.getD q []
theorem Cov.mono {al gv : List (List Int)} {ks ls : List Int} {q : Nat} (h : Cov al gv ks q) (s : ∀ r ∈ ks, r ∈ ls) : Cov al gv ls q := fun r hr => (h r hr).elim (fun z => .inl (s r z)) .inr
/-- whoever was newly asked has nothing to spare, and no paper of theirs finds somebody else -/
def Cls2 (al gv : List (List Int)) (sp ks ls : List Int) : Prop := (∀ r ∈ ks, r ∈ ls) ∧ ∀ r ∈ ls, r ∉ ks → sp.getD (r - 1).toNat 0 = 0 ∧ ∀ q, q < gv.length → r ∈ gv.getD q [] → Cov al gv ls q
theorem Cls2.refl {al gv : List (List Int)} {sp ks : List Int} : Cls2 al gv sp ks ks := ⟨fun _ h => h, fun r h n => absurd h n⟩
theorem Cls2.trans {al gv : List (List Int)} {sp ks ls ms : List Int} (a : Cls2 al gv sp ks ls) (b : Cls2 al gv sp ls ms) : Cls2 al gv sp ks ms := by
  refine ⟨fun r h => b.1 r (a.1 r h), fun r h n => ?_⟩
  by_cases hl : r ∈ ls
  · obtain ⟨h1, h2⟩ := a.2 r hl n
    exact ⟨h1, fun q hq hr => (h2 q hq hr).mono b.1⟩
  · exact b.2 r h hl
theorem Cls2.one {al gv : List (List Int)} {sp ks ls : List Int} {x : Int} (b : Cls2 al gv sp (ks ++ [x]) ls) (h0 : sp.getD (x - 1).toNat 0 = 0) (h1 : ∀ q, q < gv.length → x ∈ gv.getD q [] → Cov al gv ls q) : Cls2 al gv sp ks ls := by
  refine ⟨fun r h => b.1 r (by simp [h]), fun r h n => ?_⟩
  by_cases e : r = x
  · subst e; exact ⟨h0, h1⟩
  · exact b.2 r h (by simp [n, e])
/-- a reader was found for the paper p -/
structure Fnd (al gv gv' : List (List Int)) (lim sp' ks : List Int) (p : Nat) : Prop where
  v : Vld al gv' lim sp' 0
  lg : gv'.length = gv.length
  len : ∀ q, q < gv.length → (gv'.getD q []).length = (gv.getD q []).length + if q = p then 1 else 0
  old : ∀ r ∈ ks, ∀ q, q < gv.length → (r ∈ gv'.getD q [] ↔ r ∈ gv.getD q [])
/-- a reading was freed for the reader x -/
structure Fre (al gv gv' : List (List Int)) (lim sp' ks : List Int) (x : Int) : Prop where
  v : Vld al gv' lim sp' x
  lg : gv'.length = gv.length
  len : ∀ q, q < gv.length → (gv'.getD q []).length = (gv.getD q []).length
  old : ∀ r ∈ ks, r ≠ x → ∀ q, q < gv.length → (r ∈ gv'.getD q [] ↔ r ∈ gv.getD q [])
  own : ∀ q, q < gv.length → x ∈ gv'.getD q [] → x ∈ gv.getD q []
theorem Fre.found {al gv gv' : List (List Int)} {lim sp' ks : List Int} {x : Int} {p : Nat} (F : Fre al gv gv' lim sp' (ks ++ [x]) x) (hp : p < gv.length) (hx : x ∈ al.getD p []) (hn : x ∉ gv.getD p []) (hk : x ∉ ks) :
    Fnd al gv (gv'.set p (gv'.getD p [] ++ [x])) lim sp' ks p := by
  have l := F.lg
  have hp' : p < gv'.length := by omega
  refine ⟨F.v.push hp' hx (fun z => hn (F.own p hp z)), by rw [List.length_set]; exact l, fun q hq => ?_, fun r hr q hq => ?_⟩
  · have := F.len q hq
    rw [getD_set hp']
    by_cases e : q = p
    · subst e; rw [if_pos rfl, if_pos rfl, List.length_append, List.length_singleton]; omega
    · rw [if_neg e, if_neg e]; omega
  · have hne : r ≠ x := fun e => hk (e ▸ hr)
    have := F.old r (by simp [hr]) hne q hq
    rw [getD_set hp']
    by_cases e : q = p
    · subst e; rw [if_pos rfl, List.mem_append, this]; simp [hne]
    · rw [if_neg e]; exact this
theorem Fnd.freed {al gv gv' : List (List Int)} {lim sp' ks : List Int} {x : Int} {p : Nat} (F : Fnd al gv gv' lim sp' ks p) (hp : p < gv.length) (hx : x ∈ gv.getD p []) (hk : x ∈ ks) :
    x ∈ gv'.getD p [] ∧ Fre al gv (gv'.set p ((gv'.getD p []).erase x)) lim sp' ks x := by
  have l := F.lg
  have hp' : p < gv'.length := by omega
  have hx' : x ∈ gv'.getD p [] := (F.old x hk p hp).mpr hx
  have ndp := F.v.nd p hp'
  refine ⟨hx', F.v.drop hp' hx', by rw [List.length_set]; exact l, fun q hq => ?_, fun r hr hne q hq => ?_, fun q hq hq2 => ?_⟩
  · have := F.len q hq
    rw [getD_set hp']
    by_cases e : q = p
    · subst e
      rw [if_pos rfl, List.length_erase_of_mem hx']
      rw [if_pos rfl] at this
      omega
    · rw [if_neg e]; rw [if_neg e] at this; omega
  · have := F.old r hr q hq
    rw [getD_set hp']
    by_cases e : q = p
    · subst e; rw [if_pos rfl, ndp.mem_erase_iff, this]; simp [hne]
    · rw [if_neg e]; exact this
  · rw [getD_set hp'] at hq2
    by_cases e : q = p
    · subst e; exact hx
    · rw [if_neg e] at hq2
      exact (F.old x hk q hq).mp hq2
end Prf
namespace L2
open PySem PySem.Spec PyProof.Rows
section
variable {X : Cx} {K : PySem.W.Frag} {o e value : Expr} {f : Str} {pos pos' tpos : Pos} {ta tv : TE}
theorem pe_fldK (hK : X.K = K) (he : PE X e ta) (hb : attributeBase e f X.env (eval e X.env) = eval e X.env := by rfl) : PE X (.Attribute e f pos) (tFld K ta f) := hK ▸ pe_fld he hb
theorem ps_fldK (hK : X.K = K) (ha : PE X o ta) (hv : PE X value tv) (hs : swapsWith value (some (.Attribute o f pos')) pos.line X.env = pure false := by rfl) : PS X (.Assign [.Attribute o f pos'] value pos) (sFld K ta tv f) := hK ▸ ps_fld ha hv hs
end
section
variable {σ : St} {H : Hp} {Q : VK} {D : Ends} {K : PySem.W.Frag} {ta tv to ti te tb : TE} {f m : Str} {tl : TA} {C a p x : Addr} {nx bk ct : St → Hp → Prop} {rt : VK} {sp : Sp} {E : XK} {fs : List (Str × V)} {dx : Addr} {v : V} {i : Int} {xs : List V} {ns : List Int}
def LeafFld (K : PySem.W.Frag) (f : Str) (x : V) (H1 : Hp) (Q : VK) : Prop := ∃ a C dx fs v, x = .ref a ∧ H1 a = some (.ins C dx fs) ∧ Cls K C ∧ NoAttr K C f ∧ fs.lookup f = some v ∧ Q v H1
theorem r_fld (h : ta σ H fun x H1 => LeafFld K f x H1 Q) : tFld K ta f σ H Q := h
theorem leaf_fld (h : H a = some (.ins C dx fs)) (c : Cls K C) (n : NoAttr K C f) (l : fs.lookup f = some v) (q : Q v H) : LeafFld K f (.ref a) H Q := ⟨a, C, dx, fs, v, rfl, h, c, n, l, q⟩
def LeafPutF (K : PySem.W.Frag) (f : Str) (y x : V) (H2 : Hp) (N : Hp → Prop) : Prop := ∃ a C dx fs, x = .ref a ∧ H2 a = some (.ins C dx fs) ∧ Cls K C ∧ NoAttr K C f ∧ fs.length < 1000 ∧ N (upd H2 a (.ins C dx (putF f y fs)))
theorem r_sfld (h : tv σ H fun y H1 => ta σ H1 fun x H2 => LeafPutF K f y x H2 fun H3 => nx σ H3) : sFld K ta tv f ⟨nx, rt, bk, ct⟩ σ H := h
theorem leaf_putF {y : V} {N : Hp → Prop} (h : H a = some (.ins C dx fs)) (c : Cls K C) (n : NoAttr K C f) (l : fs.length < 1000) (q : ∀ H2, But a H H2 → H2 a = some (.ins C dx (putF f y fs)) → N H2) : LeafPutF K f y (.ref a) H N := ⟨a, C, dx, fs, rfl, h, c, n, l, q _ But.upd upd_same⟩
def LeafMeth (C : Addr) (m : Str) (sp : Sp) (E : XK) (t : TA) (σ : St) (x : V) (H1 : Hp) (Q : VK) : Prop := ∃ a dx fs, x = .ref a ∧ H1 a = some (.ins C dx fs) ∧ fs.lookup m = none ∧ t σ H1 fun vs H2 => sp (x :: (vs ++ [])) H2 Q E
theorem r_meth (h : ta σ H fun x H1 => LeafMeth C m sp E tl σ x H1 Q) : tMeth C m sp [] E ta tl σ H Q := h
theorem leaf_meth (h : H a = some (.ins C dx fs)) (l : fs.lookup m = none) (q : tl σ H fun vs H2 => sp (.ref a :: (vs ++ [])) H2 Q E) : LeafMeth C m sp E tl σ (.ref a) H Q := ⟨a, dx, fs, rfl, h, l, q⟩
def LeafMake (C : Addr) (sp : Sp) (E : XK) (vs : List V) (H1 : Hp) (Q : VK) : Prop := ∀ x dx, H1 x = none → H1 dx = none → dx ≠ x → sp (.ref x :: (vs ++ [])) (upd (upd H1 dx (.own x)) x (.ins C dx [])) (fun v H2 => v = .non ∧ Q (.ref x) H2) E
theorem r_make (h : tl σ H fun vs H1 => LeafMake C sp E vs H1 Q) : tMake C sp [] E tl σ H Q := h
theorem leaf_make {vs : List V} (h : ∀ x dx H2, H x = none → H dx = none → dx ≠ x → Same H H2 → H2 x = some (.ins C dx []) → sp (.ref x :: (vs ++ [])) H2 (fun v H3 => v = .non ∧ Q (.ref x) H3) E) : LeafMake C sp E vs H Q :=
  fun x dx hx hd ne => h x dx _ hx hd ne (fun b u z => by rw [upd_ne (ne_of_none z hx), upd_ne (ne_of_none z hd)]; exact z) upd_same
end
end L2
namespace Prf
open PySem PySem.Spec PyProof.Rows L2
theorem right_all {hs : List Int} {rs rows : List (List Int)} : rightB hs rs rows = true ↔ rows.length = hs.length ∧ (∀ k, k < hs.length → pairB rs (hs.getD k 0) (rows.getD k []) = true) ∧ ∀ k, k < rs.length → (cntB rows ((k : Int) + 1) : Int) ≤ (rs.getD k []).getD 1 0 := by
  unfold rightB
  simp only [Bool.and_eq_true, decide_eq_true_eq, List.all_eq_true, List.mem_range]
  have e0 : ∀ k : Nat, (0 : Int) + (k : Int) + 1 = (k : Int) + 1 := fun k => by omega
  constructor
  · rintro ⟨⟨h1, h2⟩, h3⟩
    exact ⟨h1, h2, fun k hk => by have := h3 k hk; rwa [e0] at this⟩
  · rintro ⟨h1, h2, h3⟩
    exact ⟨⟨h1, h2⟩, fun k hk => by rw [e0]; exact h3 k hk⟩
end Prf
namespace L2
open PySem PySem.Spec PyProof.Rows
section
variable {σ : St} {H : Hp} {Q : VK} {K : PySem.W.Frag} {ta tb : TE} {a : Addr} {i : Int} {v : V}
def LeafDNot (y x : V) (H2 : Hp) (Q : VK) : Prop := ∃ a o, x = .ref a ∧ DGet H2 a y o ∧ Q (.bl (!o.isSome)) H2
theorem r_dnin (h : ta σ H fun y H1 => tb σ H1 fun x H2 => LeafDNot y x H2 Q) : tDNotIn ta tb σ H Q := h
theorem leaf_dnin {kvs : List (Key × V)} (h : H a = some (.dK kvs)) (q : Q (.bl (!(valV kvs (Sum.inl i : Key)).isSome)) H) : LeafDNot (.int i) (.ref a) H Q := ⟨a, _, rfl, DGet.k (k := Sum.inl i) h, q⟩
def LeafDGet (x y : V) (H2 : Hp) (Q : VK) : Prop := ∃ a v, x = .ref a ∧ DGet H2 a y (some v) ∧ Q v H2
theorem r_dget (h : ta σ H fun x H1 => tb σ H1 fun y H2 => LeafDGet x y H2 Q) : tDGet ta tb σ H Q := h
theorem leaf_dget {kvs : List (Key × V)} (h : H a = some (.dK kvs)) (e : valV kvs (Sum.inl i : Key) = some v) (q : Q v H) : LeafDGet (.ref a) (.int i) H Q := ⟨a, v, rfl, e ▸ DGet.k (k := Sum.inl i) h, q⟩
end
end L2
namespace Prf
open PySem PySem.Spec PyProof.Rows L2
/-! ### what an exam has -/
structure ExS where
  hs : List Int
  rs : List (List Int)
  step : Int
  dl : Option (List (List Int) × List (List Int))
def ExS.nm (s : ExS) : List (List Int) := (s.dl.map (·.1)).getD []
def ExS.en (s : ExS) : List (List Int) := (s.dl.map (·.2)).getD []
/-- the points that are in for the paper k (from 0) by the reader r: the last entry -/
def entOf (en : List (List Int)) (k : Nat) (r : Int) : Option Int := ((en.filter fun e => decide (e.getD 0 0 = (k : Int) + 1) && decide (e.getD 1 0 = r)).getLast?).map fun e => e.getD 2 0
theorem entOf_snoc (en : List (List Int)) (e : List Int) (k : Nat) (r : Int) : entOf (en ++ [e]) k r = if e.getD 0 0 = (k : Int) + 1 ∧ e.getD 1 0 = r then some (e.getD 2 0) else entOf en k r := by
  unfold entOf
  rw [List.filter_append]
  by_cases h : e.getD 0 0 = (k : Int) + 1 ∧ e.getD 1 0 = r
  · have : (decide (e.getD 0 0 = (k : Int) + 1) && decide (e.getD 1 0 = r)) = true := by rw [decide_eq_true h.1, decide_eq_true h.2]; rfl
    rw [if_pos h, List.filter_cons, if_pos this, List.filter_nil, List.getLast?_append]
    rfl
  · have : (decide (e.getD 0 0 = (k : Int) + 1) && decide (e.getD 1 0 = r)) = false := by
      rw [Bool.eq_false_iff]
      intro z
      rw [Bool.and_eq_true] at z
      exact h ⟨of_decide_eq_true z.1, of_decide_eq_true z.2⟩
    rw [if_neg h, List.filter_cons, this, List.filter_nil]
    simp
def exFs (va vb vs vd vc ve : V) : List (Str × V) := [("paper_houses", va), ("reader_rows", vb), ("widest_step", vs), ("is_dealt", vd), ("named_readers", vc), ("entered_points", ve)]
section
variable {va vb vs vd vc ve v : V}
theorem exFs_mk : putF "entered_points" ve (putF "named_readers" vc (putF "is_dealt" vd (putF "widest_step" vs (putF "reader_rows" vb (putF "paper_houses" va []))))) = exFs va vb vs vd vc ve := by
  unfold exFs
  repeat (first | rw [if_neg (by decide +kernel)] | simp only [putF])
theorem exFs_a : (exFs va vb vs vd vc ve).lookup ("paper_houses" : Str) = some va := by rw [← exFs_mk]; simp only [lookup_putF]; repeat (first | rw [if_pos trivial] | rw [if_pos rfl] | rw [if_neg (by decide +kernel)])
theorem exFs_b : (exFs va vb vs vd vc ve).lookup ("reader_rows" : Str) = some vb := by rw [← exFs_mk]; simp only [lookup_putF]; repeat (first | rw [if_pos trivial] | rw [if_pos rfl] | rw [if_neg (by decide +kernel)])
theorem exFs_s : (exFs va vb vs vd vc ve).lookup ("widest_step" : Str) = some vs := by rw [← exFs_mk]; simp only [lookup_putF]; repeat (first | rw [if_pos trivial] | rw [if_pos rfl] | rw [if_neg (by decide +kernel)])
theorem exFs_d : (exFs va vb vs vd vc ve).lookup ("is_dealt" : Str) = some vd := by rw [← exFs_mk]; simp only [lookup_putF]; repeat (first | rw [if_pos trivial] | rw [if_pos rfl] | rw [if_neg (by decide +kernel)])
theorem exFs_c : (exFs va vb vs vd vc ve).lookup ("named_readers" : Str) = some vc := by rw [← exFs_mk]; simp only [lookup_putF]; repeat (first | rw [if_pos trivial] | rw [if_pos rfl] | rw [if_neg (by decide +kernel)])
theorem exFs_e : (exFs va vb vs vd vc ve).lookup ("entered_points" : Str) = some ve := by rw [← exFs_mk]; simp only [lookup_putF]; repeat (first | rw [if_pos trivial] | rw [if_pos rfl] | rw [if_neg (by decide +kernel)])
end
def exFields : List Str := ["paper_houses", "reader_rows", "widest_step", "is_dealt", "named_readers", "entered_points"]
theorem exFs_no {va vb vs vd vc ve : V} {m : Str} (h : m ∉ exFields) : (exFs va vb vs vd vc ve).lookup m = none := by
  have hn : ∀ f ∈ exFields, ¬ m = f := fun f hf z => h (z ▸ hf)
  rw [← exFs_mk]
  simp only [lookup_putF]
  rw [if_neg (hn _ (by decide +kernel)), if_neg (hn _ (by decide +kernel)), if_neg (hn _ (by decide +kernel)), if_neg (hn _ (by decide +kernel)), if_neg (hn _ (by decide +kernel)), if_neg (hn _ (by decide +kernel))]
  rfl
/-- a row of names: two readers, the lesser first, and a third one only where both are in -/
def RowOk (n : Nat) (en : List (List Int)) (k : Nat) (row : List Int) : Prop := ∃ f s : Int, 1 ≤ f ∧ f < s ∧ s ≤ n ∧ (row = [f, s] ∨ ∃ t : Int, row = [f, s, t] ∧ 1 ≤ t ∧ t ≤ n ∧ t ≠ f ∧ t ≠ s ∧ (entOf en k f).isSome = true ∧ (entOf en k s).isSome = true)
/-- what is true of every exam -/
structure Wf (st : ExS) : Prop where
  ln : st.dl.isSome = true → st.nm.length = st.hs.length
  row : ∀ k, k < st.nm.length → RowOk st.rs.length st.en k (st.nm.getD k [])
  pts : ∀ k r p, entOf st.en k r = some p → 0 ≤ p ∧ p ≤ 100
  stp : 0 ≤ st.step ∧ st.step ≤ 100
/-- where an exam's own objects lie -/
structure ExAd where
  x : Addr
  dx : Addr
  a : Addr
  b : Addr
  c : Addr
  d : Addr
  ps : List Addr
  qs : List Addr
  ds : List Addr
def ExAd.own (e : ExAd) : List Addr := e.x :: e.a :: e.b :: e.c :: e.d :: (e.ps ++ (e.qs ++ e.ds))
structure ExIn (C : Addr) (H : Hp) (e : ExAd) (st : ExS) (kvs : List (List (Key × V))) : Prop where
  ob : H e.x = some (.ins C e.dx (exFs (.ref e.a) (.ref e.b) (.int st.step) (.bl st.dl.isSome) (.ref e.c) (.ref e.d)))
  ha : H e.a = some (.lst (st.hs.map V.int))
  hb : H e.b = some (.lst (e.ps.map V.ref))
  hc : H e.c = some (.lst (e.qs.map V.ref))
  hd : H e.d = some (.lst (e.ds.map V.ref))
  lp : e.ps.length = st.rs.length
  lq : e.qs.length = st.nm.length
  ld : e.ds.length = st.nm.length
  rp : ∀ i, i < st.rs.length → H (e.ps.getD i 0) = some (.lst ((st.rs.getD i []).map V.int))
  rq : ∀ i, i < st.nm.length → H (e.qs.getD i 0) = some (.lst ((st.nm.getD i []).map V.int))
  rd : ∀ i, i < st.nm.length → H (e.ds.getD i 0) = some (.dK (kvs.getD i []))
  vk : ∀ i, i < st.nm.length → ∀ r : Int, valV (kvs.getD i []) (Sum.inl r : Key) = (entOf st.en i r).map V.int
  sk : ∀ i, i < st.nm.length → (kvs.getD i []).length ≤ st.en.length
  lk : kvs.length = st.nm.length
  nd : e.own.Nodup
  wf : Wf st
/-- an exam stands at x, its objects are those of F -/
def ExAt (C : Addr) (H : Hp) (x : Addr) (F : Addr → Prop) (st : ExS) : Prop := ∃ e kvs, e.x = x ∧ (∀ b, F b ↔ b ∈ e.own) ∧ ExIn C H e st kvs
theorem getDm {ps : List Addr} {i : Nat} (h : i < ps.length) : ps.getD i 0 ∈ ps := by
  rw [List.getD_eq_getElem?_getD, List.getElem?_eq_getElem h]; exact List.getElem_mem h
section
variable {C x : Addr} {H H' : Hp} {e : ExAd} {st : ExS} {kvs : List (List (Key × V))} {F : Addr → Prop}
theorem own_x : e.x ∈ e.own := List.mem_cons_self
theorem own_a : e.a ∈ e.own := List.mem_cons_of_mem _ List.mem_cons_self
theorem own_b : e.b ∈ e.own := List.mem_cons_of_mem _ (List.mem_cons_of_mem _ List.mem_cons_self)
theorem own_c : e.c ∈ e.own := List.mem_cons_of_mem _ (List.mem_cons_of_mem _ (List.mem_cons_of_mem _ List.mem_cons_self))
theorem own_d : e.d ∈ e.own := List.mem_cons_of_mem _ (List.mem_cons_of_mem _ (List.mem_cons_of_mem _ (List.mem_cons_of_mem _ List.mem_cons_self)))
theorem own_r {b : Addr} (h : b ∈ e.ps ++ (e.qs ++ e.ds)) : b ∈ e.own := List.mem_cons_of_mem _ (List.mem_cons_of_mem _ (List.mem_cons_of_mem _ (List.mem_cons_of_mem _ (List.mem_cons_of_mem _ h))))
theorem own_p {b : Addr} (h : b ∈ e.ps) : b ∈ e.own := own_r (List.mem_append_left _ h)
theorem own_q {b : Addr} (h : b ∈ e.qs) : b ∈ e.own := own_r (List.mem_append_right _ (List.mem_append_left _ h))
theorem own_ds {b : Addr} (h : b ∈ e.ds) : b ∈ e.own := own_r (List.mem_append_right _ (List.mem_append_right _ h))
theorem ExIn.keep (E : ExIn C H e st kvs) (k : ∀ b o, b ∈ e.own → H b = some o → H' b = some o) : ExIn C H' e st kvs :=
  ⟨k _ _ own_x E.ob, k _ _ own_a E.ha, k _ _ own_b E.hb, k _ _ own_c E.hc, k _ _ own_d E.hd, E.lp, E.lq, E.ld, fun i hi => k _ _ (own_p (getDm (by rw [E.lp]; exact hi))) (E.rp i hi), fun i hi => k _ _ (own_q (getDm (by rw [E.lq]; exact hi))) (E.rq i hi), fun i hi => k _ _ (own_ds (getDm (by rw [E.ld]; exact hi))) (E.rd i hi), E.vk, E.sk, E.lk, E.nd, E.wf⟩
theorem ExIn.mem (E : ExIn C H e st kvs) {b : Addr} (h : b ∈ e.own) : ∃ o, H b = some o := by
  unfold ExAd.own at h
  simp only [List.mem_cons, List.mem_append] at h
  rcases h with h | h | h | h | h | h | h | h
  · exact ⟨_, h ▸ E.ob⟩
  · exact ⟨_, h ▸ E.ha⟩
  · exact ⟨_, h ▸ E.hb⟩
  · exact ⟨_, h ▸ E.hc⟩
  · exact ⟨_, h ▸ E.hd⟩
  · obtain ⟨i, hi, ei⟩ := L2.mem_getD (d := 0) h
    exact ⟨_, ei ▸ E.rp i (by have := E.lp; omega)⟩
  · obtain ⟨i, hi, ei⟩ := L2.mem_getD (d := 0) h
    exact ⟨_, ei ▸ E.rq i (by have := E.lq; omega)⟩
  · obtain ⟨i, hi, ei⟩ := L2.mem_getD (d := 0) h
    exact ⟨_, ei ▸ E.rd i (by have := E.ld; omega)⟩
theorem ExAt.keep (E : ExAt C H x F st) (k : ∀ b o, F b → H b = some o → H' b = some o) : ExAt C H' x F st := by
  obtain ⟨e, kvs, hx, hF, I⟩ := E
  exact ⟨e, kvs, hx, hF, I.keep fun b o hb eb => k b o ((hF b).mpr hb) eb⟩
theorem ExAt.mem (E : ExAt C H x F st) {b : Addr} (h : F b) : ∃ o, H b = some o := by
  obtain ⟨e, kvs, hx, hF, I⟩ := E
  exact I.mem ((hF b).mp h)
def exMeths : List Str := ["bring_paper", "bring_reader", "set_step", "deal", "enter", "papers", "readers", "step", "dealt", "dealing", "against", "due", "marks", "left", "refuse_behind_dealing", "refuse_ahead_of_dealing", "refuse_not_due", "due_readers", "points_for", "mark_for", "name_third", "needs_third"]
theorem exMeths_no {m : Str} (h : m ∈ exMeths) : m ∉ exFields := by
  revert m
  have : exMeths.all (fun m => !exFields.contains m) = true := by decide +kernel
  intro m h z
  have := List.all_eq_true.mp this m h
  simp only [Bool.not_eq_true', ← Bool.not_eq_true, List.contains_iff_mem] at this
  exact this z
theorem ExAt.ob (E : ExAt C H x F st) : ∃ dx fs, H x = some (.ins C dx fs) ∧ ∀ m ∈ exMeths, fs.lookup m = none := by
  obtain ⟨e, kvs, rfl, hF, I⟩ := E
  exact ⟨_, _, I.ob, fun m hm => exFs_no (exMeths_no hm)⟩
end
/-- what is not the exam's own stays -/
structure ExFr (H H' : Hp) (F F' : Addr → Prop) : Prop where
  kp : ∀ b o, H b = some o → ¬ F b → H' b = some o
  fp : ∀ b, F' b → F b ∨ H b = none
section
variable {C x : Addr} {H H' : Hp} {e : ExAd} {st : ExS} {kvs : List (List (Key × V))} {F F' : Addr → Prop}
theorem ExFr.same (s : Same H H') : ExFr H H' F F := ⟨fun b o e _ => s b o e, fun b h => .inl h⟩
theorem ExFr.but {p : Addr} (b : But p H H') (hp : F p) (fp : ∀ b, F' b → F b ∨ H b = none) : ExFr H H' F F' := ⟨fun c o e n => by rw [b c (fun z => n (z ▸ hp))]; exact e, fp⟩
theorem ExAt.same (E : ExAt C H x F st) (s : Same H H') : ExAt C H' x F st := E.keep fun b o _ e => s b o e
theorem ExAt.new (E : ExAt C H x F st) {b : Addr} (h : H b = none) : ¬ F b := fun z => by obtain ⟨o, e⟩ := E.mem z; rw [h] at e; cases e
theorem ExIn.new (E : ExIn C H e st kvs) {b : Addr} (h : H b = none) : b ∉ e.own := fun z => by obtain ⟨o, e⟩ := E.mem z; rw [h] at e; cases e
end
/-- objects of the law, outside of the exam -/
def IntsO (H : Hp) (F : Addr → Prop) (a : Addr) (ns : List Int) : Prop := H a = some (.lst (ns.map V.int)) ∧ ¬ F a
theorem IntsO.same {H H' : Hp} {F : Addr → Prop} {a : Addr} {ns : List Int} (h : IntsO H F a ns) (s : Same H H') : IntsO H' F a ns := ⟨s _ _ h.1, h.2⟩
theorem IntsO.fr {H H' : Hp} {F F' : Addr → Prop} {a : Addr} {ns : List Int} (h : IntsO H F a ns) (f : ExFr H H' F F') : IntsO H' F' a ns := ⟨f.kp _ _ h.1 h.2, fun z => (f.fp a z).elim h.2 fun e => by rw [h.1] at e; cases e⟩
def RowsO (H : Hp) (F : Addr → Prop) (a : Addr) (ps : List Addr) (rs : List (List Int)) : Prop := H a = some (.lst (ps.map V.ref)) ∧ ¬ F a ∧ ps.length = rs.length ∧ ∀ i, i < rs.length → IntsO H F (ps.getD i 0) (rs.getD i [])
theorem RowsO.same {H H' : Hp} {F : Addr → Prop} {a : Addr} {ps : List Addr} {rs : List (List Int)} (h : RowsO H F a ps rs) (s : Same H H') : RowsO H' F a ps rs := ⟨s _ _ h.1, h.2.1, h.2.2.1, fun i hi => (h.2.2.2 i hi).same s⟩
theorem RowsO.fr {H H' : Hp} {F F' : Addr → Prop} {a : Addr} {ps : List Addr} {rs : List (List Int)} (h : RowsO H F a ps rs) (f : ExFr H H' F F') : RowsO H' F' a ps rs :=
  ⟨f.kp _ _ h.1 h.2.1, (fun z => (f.fp a z).elim h.2.1 fun e => (by rw [h.1] at e; cases e)), h.2.2.1, fun i hi => (h.2.2.2 i hi).fr f⟩
theorem RowsO.ll {K : PySem.W.Frag} {H : Hp} {F : Addr → Prop} {a : Addr} {ps : List Addr} {rs : List (List Int)} (h : RowsO H F a ps rs) : LL K H a rs := ⟨ps, SqL.of h.1, h.2.2.1, fun i hi => (h.2.2.2 i hi).1⟩
/-- the script, or any list that is only read -/
def SqO (K : PySem.W.Frag) (H : Hp) (F : Addr → Prop) (a : Addr) (xs : List V) : Prop := (Rd H a (.lst xs) ∧ ¬ F a) ∨ ∀ H', SqL K H' a xs
theorem SqO.seq {K : PySem.W.Frag} {H : Hp} {F : Addr → Prop} {a : Addr} {xs : List V} (h : SqO K H F a xs) : SqL K H a xs := h.elim (fun z => .inl z.1) fun z => z H
theorem SqO.of {K : PySem.W.Frag} {H : Hp} {F : Addr → Prop} {a : Addr} {xs : List V} (h : SqL K H a xs) (k : ∀ b o, H b = some o → ¬ F b) : SqO K H F a xs := by
  rcases h with (h | ⟨o, h⟩) | h
  · exact .inl ⟨.inl h, k _ _ h⟩
  · exact .inl ⟨.inr ⟨o, h⟩, k _ _ h⟩
  · exact .inr fun _ => .inr h
theorem SqO.same {K : PySem.W.Frag} {H H' : Hp} {F : Addr → Prop} {a : Addr} {xs : List V} (h : SqO K H F a xs) (s : Same H H') : SqO K H' F a xs := by
  rcases h with ⟨h | ⟨o, h⟩, n⟩ | h
  · exact .inl ⟨.inl (s _ _ h), n⟩
  · exact .inl ⟨.inr ⟨o, s _ _ h⟩, n⟩
  · exact .inr h
theorem SqO.fr {K : PySem.W.Frag} {H H' : Hp} {F F' : Addr → Prop} {a : Addr} {xs : List V} (h : SqO K H F a xs) (f : ExFr H H' F F') : SqO K H' F' a xs := by
  rcases h with ⟨h | ⟨o, h⟩, n⟩ | h
  · exact .inl ⟨.inl (f.kp _ _ h n), fun z => (f.fp a z).elim n fun e => by rw [h] at e; cases e⟩
  · exact .inl ⟨.inr ⟨o, f.kp _ _ h n⟩, fun z => (f.fp a z).elim n fun e => by rw [h] at e; cases e⟩
  · exact .inr h
/-- an exam that is ahead of the dealing, with the law's own lists of what was brought -/
structure Brt (C : Addr) (H0 H : Hp) (x a b : Addr) (F : Addr → Prop) (st : ExS) (ps : List Addr) : Prop where
  same : Same H0 H
  nf : ∀ c o, H0 c = some o → ¬ F c
  ex : ExAt C H x F st
  inb : InB st.hs st.rs
  op : st.dl = none
  ih : IntsO H F a st.hs
  ir : RowsO H F b ps st.rs
  na : H0 a = none
  nb : H0 b = none
  ne : a ≠ b
  nap : ∀ i, i < ps.length → ps.getD i 0 ≠ a
  nbp : ∀ i, i < ps.length → ps.getD i 0 ≠ b
theorem Brt.grow {C : Addr} {H0 H H' : Hp} {x a b : Addr} {F : Addr → Prop} {st : ExS} {ps : List Addr} (B : Brt C H0 H x a b F st ps) (s : Same H H') : Brt C H0 H' x a b F st ps :=
  ⟨B.same.trans s, B.nf, B.ex.same s, B.inb, B.op, B.ih.same s, B.ir.same s, B.na, B.nb, B.ne, B.nap, B.nbp⟩
theorem ExFr.nf {H0 H H' : Hp} {F F' : Addr → Prop} (f : ExFr H H' F F') (s : Same H0 H) (n : ∀ c o, H0 c = some o → ¬ F c) : (∀ c o, H0 c = some o → ¬ F' c) ∧ Same H0 H' :=
  ⟨fun c o e z => (f.fp c z).elim (n c o e) fun z => (by rw [s c o e] at z; cases z), fun c o e => f.kp c o (s c o e) (n c o e)⟩
theorem atI_last {xs : List V} {v : V} : atI (xs ++ [v]) (-1) = some v := by
  have e : ixN (xs ++ [v]).length (-1) = some xs.length := by
    unfold ixN
    rw [if_neg (by decide), List.length_append, List.length_singleton, if_pos (by omega)]
    congr 1
    omega
  unfold atI
  rw [e]
  show (xs ++ [v])[xs.length]? = some v
  rw [List.getElem?_append_right (Nat.le_refl _)]
  simp
theorem InB.addP {hs : List Int} {rs : List (List Int)} (B : InB hs rs) {h : Int} (hl : hs.length < 10) (h1 : 1 ≤ h ∧ h ≤ 6) : InB (hs ++ [h]) rs := by
  refine ⟨by rw [List.length_append, List.length_singleton]; omega, B.lr, fun i hi => ?_, B.r2, B.rh, B.rl⟩
  rw [List.length_append, List.length_singleton] at hi
  by_cases e : i < hs.length
  · rw [getD_app_lt e]; exact B.hh i e
  · have : i = hs.length := by omega
    subst this
    rw [getD_app_self]; exact h1
/-- a paper is put on the law's list, then brought -/
theorem Brt.paper {C : Addr} {H0 H H1 H2 : Hp} {x a b : Addr} {F F' : Addr → Prop} {st : ExS} {ps : List Addr} {h : Int} (B : Brt C H0 H x a b F st ps) (b1 : But a H H1) (e1 : H1 a = some (.lst ((st.hs ++ [h]).map V.int))) (hl : st.hs.length < 10) (hh : 1 ≤ h ∧ h ≤ 6) :
    ExAt C H1 x F st ∧ (ExFr H1 H2 F F' → ExAt C H2 x F' { st with hs := st.hs ++ [h] } → Brt C H0 H2 x a b F' { st with hs := st.hs ++ [h] } ps) := by
  have E1 : ExAt C H1 x F st := B.ex.keep fun c o hc e => by rw [b1 c (fun z => B.ih.2 (z ▸ hc))]; exact e
  refine ⟨E1, fun f E2 => ?_⟩
  have s1 : Same H0 H1 := B.same.but b1 B.na
  obtain ⟨n, s⟩ := f.nf s1 B.nf
  have i1 : IntsO H1 F a (st.hs ++ [h]) := ⟨e1, B.ih.2⟩
  obtain ⟨r1, r2, r3, r4⟩ := B.ir
  have i2 : RowsO H1 F b ps st.rs := ⟨by rw [b1 _ B.ne.symm]; exact r1, r2, r3, fun i hi => ⟨by rw [b1 _ (B.nap i (by omega))]; exact (r4 i hi).1, (r4 i hi).2⟩⟩
  exact ⟨s, n, E2, B.inb.addP hl hh, B.op, i1.fr f, i2.fr f, B.na, B.nb, B.ne, B.nap, B.nbp⟩
/-- a reader's row is laid, put on the law's list, then brought -/
theorem Brt.reader {C : Addr} {H0 H H1 H2 H3 : Hp} {x a b r : Addr} {F F' : Addr → Prop} {st : ExS} {ps : List Addr} {h l : Int} (B : Brt C H0 H x a b F st ps) (fr : H r = none) (s1 : Same H H1) (e1 : H1 r = some (.lst ([h, l].map V.int))) (b2 : But b H1 H2) (e2 : H2 b = some (.lst (ps.map V.ref ++ [.ref r]))) (hl : st.rs.length < 8) (hh : 0 ≤ h ∧ h ≤ 6) (ll : 0 ≤ l ∧ l ≤ 30) :
    ExAt C H2 x F st ∧ H2 r = some (.lst ([h, l].map V.int)) ∧ (ExFr H2 H3 F F' → ExAt C H3 x F' { st with rs := st.rs ++ [[h, l]] } → Brt C H0 H3 x a b F' { st with rs := st.rs ++ [[h, l]] } (ps ++ [r])) := by
  have B1 := B.grow s1
  have orr : ¬ F r := B.ex.new fr
  have E2 : ExAt C H2 x F st := B1.ex.keep fun c o hc e => by rw [b2 c (fun z => B1.ir.2.1 (z ▸ hc))]; exact e
  have nrb : r ≠ b := (ne_of_none B.ir.1 fr).symm
  have nra : r ≠ a := (ne_of_none B.ih.1 fr).symm
  have er2 : H2 r = some (.lst ([h, l].map V.int)) := by rw [b2 _ nrb]; exact e1
  refine ⟨E2, er2, fun f E3 => ?_⟩
  have s2 : Same H0 H2 := B1.same.but b2 B.nb
  obtain ⟨n, s⟩ := f.nf s2 B.nf
  obtain ⟨r1, r2, r3, r4⟩ := B1.ir
  have i1 : IntsO H2 F a st.hs := ⟨by rw [b2 _ B.ne]; exact B1.ih.1, B1.ih.2⟩
  have i2 : RowsO H2 F b (ps ++ [r]) (st.rs ++ [[h, l]]) := by
    refine ⟨by rw [e2, List.map_append]; rfl, r2, by rw [List.length_append, List.length_append, r3]; rfl, fun i hi => ?_⟩
    rw [List.length_append, List.length_singleton] at hi
    by_cases e : i < st.rs.length
    · rw [getD_app_lt (by omega), getD_app_lt e]
      exact ⟨by rw [b2 _ (B.nbp i (by omega))]; exact (r4 i e).1, (r4 i e).2⟩
    · have : i = st.rs.length := by omega
      subst this
      rw [getD_app_self, ← r3, getD_app_self]
      exact ⟨er2, orr⟩
  have pn : ∀ i, i < (ps ++ [r]).length → (i < ps.length ∧ (ps ++ [r]).getD i 0 = ps.getD i 0) ∨ (ps ++ [r]).getD i 0 = r := fun i hi => by
    rw [List.length_append, List.length_singleton] at hi
    by_cases e : i < ps.length
    · exact .inl ⟨e, getD_app_lt e⟩
    · have : i = ps.length := by omega
      subst this
      exact .inr getD_app_self
  refine ⟨s, n, E3, B.inb.push hl hh ll, B.op, i1.fr f, i2.fr f, B.na, B.nb, B.ne, fun i hi => ?_, fun i hi => ?_⟩
  · rcases pn i hi with ⟨z, e⟩ | e
    · rw [e]; exact B.nap i z
    · rw [e]; exact nra
  · rcases pn i hi with ⟨z, e⟩ | e
    · rw [e]; exact B.nbp i z
    · rw [e]; exact nrb
end Prf
namespace L2
open PySem PySem.Spec PyProof.Rows
section
variable {σ : St} {H : Hp} {Q : VK} {K : PySem.W.Frag} {js : List Nat} {te : TE} {J : It} {n k : Nat} {g : TG} {w : Nat → St} {x : Nat → V}
/-- elements that the turn makes as it likes, each with what is true of it -/
theorem comp_gen (T : Turns J n k js σ g w H) (hz : n ≤ 1000) (R : Addr → Nat → V → Hp → Prop) (S : List V → V → Prop)
    (st : ∀ p i v H1 H2, R p i v H1 → (∀ b o, H1 b = some o → b ≠ p → H2 b = some o) → R p i v H2)
    (he : ∀ p ys i H' Q', i < n → H p = none → Same H H' → H' p = some (.lst ys) → ys.length = i → (∀ j, j < i → R p j (ys.getD j .non) H') → (∀ v H2, Same H' H2 → R p i v H2 → S ys v → Q' v H2) → te (w i ++ capV js σ) H' Q')
    (hq : ∀ p vs H2, H p = none → Same H H2 → H2 p = some (.lst vs) → vs.length = n → (∀ i, i < n → R p i (vs.getD i .non) H2) → (∀ i, i < n → S (vs.take i) (vs.getD i .non)) → Q (.ref p) H2) : CompG J k js g tTT te σ H Q := by
  intro p hp
  refine ⟨fun i m σc H' => m = n - i ∧ i ≤ n ∧ (∃ u : St, u.length = k ∧ σc = u ++ capV js σ) ∧ Same H H' ∧ ∃ vs : List V, vs.length = i ∧ H' p = some (.lst vs) ∧ (∀ j, j < i → R p j (vs.getD j .non) H') ∧ ∀ j, j < i → S (vs.take j) (vs.getD j .non), ⟨n, by simp, Nat.zero_le _, ⟨List.replicate k none, List.length_replicate, rfl⟩, same_new hp, [], rfl, upd_same, fun j hj => absurd hj (by omega), fun j hj => absurd hj (by omega)⟩, ?_⟩
  rintro i m σc H' ⟨rfl, hi, ⟨u, hu, rfl⟩, s, vs, hvl, hpp, hR, hS⟩
  have hsl : n < sizeLine := small1000 hz
  by_cases hlt : i < n
  · refine .inr ⟨T.go i _ s hlt, fun σ' H' => (∃ u : St, u.length = k ∧ σ' = u ++ capV js σ) ∧ Same H H' ∧ ∃ vs : List V, vs.length = i + 1 ∧ H' p = some (.lst vs) ∧ (∀ j, j < i + 1 → R p j (vs.getD j .non) H') ∧ ∀ j, j < i + 1 → S (vs.take j) (vs.getD j .non), fun σ' H' ⟨h1, h2, h3⟩ => ⟨n - (i + 1), by omega, rfl, hlt, h1, h2, h3⟩, fun v H2 hy => ?_⟩
    refine T.yld i H' v H2 u _ s hlt hu hy fun H3 s3 => ?_
    refine r_tt ?_
    rw [if_pos rfl]
    have hpp3 := s3 _ _ hpp
    refine he p vs i _ _ hlt hp (s.trans s3) hpp3 hvl (fun j hj => st p j _ _ _ (hR j hj) fun b o e _ => s3 b o e) fun v H5 s5 hv sv => ?_
    refine ⟨vs, s5 _ _ hpp3, by omega, ⟨w i, T.len i, rfl⟩, same_upd ((s.trans s3).trans s5) hp, vs ++ [v], by rw [List.length_append, hvl]; rfl, upd_same, fun j hj => ?_, fun j hj => ?_⟩
    · by_cases hji : j < i
      · rw [getD_app_lt (by omega)]
        exact st p j _ _ _ (hR j hji) fun b o e nb => by rw [upd_ne nb]; exact s5 _ _ (s3 _ _ e)
      · have e0 : j = vs.length := by omega
        subst e0
        rw [getD_app_self]
        exact st p _ _ _ _ (hvl ▸ hv) fun b o e nb => by rw [upd_ne nb]; exact e
    · by_cases hji : j < i
      · rw [getD_app_lt (by omega), List.take_append_of_le_length (by omega)]
        exact hS j hji
      · have e0 : j = vs.length := by omega
        subst e0
        rw [getD_app_self, List.take_append_of_le_length (Nat.le_refl _), List.take_length]
        exact sv
  · have e : i = n := by omega
    subst e
    exact .inl ⟨T.stop _ s, hq p vs _ hp s hpp hvl hR hS⟩
theorem mapI_getD {xs : List Int} {i : Nat} (h : i < xs.length) : (xs.map V.int).getD i .non = .int (xs.getD i 0) := by
  rw [List.getD_eq_getElem?_getD, List.getElem?_map, List.getElem?_eq_getElem h, List.getD_eq_getElem?_getD, List.getElem?_eq_getElem h]; rfl
theorem zip_range {xs ys : List Int} (h : ys.length = xs.length) : (List.range xs.length).map (fun i => [xs.getD i 0, ys.getD i 0]) = (xs.zip ys).map fun p => [p.1, p.2] := by
  refine List.ext_getElem (by simp [h]) fun i h1 h2 => ?_
  have h3 : i < xs.length := by simpa using h1
  rw [List.getElem_map, List.getElem_map, List.getElem_range, List.getElem_zip, List.getD_eq_getElem?_getD, List.getElem?_eq_getElem h3, List.getD_eq_getElem?_getD, List.getElem?_eq_getElem (by omega)]
  rfl
theorem lt_put {f : Str} {v : V} : ∀ {fs : List (Str × V)} {n : Nat}, fs.length < n → (putF f v fs).length < n + 1
  | [], n, h => by show 1 < n + 1; have : 0 < n := h; omega
  | (g, x) :: r, n, h => by
    show (if g = f then (g, v) :: r else (g, x) :: putF f v r).length < n + 1
    have h' : r.length + 1 < n := h
    split
    · show r.length + 1 < n + 1; omega
    · show (putF f v r).length + 1 < n + 1
      have := lt_put (f := f) (v := v) (fs := r) (n := n - 1) (by omega)
      omega
theorem map_range_getD {α : Type} (xs : List α) (d : α) : (List.range xs.length).map (fun i => xs.getD i d) = xs := by
  refine List.ext_getElem (by simp) fun i h1 h2 => ?_
  simp at h1 ⊢
  rw [List.getElem?_eq_getElem h1]; rfl
theorem comp_copyR {a : Addr} {rs : List (List Int)} (h : LL K H a rs) (hz : rs.length ≤ 1000) (hq : ∀ p H2, RowsAt H p rs H2 → Q (.ref p) H2) : CompI (Itl K a) js tTT (tCB (cList K) (tCons (tVar 0) tNil)) σ H Q := by
  obtain ⟨ps, h1, h2, h3⟩ := h
  refine compG_of (comp_rows (Turns.one (iter_list h1)) (by rw [List.length_map]; omega) (fun i => rs.getD i []) (fun i H' Q' hi s q => ?_) fun p H2 R => ?_)
  · rw [List.length_map] at hi
    have e : (ps.map V.ref).getD i .non = .ref (ps.getD i 0) := by
      rw [List.getD_eq_getElem?_getD, List.getElem?_map, List.getElem?_eq_getElem hi, List.getD_eq_getElem?_getD, List.getElem?_eq_getElem hi]; rfl
    rw [e]
    refine r_cb (r_cons (r_var (i := 0) rfl (r_nil ?_)))
    exact leaf_list (SqL.of (s _ _ (h3 i (by omega)))) fun l H2 f s2 e2 => q l H2 f s2 e2
  · rw [List.length_map, h2, map_range_getD] at R
    exact hq p H2 R
theorem leaf_ext {p b : Addr} {xs ys : List V} (h : H p = some (.lst xs)) (h' : H b = some (.lst ys)) (hz : xs.length + ys.length ≤ 1000000) (q : ∀ H2, But p H H2 → H2 p = some (.lst (xs ++ ys)) → Q .non H2) : rExtend (.ref p) [.ref b] H Q :=
  ⟨p, b, xs, ys, rfl, rfl, h, h', by rw [sizeLine_eq]; omega, q _ But.upd upd_same⟩
theorem RowsAt.ext {B H H2 H3 : Hp} {p p2 : Addr} {rs rs2 : List (List Int)} (R : RowsAt B p rs H) (R2 : RowsAt H p2 rs2 H2) :
    ∃ zs zs2 : List V, H2 p = some (.lst zs) ∧ H2 p2 = some (.lst zs2) ∧ zs.length = rs.length ∧ zs2.length = rs2.length ∧ (But p H2 H3 → H3 p = some (.lst (zs ++ zs2)) → RowsAt B p (rs ++ rs2) H3) := by
  obtain ⟨sb, hp, ps, h1, h2, nd, h3⟩ := R
  obtain ⟨sb2, hp2, qs, k1, k2, nd2, k3⟩ := R2
  refine ⟨_, _, sb2 _ _ h1, k1, by rw [List.length_map]; exact h2, by rw [List.length_map]; exact k2, fun b e => ?_⟩
  have ne : ∀ i, i < rs2.length → qs.getD i 0 ≠ p := fun i hi z => by have := (k3 i hi).2.1; rw [z, h1] at this; cases this
  refine ⟨(sb.trans sb2).but b hp, hp, ps ++ qs, by rw [e, List.map_append], by rw [List.length_append, List.length_append, h2, k2], ?_, fun i hi => ?_⟩
  · refine List.nodup_append.mpr ⟨nd, nd2, fun x hx y hy z => ?_⟩
    subst z
    obtain ⟨i, hi, ei⟩ := L2.mem_getD (d := 0) hx
    obtain ⟨j, hj, ej⟩ := L2.mem_getD (d := 0) hy
    have a1 := (h3 i (by omega)).1
    have a2 := (k3 j (by omega)).2.1
    rw [ei] at a1
    rw [ej, a1] at a2
    cases a2
  · rw [List.length_append] at hi
    by_cases hlt : i < rs.length
    · rw [getD_app_lt (by omega), getD_app_lt hlt]
      obtain ⟨a1, a2, a3⟩ := h3 i hlt
      exact ⟨by rw [b _ a3]; exact sb2 _ _ a1, a2, a3⟩
    · obtain ⟨j, rfl⟩ : ∃ j, i = rs.length + j := ⟨i - rs.length, by omega⟩
      have e1 : (ps ++ qs).getD (rs.length + j) 0 = qs.getD j 0 := by
        rw [List.getD_eq_getElem?_getD, List.getD_eq_getElem?_getD, List.getElem?_append_right (by omega)]
        congr 2; omega
      have e2 : (rs ++ rs2).getD (rs.length + j) [] = rs2.getD j [] := by
        rw [List.getD_eq_getElem?_getD, List.getD_eq_getElem?_getD, List.getElem?_append_right (by omega)]
        congr 2; omega
      rw [e1, e2]
      obtain ⟨a1, a2, a3⟩ := k3 j (by omega)
      exact ⟨by rw [b _ (ne j (by omega))]; exact a1, sb.free a2, ne j (by omega)⟩
end
end L2
namespace Prf
open PySem PySem.Spec PyProof.Rows L2
section
variable {C x : Addr} {H H' H1 H2 H3 : Hp} {e : ExAd} {st : ExS} {kvs : List (List (Key × V))} {F F' : Addr → Prop}
/-- all unlike -/
structure ExNd (e : ExAd) : Prop where
  xa : e.x ≠ e.a
  xb : e.x ≠ e.b
  xc : e.x ≠ e.c
  xd : e.x ≠ e.d
  xp : e.x ∉ e.ps
  xq : e.x ∉ e.qs
  xs : e.x ∉ e.ds
  ab : e.a ≠ e.b
  ac : e.a ≠ e.c
  ad : e.a ≠ e.d
  ap : e.a ∉ e.ps
  aq : e.a ∉ e.qs
  as : e.a ∉ e.ds
  bc : e.b ≠ e.c
  bd : e.b ≠ e.d
  bp : e.b ∉ e.ps
  bq : e.b ∉ e.qs
  bs : e.b ∉ e.ds
  cd : e.c ≠ e.d
  cp : e.c ∉ e.ps
  cq : e.c ∉ e.qs
  cs : e.c ∉ e.ds
  dp : e.d ∉ e.ps
  dq : e.d ∉ e.qs
  ds : e.d ∉ e.ds
  np : e.ps.Nodup
  nq : e.qs.Nodup
  nds : e.ds.Nodup
  pq : ∀ b, b ∈ e.ps → b ∉ e.qs
  pds : ∀ b, b ∈ e.ps → b ∉ e.ds
  qds : ∀ b, b ∈ e.qs → b ∉ e.ds
theorem nd_iff : e.own.Nodup ↔ ExNd e := by
  unfold ExAd.own
  simp only [List.nodup_cons, List.mem_cons, List.mem_append, List.nodup_append, not_or]
  constructor
  · rintro ⟨⟨xa, xb, xc, xd, xp, xq, xs⟩, ⟨ab, ac, ad, ap, aq, as⟩, ⟨bc, bd, bp, bq, bs⟩, ⟨cd, cp, cq, cs⟩, ⟨dp, dq, ds⟩, np, ⟨nq, nds, qd⟩, pqd⟩
    exact ⟨xa, xb, xc, xd, xp, xq, xs, ab, ac, ad, ap, aq, as, bc, bd, bp, bq, bs, cd, cp, cq, cs, dp, dq, ds, np, nq, nds, fun b h h' => pqd b h b (.inl h') rfl, fun b h h' => pqd b h b (.inr h') rfl, fun b h h' => qd b h b h' rfl⟩
  · intro N
    exact ⟨⟨N.xa, N.xb, N.xc, N.xd, N.xp, N.xq, N.xs⟩, ⟨N.ab, N.ac, N.ad, N.ap, N.aq, N.as⟩, ⟨N.bc, N.bd, N.bp, N.bq, N.bs⟩, ⟨N.cd, N.cp, N.cq, N.cs⟩, ⟨N.dp, N.dq, N.ds⟩, N.np, ⟨N.nq, N.nds, fun a h b h' z => N.qds a h (z ▸ h')⟩, fun a h b h' z => h'.elim (fun h' => N.pq a h (z ▸ h')) fun h' => N.pds a h (z ▸ h')⟩
theorem RowOk.mono {n n' k : Nat} {en en' : List (List Int)} {row : List Int} (h : RowOk n en k row) (hn : n ≤ n') (he : ∀ r, (entOf en k r).isSome = true → (entOf en' k r).isSome = true) : RowOk n' en' k row := by
  obtain ⟨f, s, h1, h2, h3, h4⟩ := h
  refine ⟨f, s, h1, h2, by omega, ?_⟩
  rcases h4 with h4 | ⟨t, h4, t1, t2, t3, t4, t5, t6⟩
  · exact .inl h4
  · exact .inr ⟨t, h4, t1, by omega, t3, t4, he _ t5, he _ t6⟩
theorem RowOk.len {n k : Nat} {en : List (List Int)} {row : List Int} (h : RowOk n en k row) : row.length = 2 ∨ row.length = 3 := by
  obtain ⟨f, s, h1, h2, h3, h4 | ⟨t, h4, _⟩⟩ := h
  · exact .inl (by rw [h4]; rfl)
  · exact .inr (by rw [h4]; rfl)
theorem RowOk.rng {n k : Nat} {en : List (List Int)} {row : List Int} (h : RowOk n en k row) {r : Int} (hr : r ∈ row) : 1 ≤ r ∧ r ≤ n := by
  obtain ⟨f, s, h1, h2, h3, h4 | ⟨t, h4, t1, t2, _⟩⟩ := h
  · rw [h4] at hr
    simp only [List.mem_cons, List.not_mem_nil, or_false] at hr
    omega
  · rw [h4] at hr
    simp only [List.mem_cons, List.not_mem_nil, or_false] at hr
    omega
theorem nm_open {st : ExS} (h : st.dl = none) : st.nm = [] := by unfold ExS.nm; rw [h]; rfl
theorem Wf.ofPaper {st : ExS} (w : Wf st) (hd : st.dl = none) {h : Int} : Wf { st with hs := st.hs ++ [h] } := ⟨fun z => (by rw [show ({ st with hs := st.hs ++ [h] } : ExS).dl = st.dl from rfl, hd] at z; cases z), w.row, w.pts, w.stp⟩
theorem Wf.ofReader {st : ExS} (w : Wf st) {r : List Int} : Wf { st with rs := st.rs ++ [r] } := ⟨w.ln, fun k hk => (w.row k hk).mono (by show _ ≤ (st.rs ++ [r]).length; rw [List.length_append]; omega) fun _ z => z, w.pts, w.stp⟩
theorem Wf.ofDeal {st : ExS} (w : Wf st) {rows : List (List Int)} (h : rightB st.hs st.rs rows = true) : Wf { st with dl := some (rows, []) } := by
  obtain ⟨h1, h2, h3⟩ := right_all.mp h
  refine ⟨fun _ => h1, fun k hk => ?_, fun k r p z => (by cases z), w.stp⟩
  have hk' : k < rows.length := hk
  have hp := h2 k (by omega)
  show RowOk st.rs.length [] k (rows.getD k [])
  unfold pairB at hp
  simp only [Bool.and_eq_true, decide_eq_true_eq, List.all_eq_true] at hp
  obtain ⟨⟨l2, ha⟩, hlt⟩ := hp
  match hr : rows.getD k [], l2 with
  | [f, s], _ =>
    rw [hr] at ha hlt
    have hf := ha f (by simp)
    have hs := ha s (by simp)
    have hlt' : f < s := hlt
    exact ⟨f, s, by omega, hlt', by omega, .inl rfl⟩
theorem Wf.ofEnter {st : ExS} {nm en : List (List Int)} (w : Wf st) (hdl : st.dl = some (nm, en)) {k r p : Int} (h : 0 ≤ p ∧ p ≤ 100) : Wf { st with dl := some (nm, en ++ [[k, r, p]]) } := by
  have enm : st.nm = nm := by unfold ExS.nm; rw [hdl]; rfl
  have een : st.en = en := by unfold ExS.en; rw [hdl]; rfl
  have hs : ∀ j r', (entOf en j r').isSome = true → (entOf (en ++ [[k, r, p]]) j r').isSome = true := fun j r' z => by
    rw [entOf_snoc]
    split
    · rfl
    · exact z
  refine ⟨fun _ => by show nm.length = _; rw [← enm]; exact w.ln (by rw [hdl]; rfl), fun j hj => ?_, fun j r' p' z => ?_, w.stp⟩
  · have := w.row j (by rw [enm]; exact hj)
    rw [enm, een] at this
    exact this.mono (Nat.le_refl _) (hs j)
  · have z' : entOf (en ++ [[k, r, p]]) j r' = some p' := z
    rw [entOf_snoc] at z'
    split at z'
    · have : p = p' := Option.some.inj z'
      omega
    · exact w.pts j r' p' (by rw [een]; exact z')
theorem Wf.ofThird {st : ExS} {nm en : List (List Int)} (w : Wf st) (hdl : st.dl = some (nm, en)) {k : Nat} {f s t : Int} (hk : k < nm.length) (hr : nm.getD k [] = [f, s]) (ht : 1 ≤ t ∧ t ≤ st.rs.length) (hn : t ∉ [f, s]) (hf : (entOf en k f).isSome = true) (hs : (entOf en k s).isSome = true) : Wf { st with dl := some (nm.set k (nm.getD k [] ++ [t]), en) } := by
  have enm : st.nm = nm := by unfold ExS.nm; rw [hdl]; rfl
  have een : st.en = en := by unfold ExS.en; rw [hdl]; rfl
  have ls : (nm.set k (nm.getD k [] ++ [t])).length = nm.length := List.length_set
  refine ⟨fun _ => by show (nm.set k _).length = _; rw [ls, ← enm]; exact w.ln (by rw [hdl]; rfl), fun j hj => ?_, fun j r' p' z => w.pts j r' p' (by rw [een]; exact z), w.stp⟩
  have hj' : j < nm.length := by rw [← ls]; exact hj
  have := w.row j (by rw [enm]; exact hj')
  rw [enm, een] at this
  show RowOk st.rs.length en j ((nm.set k (nm.getD k [] ++ [t])).getD j [])
  rw [getD_set hk]
  by_cases z : j = k
  · subst z
    rw [if_pos rfl, hr]
    rw [hr] at this
    obtain ⟨f', s', h1, h2, h3, h4 | ⟨t', h4, _⟩⟩ := this
    · injection h4 with a b
      injection b with b c
      subst a b
      simp only [List.mem_cons, List.not_mem_nil, or_false, not_or] at hn
      exact ⟨f, s, h1, h2, h3, .inr ⟨t, rfl, ht.1, ht.2, hn.1, hn.2, hf, hs⟩⟩
    · simp at h4
  · rw [if_neg z]; exact this
theorem ExIn.N (E : ExIn C H e st kvs) : ExNd e := nd_iff.mp E.nd
theorem ExIn.at (E : ExIn C H e st kvs) : ExAt C H e.x (fun b => b ∈ e.own) st := ⟨e, kvs, rfl, fun _ => Iff.rfl, E⟩
theorem ne_of_mem {b p : Addr} {l : List Addr} (h : p ∉ l) (hb : b ∈ l) : b ≠ p := fun z => h (z ▸ hb)
theorem ExIn.ip (E : ExIn C H e st kvs) {i : Nat} (hi : i < st.rs.length) : e.ps.getD i 0 ∈ e.ps := getDm (by have := E.lp; omega)
theorem ExIn.iq (E : ExIn C H e st kvs) {i : Nat} (hi : i < st.nm.length) : e.qs.getD i 0 ∈ e.qs := getDm (by have := E.lq; omega)
theorem ExIn.is (E : ExIn C H e st kvs) {i : Nat} (hi : i < st.nm.length) : e.ds.getD i 0 ∈ e.ds := getDm (by have := E.ld; omega)
/-- a paper is brought -/
theorem ExIn.paper (E : ExIn C H e st kvs) (hd : st.dl = none) {h : Int} (b : But e.a H H') (h1 : H' e.a = some (.lst (st.hs.map V.int ++ [.int h]))) : ExIn C H' e { st with hs := st.hs ++ [h] } kvs := by
  have N := E.N
  exact ⟨by rw [b _ N.xa]; exact E.ob, by rw [h1, List.map_append]; rfl, by rw [b _ N.ab.symm]; exact E.hb, by rw [b _ N.ac.symm]; exact E.hc, by rw [b _ N.ad.symm]; exact E.hd, E.lp, E.lq, E.ld, fun i hi => by rw [b _ (ne_of_mem N.ap (E.ip hi))]; exact E.rp i hi, fun i hi => by rw [b _ (ne_of_mem N.aq (E.iq hi))]; exact E.rq i hi, fun i hi => by rw [b _ (ne_of_mem N.as (E.is hi))]; exact E.rd i hi, E.vk, E.sk, E.lk, E.nd, E.wf.ofPaper hd⟩
/-- a reader's row is put behind the others -/
theorem ExIn.reader (E : ExIn C H e st kvs) {row : List Int} {r : Addr} (hr : r ∉ e.own) (er : H r = some (.lst (row.map V.int))) (b : But e.b H H') (h1 : H' e.b = some (.lst (e.ps.map V.ref ++ [.ref r]))) : ExIn C H' { e with ps := e.ps ++ [r] } { st with rs := st.rs ++ [row] } kvs := by
  have N := E.N
  have lp := E.lp
  have nrb : r ≠ e.b := fun z => hr (z ▸ own_b)
  refine ⟨by rw [b _ N.xb]; exact E.ob, by rw [b _ N.ab]; exact E.ha, by rw [h1, List.map_append]; rfl, by rw [b _ N.bc.symm]; exact E.hc, by rw [b _ N.bd.symm]; exact E.hd, by show (e.ps ++ [r]).length = (st.rs ++ [row]).length; rw [List.length_append, List.length_append, lp]; rfl, E.lq, E.ld, fun i hi => ?_, fun i hi => by rw [b _ (ne_of_mem N.bq (E.iq hi))]; exact E.rq i hi, fun i hi => by rw [b _ (ne_of_mem N.bs (E.is hi))]; exact E.rd i hi, E.vk, E.sk, E.lk, ?_, E.wf.ofReader⟩
  · have hi' : i < (st.rs ++ [row]).length := hi
    rw [List.length_append, List.length_singleton] at hi'
    show H' ((e.ps ++ [r]).getD i 0) = some (.lst (((st.rs ++ [row]).getD i []).map V.int))
    by_cases z : i < st.rs.length
    · rw [getD_app_lt (by omega), getD_app_lt z, b _ (ne_of_mem N.bp (E.ip z))]
      exact E.rp i z
    · have z' : i = st.rs.length := by omega
      subst z'
      rw [getD_app_self, ← lp, getD_app_self, b _ nrb]
      exact er
  · refine nd_iff.mpr ⟨N.xa, N.xb, N.xc, N.xd, ?_, N.xq, N.xs, N.ab, N.ac, N.ad, ?_, N.aq, N.as, N.bc, N.bd, ?_, N.bq, N.bs, N.cd, ?_, N.cq, N.cs, ?_, N.dq, N.ds, ?_, N.nq, N.nds, ?_, ?_, N.qds⟩
    · exact fun h => (List.mem_append.mp h).elim N.xp fun h => hr (List.mem_singleton.mp h ▸ own_x)
    · exact fun h => (List.mem_append.mp h).elim N.ap fun h => hr (List.mem_singleton.mp h ▸ own_a)
    · exact fun h => (List.mem_append.mp h).elim N.bp fun h => hr (List.mem_singleton.mp h ▸ own_b)
    · exact fun h => (List.mem_append.mp h).elim N.cp fun h => hr (List.mem_singleton.mp h ▸ own_c)
    · exact fun h => (List.mem_append.mp h).elim N.dp fun h => hr (List.mem_singleton.mp h ▸ own_d)
    · exact List.nodup_append.mpr ⟨N.np, by simp, fun c hc d hd z => hr (by rw [← List.mem_singleton.mp hd, ← z]; exact own_p hc)⟩
    · exact fun c hc => (List.mem_append.mp hc).elim (N.pq c) fun h z => hr (by rw [← List.mem_singleton.mp h]; exact own_q z)
    · exact fun c hc => (List.mem_append.mp hc).elim (N.pds c) fun h z => hr (by rw [← List.mem_singleton.mp h]; exact own_ds z)
theorem own_reader {r b : Addr} (h : b ∈ ({ e with ps := e.ps ++ [r] } : ExAd).own) : b ∈ e.own ∨ b = r := by
  unfold ExAd.own at h ⊢
  simp only [List.mem_cons, List.mem_append, List.not_mem_nil, or_false] at h ⊢
  rcases h with h | h | h | h | h | (h | h) | h | h <;> simp [h]
theorem not_own (E : ExIn C H e st kvs) {b : Addr} (h : H b = none) : b ≠ e.x ∧ b ≠ e.a ∧ b ≠ e.b ∧ b ≠ e.c ∧ b ≠ e.d ∧ b ∉ e.ps ∧ b ∉ e.qs ∧ b ∉ e.ds := by
  have n := E.new h
  exact ⟨fun z => n (z ▸ own_x), fun z => n (z ▸ own_a), fun z => n (z ▸ own_b), fun z => n (z ▸ own_c), fun z => n (z ▸ own_d), fun z => n (own_p z), fun z => n (own_q z), fun z => n (own_ds z)⟩
/-- it is dealt -/
theorem ExIn.deal {p q : Addr} {rows : List (List Int)} {ds : List Addr} {H5 : Hp} (E : ExIn C H e st kvs) (hr : rightB st.hs st.rs rows = true) (R : RowsAt H p rows H1) (k : ∀ b o, H1 b = some o → b ≠ e.x → H5 b = some o)
    (hx : H5 e.x = some (.ins C e.dx (exFs (.ref e.a) (.ref e.b) (.int st.step) (.bl true) (.ref p) (.ref q)))) (hq : H5 q = some (.lst (ds.map V.ref))) (nq : H1 q = none) (ld : ds.length = rows.length) (nd : ds.Nodup)
    (hd : ∀ i, i < rows.length → H5 (ds.getD i 0) = some (.dK []) ∧ H1 (ds.getD i 0) = none ∧ ds.getD i 0 ≠ q) :
    ∃ e', e'.x = e.x ∧ ExIn C H5 e' { st with dl := some (rows, []) } (rows.map fun _ => []) ∧ ∀ b ∈ e'.own, b ∈ e.own ∨ H b = none := by
  obtain ⟨s, np, qs, hp, lq, ndq, hrow⟩ := R
  have N := E.N
  have hf : ∀ {b o}, H b = some o → b ≠ e.x → H5 b = some o := fun h n => k _ _ (s _ _ h) n
  have mq : ∀ b ∈ qs, H b = none ∧ b ≠ p ∧ ∃ o, H1 b = some o := fun b hb => by
    obtain ⟨i, hi, ei⟩ := L2.mem_getD (d := 0) hb
    obtain ⟨h1, h2, h3⟩ := hrow i (by omega)
    rw [ei] at h1 h2 h3
    exact ⟨h2, h3, _, h1⟩
  have md : ∀ b ∈ ds, H1 b = none ∧ b ≠ q := fun b hb => by
    obtain ⟨i, hi, ei⟩ := L2.mem_getD (d := 0) hb
    obtain ⟨h1, h2, h3⟩ := hd i (by omega)
    rw [ei] at h1 h2 h3
    exact ⟨h2, h3⟩
  have nqH : H q = none := s.free nq
  have P := not_own E np
  have Q := not_own E nqH
  have D := fun {b} hb => not_own E (s.free (md b hb).1)
  have M := fun {b} hb => not_own E (mq b hb).1
  refine ⟨{ e with c := p, d := q, qs := qs, ds := ds }, rfl, ⟨hx, hf E.ha N.xa.symm, hf E.hb N.xb.symm, k _ _ hp P.1, hq, E.lp, lq, ld, fun i hi => hf (E.rp i hi) (ne_of_mem N.xp (E.ip hi)), fun i hi => ?_, fun i hi => ?_, fun i hi r => ?_, fun i hi => ?_, by show (rows.map fun _ => _).length = rows.length; rw [List.length_map], nd_iff.mpr ?_, E.wf.ofDeal hr⟩, ?_⟩
  · exact k _ _ (hrow i hi).1 (M (getDm (show i < qs.length by rw [lq]; exact hi))).1
  · have hi' : i < rows.length := hi
    have e0 : (rows.map fun _ => ([] : List (Key × V))).getD i [] = [] := by rw [List.getD_eq_getElem?_getD, List.getElem?_map, List.getElem?_eq_getElem hi']; rfl
    rw [e0]
    exact (hd i hi).1
  · have hi' : i < rows.length := hi
    have e0 : (rows.map fun _ => ([] : List (Key × V))).getD i [] = [] := by rw [List.getD_eq_getElem?_getD, List.getElem?_map, List.getElem?_eq_getElem hi']; rfl
    rw [e0]
    rfl
  · have hi' : i < rows.length := hi
    have e0 : (rows.map fun _ => ([] : List (Key × V))).getD i [] = [] := by rw [List.getD_eq_getElem?_getD, List.getElem?_map, List.getElem?_eq_getElem hi']; rfl
    rw [e0]
    exact Nat.zero_le _
  · exact ⟨N.xa, N.xb, P.1.symm, Q.1.symm, N.xp, fun h => (M h).1 rfl, fun h => (D h).1 rfl, N.ab, P.2.1.symm, Q.2.1.symm, N.ap, fun h => (M h).2.1 rfl, fun h => (D h).2.1 rfl, P.2.2.1.symm, Q.2.2.1.symm, N.bp, fun h => (M h).2.2.1 rfl, fun h => (D h).2.2.1 rfl,
      fun z => (by rw [← show p = q from z, hp] at nq; cases nq), P.2.2.2.2.2.1, fun h => (mq _ h).2.1 rfl, fun h => (by have := (md _ h).1; rw [hp] at this; cases this), Q.2.2.2.2.2.1, fun h => (by obtain ⟨o, z⟩ := (mq _ h).2.2; rw [nq] at z; cases z), fun h => (md _ h).2 rfl, N.np, ndq, nd,
      fun b h h' => (M h').2.2.2.2.2.1 h, fun b h h' => (D h').2.2.2.2.2.1 h, fun b h h' => (by obtain ⟨o, z⟩ := (mq _ h).2.2; rw [(md _ h').1] at z; cases z)⟩
  · intro b hb
    unfold ExAd.own at hb
    simp only [List.mem_cons, List.mem_append] at hb
    rcases hb with h | h | h | h | h | h | h | h
    · exact .inl (h ▸ own_x)
    · exact .inl (h ▸ own_a)
    · exact .inl (h ▸ own_b)
    · exact .inr (h ▸ np)
    · exact .inr (h ▸ nqH)
    · exact .inl (own_p h)
    · exact .inr (mq _ h).1
    · exact .inr (s.free (md _ h).1)
theorem ex_getD_set {α : Type} {xs : List α} {k i : Nat} {v d : α} (hk : k < xs.length) : (xs.set k v).getD i d = if i = k then v else xs.getD i d := by
  rw [List.getD_eq_getElem?_getD, List.getElem?_set]
  by_cases h : i = k
  · subst h; rw [if_pos rfl, if_pos rfl, if_pos hk]; rfl
  · rw [if_neg (fun z => h z.symm), if_neg h, List.getD_eq_getElem?_getD]
theorem ex_nodup_getD {ps : List Addr} (nd : ps.Nodup) {i j : Nat} (hi : i < ps.length) (hj : j < ps.length) (h : ps.getD i 0 = ps.getD j 0) : i = j := by
  rw [List.getD_eq_getElem?_getD, List.getD_eq_getElem?_getD, List.getElem?_eq_getElem hi, List.getElem?_eq_getElem hj] at h
  exact (List.getElem_inj nd).mp h
/-- points are entered -/
theorem ExIn.enter {nm en : List (List Int)} {k : Nat} {r pts : Int} (E : ExIn C H e st kvs) (hdl : st.dl = some (nm, en)) (hk : k < nm.length) (hpt : 0 ≤ pts ∧ pts ≤ 100) (b : But (e.ds.getD k 0) H H')
    (h1 : H' (e.ds.getD k 0) = some (.dK (putK (kvs.getD k []) (Sum.inl r : Key) (.int pts)))) :
    ExIn C H' e { st with dl := some (nm, en ++ [[(k : Int) + 1, r, pts]]) } (kvs.set k (putK (kvs.getD k []) (Sum.inl r : Key) (.int pts))) := by
  have N := E.N
  have enm : st.nm = nm := by unfold ExS.nm; rw [hdl]; rfl
  have een : st.en = en := by unfold ExS.en; rw [hdl]; rfl
  have ld := E.ld
  have lk := E.lk
  rw [enm] at ld lk
  have hm : e.ds.getD k 0 ∈ e.ds := getDm (by omega)
  have ne : ∀ {l}, l ∉ e.ds → l ≠ e.ds.getD k 0 := fun h z => h (z ▸ hm)
  have hs : st.dl.isSome = true := by rw [hdl]; rfl
  have ob := E.ob
  rw [hs] at ob
  refine ⟨by rw [b _ (ne N.xs)]; exact ob, by rw [b _ (ne N.as)]; exact E.ha, by rw [b _ (ne N.bs)]; exact E.hb, by rw [b _ (ne N.cs)]; exact E.hc, by rw [b _ (ne N.ds)]; exact E.hd, E.lp, by have := E.lq; rw [enm] at this; exact this, ld, fun i hi => ?_, fun i hi => ?_, fun i hi => ?_, fun i hi r' => ?_, fun i hi => ?_, by rw [List.length_set]; exact lk, E.nd, E.wf.ofEnter hdl hpt⟩
  · rw [b _ (ne (N.pds _ (E.ip hi)))]; exact E.rp i hi
  · have hi' : i < st.nm.length := by rw [enm]; exact hi
    have := E.rq i hi'
    rw [enm] at this
    rw [b _ (ne (N.qds _ (E.iq hi')))]; exact this
  · have hi' : i < nm.length := hi
    rw [ex_getD_set (by omega)]
    by_cases z : i = k
    · subst z; rw [if_pos rfl]; exact h1
    · rw [if_neg z, b _ (fun w => z (ex_nodup_getD N.nds (by omega) (by omega) w))]
      exact E.rd i (by rw [enm]; exact hi)
  · have hi' : i < nm.length := hi
    have hv := E.vk i (by rw [enm]; exact hi) r'
    rw [een] at hv
    show valV _ _ = (entOf (en ++ [[(k : Int) + 1, r, pts]]) i r').map V.int
    rw [ex_getD_set (by omega), entOf_snoc]
    by_cases z : i = k
    · subst z
      rw [if_pos rfl, valV_put]
      by_cases zr : r' = r
      · subst zr
        rw [if_pos rfl, if_pos ⟨rfl, rfl⟩]
        rfl
      · rw [if_neg (fun w => zr (Sum.inl.inj w)), if_neg (fun w => zr w.2.symm)]
        exact hv
    · rw [if_neg z, if_neg (fun w => z (by have h2 : (k : Int) + 1 = (i : Int) + 1 := w.1; omega))]
      exact hv
  · have hi' : i < nm.length := hi
    have hv := E.sk i (by rw [enm]; exact hi)
    rw [een] at hv
    show _ ≤ (en ++ [_]).length
    rw [ex_getD_set (by omega), List.length_append, List.length_singleton]
    by_cases z : i = k
    · subst z; rw [if_pos rfl]
      have := length_putK (kvs.getD i []) (Sum.inl r : Key) (.int pts)
      omega
    · rw [if_neg z]; omega
/-- a third reader is named -/
theorem ExIn.third {nm en : List (List Int)} {k : Nat} {t : Int} (E : ExIn C H e st kvs) (hdl : st.dl = some (nm, en)) (hk : k < nm.length) {f s : Int} (hrow : nm.getD k [] = [f, s]) (ht : 1 ≤ t ∧ t ≤ st.rs.length) (hn : t ∉ [f, s]) (hf : (entOf en k f).isSome = true) (hs' : (entOf en k s).isSome = true) (b : But (e.qs.getD k 0) H H')
    (h1 : H' (e.qs.getD k 0) = some (.lst ((nm.getD k []).map V.int ++ [.int t]))) :
    ExIn C H' e { st with dl := some (nm.set k (nm.getD k [] ++ [t]), en) } kvs := by
  have N := E.N
  have enm : st.nm = nm := by unfold ExS.nm; rw [hdl]; rfl
  have een : st.en = en := by unfold ExS.en; rw [hdl]; rfl
  have lq := E.lq
  have lk := E.lk
  rw [enm] at lq lk
  have hm : e.qs.getD k 0 ∈ e.qs := getDm (by omega)
  have ne : ∀ {l}, l ∉ e.qs → l ≠ e.qs.getD k 0 := fun h z => h (z ▸ hm)
  have hs : st.dl.isSome = true := by rw [hdl]; rfl
  have ob := E.ob
  rw [hs] at ob
  have ls : (nm.set k (nm.getD k [] ++ [t])).length = nm.length := List.length_set
  refine ⟨by rw [b _ (ne N.xq)]; exact ob, by rw [b _ (ne N.aq)]; exact E.ha, by rw [b _ (ne N.bq)]; exact E.hb, by rw [b _ (ne N.cq)]; exact E.hc, by rw [b _ (ne N.dq)]; exact E.hd, E.lp, lq.trans ls.symm, by have := E.ld; rw [enm] at this; exact this.trans ls.symm, fun i hi => ?_, fun i hi => ?_, fun i hi => ?_, fun i hi r' => ?_, fun i hi => ?_, lk.trans ls.symm, E.nd, E.wf.ofThird hdl hk hrow ht hn hf hs'⟩
  · rw [b _ (ne (N.pq _ (E.ip hi)))]; exact E.rp i hi
  · have hi' : i < nm.length := by rw [← ls]; exact hi
    show H' _ = some (.lst (((nm.set k (nm.getD k [] ++ [t])).getD i []).map V.int))
    rw [ex_getD_set hk]
    by_cases z : i = k
    · subst z; rw [if_pos rfl, h1, List.map_append]; rfl
    · rw [if_neg z, b _ (fun w => z (ex_nodup_getD N.nq (by omega) (by omega) w))]
      have := E.rq i (by rw [enm]; exact hi')
      rw [enm] at this
      exact this
  · have hi' : i < nm.length := by rw [← ls]; exact hi
    rw [b _ (fun w => N.qds _ hm (by rw [← w]; exact E.is (by rw [enm]; exact hi')))]
    exact E.rd i (by rw [enm]; exact hi')
  · have hi' : i < nm.length := by rw [← ls]; exact hi
    have hv := E.vk i (by rw [enm]; exact hi') r'
    rw [een] at hv
    exact hv
  · have hi' : i < nm.length := by rw [← ls]; exact hi
    have hv := E.sk i (by rw [enm]; exact hi')
    rw [een] at hv
    exact hv
end
theorem Wf.n10 {st : ExS} (w : Wf st) (B : InB st.hs st.rs) : st.nm.length ≤ 10 := by
  cases h : st.dl with
  | none => rw [nm_open h]; exact Nat.zero_le _
  | some d => rw [w.ln (by rw [h]; rfl)]; exact B.lp
theorem ExAt.wf {C x : Addr} {H : Hp} {F : Addr → Prop} {st : ExS} (E : ExAt C H x F st) : Wf st := by
  obtain ⟨e, kvs, _, _, I⟩ := E
  exact I.wf
/-! ### what an exam tells -/
def wantB (nm en : List (List Int)) (k : Nat) : List Int := (nm.getD k []).filter fun r => (entOf en k r).isNone
def dueB (nm en : List (List Int)) : List (List Int) := (List.range nm.length).flatMap fun k => (wantB nm en k).map fun r => [(k : Int) + 1, r]
def dueS (st : ExS) : List (List Int) := dueB st.nm st.en
def ptsOf (nm en : List (List Int)) (k : Nat) : List Int := (nm.getD k []).map fun r => (entOf en k r).getD 0
def leftS (st : ExS) : List Int := leftB st.rs st.nm
theorem leftS_open {st : ExS} (h : st.dl = none) : leftS st = (List.range st.rs.length).map fun i => (st.rs.getD i []).getD 1 0 := by
  unfold leftS leftB ExS.nm
  rw [h]
  refine List.map_congr_left fun k _ => ?_
  show _ - ((0 : Nat) : Int) = _
  simp
def MarkB (xs : List Int) (s : Int) : List Int := if xs.length = 2 then mark2 (xs.getD 0 0) (xs.getD 1 0) s else [mid3 (xs.getD 0 0) (xs.getD 1 0) (xs.getD 2 0), 1]
def markAt (nm en : List (List Int)) (step : Int) (k : Nat) : Option (Int × Int × List (List Int)) := if wantB nm en k = [] then some ((MarkB (ptsOf nm en k) step).getD 0 0, (MarkB (ptsOf nm en k) step).getD 1 0, ((nm.getD k []).zip (ptsOf nm en k)).map fun p => [p.1, p.2]) else none
def marksS (st : ExS) : List (Option (Int × Int × List (List Int))) := match st.dl with
  | none => (List.range st.hs.length).map fun _ => none
  | some (nm, en) => (List.range st.hs.length).map (markAt nm en st.step)
abbrev Mk3 := Option (Int × Int × List (List Int))
def MarkIs (B : Hp) (v : V) (m : Mk3) (H : Hp) : Prop := match m with
  | none => v = .non
  | some (t, b, rows) => ∃ (q r : Addr) (ps : List Addr), v = .ref q ∧ B q = none ∧ B r = none ∧ H q = some (.lst [.int t, .int b, .ref r]) ∧ H r = some (.lst (ps.map V.ref)) ∧ ps.length = rows.length ∧ ∀ j, j < rows.length → B (ps.getD j 0) = none ∧ H (ps.getD j 0) = some (.lst ((rows.getD j []).map V.int))
structure MarksAt (B : Hp) (p : Addr) (ms : List Mk3) (H : Hp) : Prop where
  same : Same B H
  new : B p = none
  vals : ∃ vs : List V, H p = some (.lst vs) ∧ vs.length = ms.length ∧ ∀ i, i < ms.length → MarkIs B (vs.getD i .non) (ms.getD i none) H
theorem dueB_take (nm en : List (List Int)) (i : Nat) (h : i < nm.length) : ((List.range (i + 1)).flatMap fun k => (wantB nm en k).map fun r => [(k : Int) + 1, r]) = ((List.range i).flatMap fun k => (wantB nm en k).map fun r => [(k : Int) + 1, r]) ++ (wantB nm en i).map fun r => [(i : Int) + 1, r] := by
  rw [List.range_succ, List.flatMap_append, List.flatMap_singleton]
theorem want_le (nm en : List (List Int)) (k : Nat) : (wantB nm en k).length ≤ (nm.getD k []).length := List.length_filter_le _ _
theorem pts_len (nm en : List (List Int)) (k : Nat) : (ptsOf nm en k).length = (nm.getD k []).length := by unfold ptsOf; rw [List.length_map]
theorem want_nil {nm en : List (List Int)} {k : Nat} (h : wantB nm en k = []) {r : Int} (hr : r ∈ nm.getD k []) : ∃ p, entOf en k r = some p := by
  cases e : entOf en k r with
  | some p => exact ⟨p, rfl⟩
  | none =>
    have : r ∈ wantB nm en k := List.mem_filter.mpr ⟨hr, by rw [e]; rfl⟩
    rw [h] at this
    cases this
theorem Wf.ptsOf {st : ExS} (w : Wf st) {k : Nat} {p : Int} (h : p ∈ ptsOf st.nm st.en k) : 0 ≤ p ∧ p ≤ 100 := by
  unfold Prf.ptsOf at h
  obtain ⟨r, hr, rfl⟩ := List.mem_map.mp h
  cases e : entOf st.en k r with
  | none => exact ⟨by decide, by decide⟩
  | some p => exact w.pts k r p e
/-- a mark that is told, apart from the list that is being filled -/
def MarkIsN (B : Hp) (p : Addr) (v : V) (m : Mk3) (H : Hp) : Prop := match m with
  | none => v = .non
  | some (t, b, rows) => ∃ (q r : Addr) (ps : List Addr), v = .ref q ∧ (B q = none ∧ q ≠ p) ∧ (B r = none ∧ r ≠ p) ∧ H q = some (.lst [.int t, .int b, .ref r]) ∧ H r = some (.lst (ps.map V.ref)) ∧ ps.length = rows.length ∧ ∀ j, j < rows.length → (B (ps.getD j 0) = none ∧ ps.getD j 0 ≠ p) ∧ H (ps.getD j 0) = some (.lst ((rows.getD j []).map V.int))
theorem MarkIsN.keep {B H1 H2 : Hp} {p : Addr} {v : V} {m : Mk3} (h : MarkIsN B p v m H1) (k : ∀ b o, H1 b = some o → b ≠ p → H2 b = some o) : MarkIsN B p v m H2 := by
  match m, h with
  | none, h => exact h
  | some (t, b, rows), ⟨q, r, ps, h1, h2, h3, h4, h5, h6, h7⟩ => exact ⟨q, r, ps, h1, h2, h3, k _ _ h4 h2.2, k _ _ h5 h3.2, h6, fun j hj => ⟨(h7 j hj).1, k _ _ (h7 j hj).2 (h7 j hj).1.2⟩⟩
theorem MarkIsN.is {B H1 : Hp} {p : Addr} {v : V} {m : Mk3} (h : MarkIsN B p v m H1) : MarkIs B v m H1 := by
  match m, h with
  | none, h => exact h
  | some (t, b, rows), ⟨q, r, ps, h1, h2, h3, h4, h5, h6, h7⟩ => exact ⟨q, r, ps, h1, h2.1, h3.1, h4, h5, h6, fun j hj => ⟨(h7 j hj).1.1, (h7 j hj).2⟩⟩
theorem MarkIs.new {B H0 H1 : Hp} {p : Addr} {v : V} {m : Mk3} {ys : List V} (h : MarkIs H0 v m H1) (s : Same B H0) (hp : H0 p = some (.lst ys)) : MarkIsN B p v m H1 := by
  match m, h with
  | none, h => exact h
  | some (t, b, rows), ⟨q, r, ps, h1, h2, h3, h4, h5, h6, h7⟩ => exact ⟨q, r, ps, h1, ⟨s.free h2, (ne_of_none hp h2).symm⟩, ⟨s.free h3, (ne_of_none hp h3).symm⟩, h4, h5, h6, fun j hj => ⟨⟨s.free (h7 j hj).1, (ne_of_none hp (h7 j hj).1).symm⟩, (h7 j hj).2⟩⟩
end Prf
namespace L2
open PySem PySem.Spec PyProof.Rows
section
variable {X : Cx} {K : PySem.W.Frag}
variable {H : Hp} {Q : VK} {a : Addr} {ns : List Int}
end
end L2
namespace Prf
open PySem PySem.Spec PyProof.Rows L2
theorem RowOk.sorted {n k : Nat} {nm en : List (List Int)} (h : RowOk n en k (nm.getD k [])) : (wantB nm en k).Pairwise (· ≤ ·) := by
  unfold wantB
  obtain ⟨f, s, h1, h2, h3, h4 | ⟨t, h4, _, _, _, _, t5, t6⟩⟩ := h
  · rw [h4]
    refine List.Pairwise.filter _ ?_
    simp
    omega
  · rw [h4]
    have e1 : (entOf en k f).isNone = false := by rw [← Option.not_isSome, t5]; rfl
    have e2 : (entOf en k s).isNone = false := by rw [← Option.not_isSome, t6]; rfl
    rw [List.filter_cons, e1, List.filter_cons, e2]
    refine List.Pairwise.filter _ ?_
    simp
theorem RowOk.nodup {n k : Nat} {en : List (List Int)} {row : List Int} (h : RowOk n en k row) : row.Nodup := by
  obtain ⟨f, s, h1, h2, h3, h4 | ⟨t, h4, _, _, t1, t2, _⟩⟩ := h
  · rw [h4]; simp; omega
  · rw [h4]; simp
    exact ⟨⟨by omega, fun z => t1 z.symm⟩, fun z => t2 z.symm⟩
theorem _root_.L2.RowsAt.mono {B H H' : Hp} {p : Addr} {rs : List (List Int)} (R : RowsAt B p rs H) (s : Same H H') : RowsAt B p rs H' := by
  obtain ⟨a, b, ps, h1, h2, h3, h4⟩ := R
  exact ⟨a.trans s, b, ps, s _ _ h1, h2, h3, fun i hi => ⟨s _ _ (h4 i hi).1, (h4 i hi).2⟩⟩
structure MarksN (B : Hp) (p : Addr) (ms : List Mk3) (H : Hp) : Prop where
  same : Same B H
  new : B p = none
  vals : ∃ vs : List V, H p = some (.lst vs) ∧ vs.length = ms.length ∧ ∀ i, i < ms.length → MarkIsN B p (vs.getD i .non) (ms.getD i none) H
theorem MarksN.at {B H : Hp} {p : Addr} {ms : List Mk3} (M : MarksN B p ms H) : MarksAt B p ms H := by
  obtain ⟨h1, h2, vs, h3, h4, h5⟩ := M
  exact ⟨h1, h2, vs, h3, h4, fun i hi => (h5 i hi).is⟩
theorem MarksN.push {B H H2 H3 : Hp} {p : Addr} {ms : List Mk3} {m : Mk3} {v : V} {zs : List V} (R : MarksN B p ms H) (s : Same H H2) (hv : MarkIs H v m H2) (hz : H2 p = some (.lst zs)) (b : But p H2 H3) (e3 : H3 p = some (.lst (zs ++ [v]))) : MarksN B p (ms ++ [m]) H3 := by
  obtain ⟨sb, hp, vs, h1, h2, h3⟩ := R
  have ez : vs = zs := by rw [s _ _ h1] at hz; exact HO.lst.inj (Option.some.inj hz)
  subst ez
  refine ⟨(sb.trans s).but b hp, hp, vs ++ [v], e3, by rw [List.length_append, List.length_append, h2]; rfl, fun i hi => ?_⟩
  rw [List.length_append, List.length_singleton] at hi
  by_cases hlt : i < ms.length
  · rw [getD_app_lt (by omega), getD_app_lt hlt]
    exact (h3 i hlt).keep fun c o e n => by rw [b c n]; exact s _ _ e
  · have e0 : i = ms.length := by omega
    subst e0
    rw [getD_app_self, ← h2, getD_app_self]
    exact (hv.new sb h1).keep fun c o e n => by rw [b c n]; exact e
/-! ### the law's own ledger: papers, readers, names, entries -/
structure LdA where
  a : Addr
  b : Addr
  c : Addr
  d : Addr
  ps : List Addr
  qs : List Addr
  es : List Addr
def LdA.all (l : LdA) : List Addr := l.a :: l.b :: l.c :: l.d :: (l.ps ++ (l.qs ++ l.es))
structure Led (H : Hp) (l : LdA) (hs : List Int) (rs nm en : List (List Int)) : Prop where
  ha : H l.a = some (.lst (hs.map V.int))
  hb : H l.b = some (.lst (l.ps.map V.ref))
  hc : H l.c = some (.lst (l.qs.map V.ref))
  hd : H l.d = some (.lst (l.es.map V.ref))
  lp : l.ps.length = rs.length
  lq : l.qs.length = nm.length
  le : l.es.length = en.length
  rp : ∀ i, i < rs.length → H (l.ps.getD i 0) = some (.lst ((rs.getD i []).map V.int))
  rq : ∀ i, i < nm.length → H (l.qs.getD i 0) = some (.lst ((nm.getD i []).map V.int))
  re : ∀ i, i < en.length → H (l.es.getD i 0) = some (.lst ((en.getD i []).map V.int))
  nd : l.all.Nodup
section
variable {H H' : Hp} {l : LdA} {hs : List Int} {rs nm en : List (List Int)} {K : PySem.W.Frag}
theorem Led.keep (L : Led H l hs rs nm en) (k : ∀ b o, b ∈ l.all → H b = some o → H' b = some o) : Led H' l hs rs nm en := by
  have mp : ∀ {b}, b ∈ l.ps → b ∈ l.all := fun h => by unfold LdA.all; simp [h]
  have mq : ∀ {b}, b ∈ l.qs → b ∈ l.all := fun h => by unfold LdA.all; simp [h]
  have me : ∀ {b}, b ∈ l.es → b ∈ l.all := fun h => by unfold LdA.all; simp [h]
  exact ⟨k _ _ (by unfold LdA.all; simp) L.ha, k _ _ (by unfold LdA.all; simp) L.hb, k _ _ (by unfold LdA.all; simp) L.hc, k _ _ (by unfold LdA.all; simp) L.hd, L.lp, L.lq, L.le, fun i hi => k _ _ (mp (getDm (by rw [L.lp]; exact hi))) (L.rp i hi), fun i hi => k _ _ (mq (getDm (by rw [L.lq]; exact hi))) (L.rq i hi), fun i hi => k _ _ (me (getDm (by rw [L.le]; exact hi))) (L.re i hi), L.nd⟩
theorem Led.same (L : Led H l hs rs nm en) (s : Same H H') : Led H' l hs rs nm en := L.keep fun b o _ e => s b o e
theorem Led.mem (L : Led H l hs rs nm en) {b : Addr} (h : b ∈ l.all) : ∃ o, H b = some o := by
  unfold LdA.all at h
  simp only [List.mem_cons, List.mem_append] at h
  rcases h with h | h | h | h | h | h | h
  · exact ⟨_, h ▸ L.ha⟩
  · exact ⟨_, h ▸ L.hb⟩
  · exact ⟨_, h ▸ L.hc⟩
  · exact ⟨_, h ▸ L.hd⟩
  · obtain ⟨i, hi, ei⟩ := L2.mem_getD (d := 0) h
    exact ⟨_, ei ▸ L.rp i (by have := L.lp; omega)⟩
  · obtain ⟨i, hi, ei⟩ := L2.mem_getD (d := 0) h
    exact ⟨_, ei ▸ L.rq i (by have := L.lq; omega)⟩
  · obtain ⟨i, hi, ei⟩ := L2.mem_getD (d := 0) h
    exact ⟨_, ei ▸ L.re i (by have := L.le; omega)⟩
theorem Led.ld (L : Led H l hs rs nm en) : LL K H l.d en := ⟨l.es, SqL.of L.hd, L.le, L.re⟩
structure LdNd (l : LdA) : Prop where
  ab : l.a ≠ l.b
  ac : l.a ≠ l.c
  ad : l.a ≠ l.d
  ap : l.a ∉ l.ps
  aq : l.a ∉ l.qs
  ae : l.a ∉ l.es
  bc : l.b ≠ l.c
  bd : l.b ≠ l.d
  bp : l.b ∉ l.ps
  bq : l.b ∉ l.qs
  be : l.b ∉ l.es
  cd : l.c ≠ l.d
  cp : l.c ∉ l.ps
  cq : l.c ∉ l.qs
  ce : l.c ∉ l.es
  dp : l.d ∉ l.ps
  dq : l.d ∉ l.qs
  de : l.d ∉ l.es
  np : l.ps.Nodup
  nq : l.qs.Nodup
  ne : l.es.Nodup
  pq : ∀ b, b ∈ l.ps → b ∉ l.qs
  pe : ∀ b, b ∈ l.ps → b ∉ l.es
  qe : ∀ b, b ∈ l.qs → b ∉ l.es
theorem ld_iff : l.all.Nodup ↔ LdNd l := by
  unfold LdA.all
  simp only [List.nodup_cons, List.mem_cons, List.mem_append, List.nodup_append, not_or]
  constructor
  · rintro ⟨⟨ab, ac, ad, ap, aq, ae⟩, ⟨bc, bd, bp, bq, be⟩, ⟨cd, cp, cq, ce⟩, ⟨dp, dq, de⟩, np, ⟨nq, ne, qe⟩, pqe⟩
    exact ⟨ab, ac, ad, ap, aq, ae, bc, bd, bp, bq, be, cd, cp, cq, ce, dp, dq, de, np, nq, ne, fun b h h' => pqe b h b (.inl h') rfl, fun b h h' => pqe b h b (.inr h') rfl, fun b h h' => qe b h b h' rfl⟩
  · intro N
    exact ⟨⟨N.ab, N.ac, N.ad, N.ap, N.aq, N.ae⟩, ⟨N.bc, N.bd, N.bp, N.bq, N.be⟩, ⟨N.cd, N.cp, N.cq, N.ce⟩, ⟨N.dp, N.dq, N.de⟩, N.np, ⟨N.nq, N.ne, fun a h b h' z => N.qe a h (z ▸ h')⟩, fun a h b h' z => h'.elim (fun h' => N.pq a h (z ▸ h')) fun h' => N.pe a h (z ▸ h')⟩
/-- an entry is put down -/
theorem Led.entry {o : Addr} {row : List Int} (L : Led H l hs rs nm en) (ho : o ∉ l.all) (eo : H o = some (.lst (row.map V.int))) (b : But l.d H H') (h1 : H' l.d = some (.lst (l.es.map V.ref ++ [.ref o]))) : Led H' { l with es := l.es ++ [o] } hs rs nm (en ++ [row]) := by
  have N := ld_iff.mp L.nd
  have le := L.le
  have no : o ≠ l.d := fun z => ho (by rw [z]; unfold LdA.all; simp)
  refine ⟨by rw [b _ N.ad]; exact L.ha, by rw [b _ N.bd]; exact L.hb, by rw [b _ N.cd]; exact L.hc, by rw [h1, List.map_append]; rfl, L.lp, L.lq, by show (l.es ++ [o]).length = _; rw [List.length_append, List.length_append, le]; rfl, fun i hi => ?_, fun i hi => ?_, fun i hi => ?_, ?_⟩
  · rw [b _ (ne_of_mem N.dp (getDm (by rw [L.lp]; exact hi)))]; exact L.rp i hi
  · rw [b _ (ne_of_mem N.dq (getDm (by rw [L.lq]; exact hi)))]; exact L.rq i hi
  · rw [List.length_append, List.length_singleton] at hi
    show H' ((l.es ++ [o]).getD i 0) = _
    by_cases z : i < en.length
    · rw [getD_app_lt (by omega), getD_app_lt z, b _ (ne_of_mem N.de (getDm (by omega)))]
      exact L.re i z
    · have z' : i = en.length := by omega
      subst z'
      rw [getD_app_self, ← le, getD_app_self, b _ no]
      exact eo
  · have ho' := ho
    unfold LdA.all at ho'
    simp only [List.mem_cons, List.mem_append, not_or] at ho'
    obtain ⟨oa, ob, oc, od, op, oq, oe⟩ := ho'
    have ma : ∀ {x}, x ∉ l.es → o ≠ x → x ∉ l.es ++ [o] := fun h1 h2 z => (List.mem_append.mp z).elim h1 fun z => h2 (List.mem_singleton.mp z).symm
    exact ld_iff.mpr ⟨N.ab, N.ac, N.ad, N.ap, N.aq, ma N.ae oa, N.bc, N.bd, N.bp, N.bq, ma N.be ob, N.cd, N.cp, N.cq, ma N.ce oc, N.dp, N.dq, ma N.de od, N.np, N.nq, List.nodup_append.mpr ⟨N.ne, by simp, fun c hc d hd z => oe (by rw [← List.mem_singleton.mp hd, ← z]; exact hc)⟩, N.pq, fun c hc => ma (N.pe c hc) (fun z => op (z ▸ hc)), fun c hc => ma (N.qe c hc) (fun z => oq (z ▸ hc))⟩
/-- a name is put behind a row -/
theorem Led.name {k : Nat} {row : List Int} (L : Led H l hs rs nm en) (hk : k < nm.length) (b : But (l.qs.getD k 0) H H') (h1 : H' (l.qs.getD k 0) = some (.lst (row.map V.int))) : Led H' l hs rs (nm.set k row) en := by
  have N := ld_iff.mp L.nd
  have lq := L.lq
  have hm : l.qs.getD k 0 ∈ l.qs := getDm (by omega)
  have ne : ∀ {x}, x ∉ l.qs → x ≠ l.qs.getD k 0 := fun h z => h (z ▸ hm)
  have ls : (nm.set k row).length = nm.length := List.length_set
  refine ⟨by rw [b _ (ne N.aq)]; exact L.ha, by rw [b _ (ne N.bq)]; exact L.hb, by rw [b _ (ne N.cq)]; exact L.hc, by rw [b _ (ne N.dq)]; exact L.hd, L.lp, lq.trans ls.symm, L.le, fun i hi => ?_, fun i hi => ?_, fun i hi => ?_, L.nd⟩
  · rw [b _ (ne (N.pq _ (getDm (by rw [L.lp]; exact hi))))]; exact L.rp i hi
  · rw [ls] at hi
    rw [ex_getD_set hk]
    by_cases z : i = k
    · subst z; rw [if_pos rfl]; exact h1
    · rw [if_neg z, b _ (fun w => z (ex_nodup_getD N.nq (by omega) (by omega) w))]
      exact L.rq i hi
  · rw [b _ (fun w => N.qe _ hm (by rw [← w]; exact getDm (by rw [L.le]; exact hi)))]; exact L.re i hi
end
/-- a mark as it is read -/
def MkV (H : Hp) (v : V) (m : Mk3) : Prop := match m with
  | none => v = .non
  | some (t, b, rows) => ∃ (q r : Addr) (ps : List Addr), v = .ref q ∧ H q = some (.lst [.int t, .int b, .ref r]) ∧ H r = some (.lst (ps.map V.ref)) ∧ ps.length = rows.length ∧ ∀ j, j < rows.length → H (ps.getD j 0) = some (.lst ((rows.getD j []).map V.int))
def MkL (H : Hp) (a : Addr) (ms : List Mk3) : Prop := ∃ vs : List V, H a = some (.lst vs) ∧ vs.length = ms.length ∧ ∀ i, i < ms.length → MkV H (vs.getD i .non) (ms.getD i none)
theorem MarkIs.v {B H : Hp} {v : V} {m : Mk3} (h : MarkIs B v m H) : MkV H v m := by
  match m, h with
  | none, h => exact h
  | some (t, b, rows), ⟨q, r, ps, h1, h2, h3, h4, h5, h6, h7⟩ => exact ⟨q, r, ps, h1, h4, h5, h6, fun j hj => (h7 j hj).2⟩
theorem MkV.same {H H' : Hp} {v : V} {m : Mk3} (h : MkV H v m) (s : Same H H') : MkV H' v m := by
  match m, h with
  | none, h => exact h
  | some (t, b, rows), ⟨q, r, ps, h1, h4, h5, h6, h7⟩ => exact ⟨q, r, ps, h1, s _ _ h4, s _ _ h5, h6, fun j hj => s _ _ (h7 j hj)⟩
theorem MarksAt.l {B H : Hp} {p : Addr} {ms : List Mk3} (M : MarksAt B p ms H) : MkL H p ms := by
  obtain ⟨_, _, vs, h1, h2, h3⟩ := M
  exact ⟨vs, h1, h2, fun i hi => (h3 i hi).v⟩
theorem MkL.same {H H' : Hp} {a : Addr} {ms : List Mk3} (h : MkL H a ms) (s : Same H H') : MkL H' a ms := by
  obtain ⟨vs, h1, h2, h3⟩ := h
  exact ⟨vs, s _ _ h1, h2, fun i hi => (h3 i hi).same s⟩
/-- an exam that is dealt, and the law's ledger of it -/
structure Both (C : Addr) (H0 H : Hp) (x : Addr) (F : Addr → Prop) (st : ExS) (l : LdA) : Prop where
  ex : ExAt C H x F st
  inb : InB st.hs st.rs
  dl : st.dl.isSome = true
  led : Led H l st.hs st.rs st.nm st.en
  nf : ∀ b ∈ l.all, ¬ F b
  same : Same H0 H
  nf0 : ∀ b o, H0 b = some o → ¬ F b
  nl0 : ∀ b ∈ l.d :: l.qs, H0 b = none
  e3 : ∀ i, i < st.en.length → (st.en.getD i []).length = 3
theorem Both.grow {C : Addr} {H0 H H' : Hp} {x : Addr} {F : Addr → Prop} {st : ExS} {l : LdA} (B : Both C H0 H x F st l) (s : Same H H') : Both C H0 H' x F st l :=
  ⟨B.ex.same s, B.inb, B.dl, B.led.same s, B.nf, B.same.trans s, B.nf0, B.nl0, B.e3⟩
theorem Both.n10 {C : Addr} {H0 H : Hp} {x : Addr} {F : Addr → Prop} {st : ExS} {l : LdA} (B : Both C H0 H x F st l) : st.nm.length ≤ 10 := B.ex.wf.n10 B.inb
end Prf
open PySem PySem.Spec PyProof.Rows L2
local macro_rules | `(tactic| walk_at "ne") => `(tactic| first | assumption | (exact Ne.symm (by assumption)) | (exact ne_of_none (by assumption) (by assumption)) | (exact Ne.symm (ne_of_none (by assumption) (by assumption))))
local macro_rules | `(tactic| walk_at "hp") => `(tactic| first | assumption | (exact upd_same) | (exact SqL.of upd_same) | (exact SqL.of (by assumption)) | (exact Eq.trans (upd_ne (by walk_at "ne")) (by walk_at "hp")) | (exact SqL.of (Eq.trans (upd_ne (by walk_at "ne")) (by walk_at "hp"))))
local macro_rules | `(tactic| walk_at "ty") => `(tactic| first | (exact TyOf.int _) | (exact TyOf.bl _) | (exact TyOf.non) | (exact TyOf.str _) | (exact TyOf.lst (by walk_at "hp")))
local macro_rules | `(tactic| walk_at "ix") => `(tactic| first | (exact atI_ints (by omega) (by omega)) | (exact atI_refs (by omega) (by omega)) | (exact rfl))
local macro_rules | `(tactic| walk_at "rd1") => `(tactic| first
  | (with_reducible refine r_seq ?_) | (with_reducible refine r_set ?_) | (with_reducible refine r_ifS ?_) | (with_reducible refine r_ret ?_) | (with_reducible refine r_drop ?_) | (with_reducible refine r_next ?_) | (with_reducible refine r_gname ?_)
  | (with_reducible refine r_op ?_) | ((with_reducible refine' r_var ?rv ?_); (case rv => exact rfl)) | (with_reducible refine r_c ?_)
  | (with_reducible refine r_I0 ?_) | (with_reducible refine r_addI ?_) | (with_reducible refine r_eqGLI ?_) | (with_reducible refine r_eqGLB ?_) | (with_reducible refine r_eqGI ?_) | (with_reducible refine r_neGI ?_) | (with_reducible refine r_eqGB ?_) | (with_reducible refine r_neGB ?_)
  | (with_reducible refine r_cb ?_) | (with_reducible refine r_cons ?_) | (with_reducible refine r_nil ?_) | (with_reducible refine r_call ?_) | (with_reducible refine r_lst ?_) | (with_reducible refine r_bm ?_)
  | (with_reducible refine r_andV ?_) | (with_reducible refine r_orV ?_) | (with_reducible refine r_notV ?_) | (with_reducible refine r_exbl ?_) | (with_reducible refine r_test ?_) | (with_reducible refine r_tB ?_)
  | (with_reducible refine r_and ?_) | (with_reducible refine r_or ?_) | (with_reducible refine r_not ?_) | (with_reducible refine r_if ?_) | (with_reducible refine r_tt ?_) | (with_reducible refine r_truth ?_) | (with_reducible refine r_trubl ?_)
  | ((with_reducible refine' r_inI ?h1 ?_); (case h1 => walk_at "hp")) | ((with_reducible refine' r_notInI ?h1 ?_); (case h1 => walk_at "hp")) | (with_reducible refine r_forZ ?_)
  | (with_reducible refine r_isN ?_) | (with_reducible refine r_notN ?_)
  | (with_reducible refine r_min2 ?_) | (with_reducible refine r_max2 ?_) | ((with_reducible refine' r_divB ?h1 ?h2 ?_); (case h1 => omega); (case h2 => omega)) | ((with_reducible refine' r_pow ?h1 ?_); (case h1 => exact ⟨by decide, by decide, by decide⟩))
  | ((with_reducible refine' r_mulB ?h1 ?_); (case h1 => first | (exact .inl (.inr ⟨by decide, by decide⟩)) | (exact .inl (.inl ⟨by omega, by omega⟩)) | (exact .inl (.inr ⟨by omega, by omega⟩)) | (exact .inr ⟨⟨by omega, by omega⟩, by omega, by omega⟩)))
  | (with_reducible refine r_lr ?_) | (with_reducible refine r_sl ?_) | (with_reducible refine r_npart ?_) | (with_reducible refine r_part ?_) | (with_reducible refine r_exint ?_) | (with_reducible refine r_setSub ?_) | (with_reducible refine r_gsub ?_)
  | (with_reducible refine r_maxD ?_) | ((with_reducible refine' leaf_max ?h1 ?_); (case h1 => walk_at "hp"))
  | (with_reducible refine r_for3 ?_) | (with_reducible refine r_tun ?_) | (with_reducible refine r_un ?_)
  | (with_reducible refine r_for1 ?_) | (with_reducible refine r_for2 ?_) | (with_reducible refine r_forL ?_) | (with_reducible refine r_comp1 ?_) | (with_reducible refine r_comp2 ?_) | (with_reducible refine r_compL ?_) | (with_reducible refine r_forE ?_) | (with_reducible refine r_compE ?_) | (with_reducible refine r_compZ ?_)
  | (with_reducible refine r_fld ?_) | (with_reducible refine r_sfld ?_) | (with_reducible refine r_meth ?_) | (with_reducible refine r_make ?_) | (with_reducible refine r_augS ?_) | (with_reducible refine r_ipI ?_) | (with_reducible refine r_din ?_) | (with_reducible refine r_dnin ?_) | (with_reducible refine r_dget ?_) | (with_reducible refine r_dput ?_)
  | ((with_reducible refine' leaf_fld ?h1 ?h2 ?h3 ?h4 ?_); (case h1 => assumption); (case h2 => assumption); (case h3 => assumption); (case h4 => assumption))
  | ((with_reducible refine' r_mod ?h1 ?_); (case h1 => omega)) | ((with_reducible refine' r_div ?h1 ?h2 ?_); (case h1 => omega); (case h2 => omega)) | ((with_reducible refine' r_mul ?h1 ?_); (case h1 => first | (exact .inr ⟨by decide, by decide⟩) | (exact .inl ⟨by omega, by omega⟩) | (exact .inr ⟨by omega, by omega⟩))) | ((with_reducible refine' r_tyL ?h1 ?_); (case h1 => walk_at "hp"))
  | ((with_reducible refine' r_ixL ?h1 ?h2 ?_); (case h1 => walk_at "hp"); (case h2 => walk_at "ix"))
  | ((with_reducible refine' r_lenI ?h1 ?_); (case h1 => walk_at "hp")) | ((with_reducible refine' r_lenR ?h1 ?_); (case h1 => walk_at "hp")) | ((with_reducible refine' r_len ?h1 ?_); (case h1 => walk_at "hp"))
  | ((with_reducible refine' r_isi ?h1 ?h2 ?_); (case h1 => walk_at "ty"); (case h2 => rfl)))
local macro_rules | `(tactic| walk_at "rd") => `(tactic| repeat (walk_at "rd1"))
local macro_rules | `(tactic| walk_at "st") => `(tactic| repeat ((fail_if_success (with_reducible refine r_seq ?_)); walk_at "rd1"))
local macro_rules | `(tactic| walk_at "rdk") => `(tactic| repeat (first | walk_at "rd1" | (with_reducible refine iteF ?_) | (with_reducible refine iteT ?_) | (refine ite_d (fun h => absurd h (by omega)) (fun _ => ?_)) | (refine ite_d (fun _ => ?_) (fun h => absurd (by omega) h))))
namespace Prf
open PySem PySem.Spec PyProof.Rows L2
def top (i : Nat) : Stmt := PySem.Challenge.pw_secondread_k20_brought.main.body.getD i (.Pass ⟨0, 0, 0, 0⟩)
abbrev s_Exam___init__ : Stmt := inClass (top 25) 0
theorem sc_Exam___init__ : FnScope ["self"] ["self"] (defScope s_Exam___init__) := ⟨rfl, rfl, rfl, by decide +kernel, rfl, by decide +kernel, by decide +kernel⟩
abbrev s_law_whole : Stmt := top 28
theorem sc_law_whole : FnScope ["_law_found"] ["_law_found"] (defScope s_law_whole) := ⟨rfl, rfl, rfl, by decide +kernel, rfl, by decide +kernel, by decide +kernel⟩
abbrev s_law_row : Stmt := top 30
theorem sc_law_row : FnScope ["_law_found", "_law_due", "_law_k"] ["_law_found", "_law_due"] (defScope s_law_row) := ⟨rfl, rfl, rfl, by decide +kernel, rfl, by decide +kernel, by decide +kernel⟩
abbrev s_law_rows : Stmt := top 31
theorem sc_law_rows : FnScope ["_law_found", "_law_due", "_law_k"] ["_law_found", "_law_due"] (defScope s_law_rows) := ⟨rfl, rfl, rfl, by decide +kernel, rfl, by decide +kernel, by decide +kernel⟩
abbrev s_Exam_readers : Stmt := inClass (top 25) 7
theorem sc_Exam_readers : FnScope ["self"] ["self"] (defScope s_Exam_readers) := ⟨rfl, rfl, rfl, by decide +kernel, rfl, by decide +kernel, by decide +kernel⟩
abbrev s_Exam_papers : Stmt := inClass (top 25) 6
theorem sc_Exam_papers : FnScope ["self"] ["self"] (defScope s_Exam_papers) := ⟨rfl, rfl, rfl, by decide +kernel, rfl, by decide +kernel, by decide +kernel⟩
abbrev s_Exam_due_readers : Stmt := inClass (top 25) 18
theorem sc_Exam_due_readers : FnScope ["self", "paper", "entered"] ["self", "paper"] (defScope s_Exam_due_readers) := ⟨rfl, rfl, rfl, by decide +kernel, rfl, by decide +kernel, by decide +kernel⟩
abbrev s_Exam_due : Stmt := inClass (top 25) 12
theorem sc_Exam_due : FnScope ["self", "rows", "paper"] ["self"] (defScope s_Exam_due) := ⟨rfl, rfl, rfl, by decide +kernel, rfl, by decide +kernel, by decide +kernel⟩
abbrev s_times_in : Stmt := top 7
theorem sc_times_in : FnScope ["rows", "reader"] ["rows", "reader"] (defScope s_times_in) := ⟨rfl, rfl, rfl, by decide +kernel, rfl, by decide +kernel, by decide +kernel⟩
abbrev s_left_after : Stmt := top 6
theorem sc_left_after : FnScope ["readers", "rows"] ["readers", "rows"] (defScope s_left_after) := ⟨rfl, rfl, rfl, by decide +kernel, rfl, by decide +kernel, by decide +kernel⟩
abbrev s_Exam_left : Stmt := inClass (top 25) 14
theorem sc_Exam_left : FnScope ["self"] ["self"] (defScope s_Exam_left) := ⟨rfl, rfl, rfl, by decide +kernel, rfl, by decide +kernel, by decide +kernel⟩
abbrev s_Exam_step : Stmt := inClass (top 25) 8
theorem sc_Exam_step : FnScope ["self"] ["self"] (defScope s_Exam_step) := ⟨rfl, rfl, rfl, by decide +kernel, rfl, by decide +kernel, by decide +kernel⟩
abbrev s_law_none : Stmt := top 33
theorem sc_law_none : FnScope ["_law_found", "_law_many", "_law_one"] ["_law_found", "_law_many"] (defScope s_law_none) := ⟨rfl, rfl, rfl, by decide +kernel, rfl, by decide +kernel, by decide +kernel⟩
abbrev s_Exam_points_for : Stmt := inClass (top 25) 19
theorem sc_Exam_points_for : FnScope ["self", "paper", "entered"] ["self", "paper"] (defScope s_Exam_points_for) := ⟨rfl, rfl, rfl, by decide +kernel, rfl, by decide +kernel, by decide +kernel⟩
abbrev s_greatest_divisor : Stmt := top 16
theorem sc_greatest_divisor : FnScope ["one", "other", "divisor", "rest", "next_rest"] ["one", "other"] (defScope s_greatest_divisor) := ⟨rfl, rfl, rfl, by decide +kernel, rfl, by decide +kernel, by decide +kernel⟩
abbrev s_lowest : Stmt := top 15
theorem sc_lowest : FnScope ["top", "bottom", "divisor"] ["top", "bottom"] (defScope s_lowest) := ⟨rfl, rfl, rfl, by decide +kernel, rfl, by decide +kernel, by decide +kernel⟩
abbrev s_middle_of : Stmt := top 19
theorem sc_middle_of : FnScope ["points"] ["points"] (defScope s_middle_of) := ⟨rfl, rfl, rfl, by decide +kernel, rfl, by decide +kernel, by decide +kernel⟩
abbrev s_agree : Stmt := top 17
theorem sc_agree : FnScope ["one", "other", "step"] ["one", "other", "step"] (defScope s_agree) := ⟨rfl, rfl, rfl, by decide +kernel, rfl, by decide +kernel, by decide +kernel⟩
abbrev s_mark_of : Stmt := top 18
theorem sc_mark_of : FnScope ["points", "step"] ["points", "step"] (defScope s_mark_of) := ⟨rfl, rfl, rfl, by decide +kernel, rfl, by decide +kernel, by decide +kernel⟩
abbrev s_Exam_mark_for : Stmt := inClass (top 25) 20
theorem sc_Exam_mark_for : FnScope ["self", "paper", "points", "readings"] ["self", "paper"] (defScope s_Exam_mark_for) := ⟨rfl, rfl, rfl, by decide +kernel, rfl, by decide +kernel, by decide +kernel⟩
abbrev s_Exam_marks : Stmt := inClass (top 25) 13
theorem sc_Exam_marks : FnScope ["self"] ["self"] (defScope s_Exam_marks) := ⟨rfl, rfl, rfl, by decide +kernel, rfl, by decide +kernel, by decide +kernel⟩
abbrev s_law_truth : Stmt := top 29
theorem sc_law_truth : FnScope ["_law_found", "_law_due"] ["_law_found", "_law_due"] (defScope s_law_truth) := ⟨rfl, rfl, rfl, by decide +kernel, rfl, by decide +kernel, by decide +kernel⟩
abbrev s_Exam_dealt : Stmt := inClass (top 25) 9
theorem sc_Exam_dealt : FnScope ["self"] ["self"] (defScope s_Exam_dealt) := ⟨rfl, rfl, rfl, by decide +kernel, rfl, by decide +kernel, by decide +kernel⟩
abbrev s_Exam_dealing : Stmt := inClass (top 25) 10
theorem sc_Exam_dealing : FnScope ["self"] ["self"] (defScope s_Exam_dealing) := ⟨rfl, rfl, rfl, by decide +kernel, rfl, by decide +kernel, by decide +kernel⟩
abbrev s_law_open : Stmt := top 32
theorem sc_law_open : FnScope ["_law_exam", "_law_homes", "_law_staff", "_law_step"] ["_law_exam", "_law_homes", "_law_staff", "_law_step"] (defScope s_law_open) := ⟨rfl, rfl, rfl, by decide +kernel, rfl, by decide +kernel, by decide +kernel⟩
abbrev s_law_at : Stmt := top 27
theorem sc_law_at : FnScope ["_law_script", "_law_k"] ["_law_script", "_law_k"] (defScope s_law_at) := ⟨rfl, rfl, rfl, by decide +kernel, rfl, by decide +kernel, by decide +kernel⟩
abbrev s_Exam_refuse_behind_dealing : Stmt := inClass (top 25) 15
theorem sc_Exam_refuse_behind_dealing : FnScope ["self"] ["self"] (defScope s_Exam_refuse_behind_dealing) := ⟨rfl, rfl, rfl, by decide +kernel, rfl, by decide +kernel, by decide +kernel⟩
abbrev s_refuse_unknown : Stmt := top 21
theorem sc_refuse_unknown : FnScope ["number", "least", "most"] ["number", "least", "most"] (defScope s_refuse_unknown) := ⟨rfl, rfl, rfl, by decide +kernel, rfl, by decide +kernel, by decide +kernel⟩
abbrev s_refuse_full : Stmt := top 23
theorem sc_refuse_full : FnScope ["many", "most"] ["many", "most"] (defScope s_refuse_full) := ⟨rfl, rfl, rfl, by decide +kernel, rfl, by decide +kernel, by decide +kernel⟩
abbrev s_Exam_bring_paper : Stmt := inClass (top 25) 1
theorem sc_Exam_bring_paper : FnScope ["self", "house"] ["self", "house"] (defScope s_Exam_bring_paper) := ⟨rfl, rfl, rfl, by decide +kernel, rfl, by decide +kernel, by decide +kernel⟩
abbrev s_refuse_out_of_bounds : Stmt := top 22
theorem sc_refuse_out_of_bounds : FnScope ["number", "most"] ["number", "most"] (defScope s_refuse_out_of_bounds) := ⟨rfl, rfl, rfl, by decide +kernel, rfl, by decide +kernel, by decide +kernel⟩
abbrev s_Exam_bring_reader : Stmt := inClass (top 25) 2
theorem sc_Exam_bring_reader : FnScope ["self", "house", "limit"] ["self", "house", "limit"] (defScope s_Exam_bring_reader) := ⟨rfl, rfl, rfl, by decide +kernel, rfl, by decide +kernel, by decide +kernel⟩
abbrev s_law : Stmt := top 34
theorem sc_law : FnScope ["_law_script", "_law_exam", "_law_homes", "_law_staff", "_law_k", "_law_cell", "_law_found", "_law_due"] ["_law_script"] (defScope s_law) := ⟨rfl, rfl, rfl, by decide +kernel, rfl, by decide +kernel, by decide +kernel⟩
structure Adr where
  f_Exam___init__ : Addr
  d_Exam___init__ : FuncData
  f_law_whole : Addr
  d_law_whole : FuncData
  f_law_row : Addr
  d_law_row : FuncData
  f_law_rows : Addr
  d_law_rows : FuncData
  f_Exam_readers : Addr
  d_Exam_readers : FuncData
  f_Exam_papers : Addr
  d_Exam_papers : FuncData
  f_Exam_due_readers : Addr
  d_Exam_due_readers : FuncData
  f_Exam_due : Addr
  d_Exam_due : FuncData
  f_times_in : Addr
  d_times_in : FuncData
  f_left_after : Addr
  d_left_after : FuncData
  f_Exam_left : Addr
  d_Exam_left : FuncData
  f_Exam_step : Addr
  d_Exam_step : FuncData
  f_law_none : Addr
  d_law_none : FuncData
  f_Exam_points_for : Addr
  d_Exam_points_for : FuncData
  f_greatest_divisor : Addr
  d_greatest_divisor : FuncData
  f_lowest : Addr
  d_lowest : FuncData
  f_middle_of : Addr
  d_middle_of : FuncData
  f_agree : Addr
  d_agree : FuncData
  f_mark_of : Addr
  d_mark_of : FuncData
  f_Exam_mark_for : Addr
  d_Exam_mark_for : FuncData
  f_Exam_marks : Addr
  d_Exam_marks : FuncData
  f_law_truth : Addr
  d_law_truth : FuncData
  f_Exam_dealt : Addr
  d_Exam_dealt : FuncData
  f_Exam_dealing : Addr
  d_Exam_dealing : FuncData
  f_law_open : Addr
  d_law_open : FuncData
  f_law_at : Addr
  d_law_at : FuncData
  f_Exam_refuse_behind_dealing : Addr
  d_Exam_refuse_behind_dealing : FuncData
  f_refuse_unknown : Addr
  d_refuse_unknown : FuncData
  f_refuse_full : Addr
  d_refuse_full : FuncData
  f_Exam_bring_paper : Addr
  d_Exam_bring_paper : FuncData
  f_refuse_out_of_bounds : Addr
  d_refuse_out_of_bounds : FuncData
  f_Exam_bring_reader : Addr
  d_Exam_bring_reader : FuncData
  f_law : Addr
  d_law : FuncData
  C_Exam : Addr
  k_MOST_HOUSES : Value
  k_MOST_PAPERS : Value
  k_MOST_LIMIT : Value
  k_MOST_READERS : Value
structure Txt (K : PySem.W.Frag) (mg : Str → Option Value) (t : Adr) : Prop where
  F_Exam___init__ : Fun K "__init__" "Exam.__init__" s_Exam___init__ t.f_Exam___init__ t.d_Exam___init__
  b_Exam___init__ : Binds K t.d_Exam___init__ ["self"] []
  mk_Exam : Mk K t.C_Exam t.f_Exam___init__
  F_law_whole : Fun K "_law_whole" "_law_whole" s_law_whole t.f_law_whole t.d_law_whole
  b_law_whole : Binds K t.d_law_whole ["_law_found"] []
  m_law_whole : mg "_law_whole" = some (.ref t.f_law_whole)
  F_law_row : Fun K "_law_row" "_law_row" s_law_row t.f_law_row t.d_law_row
  b_law_row : Binds K t.d_law_row ["_law_found", "_law_due"] []
  m_law_row : mg "_law_row" = some (.ref t.f_law_row)
  F_law_rows : Fun K "_law_rows" "_law_rows" s_law_rows t.f_law_rows t.d_law_rows
  b_law_rows : Binds K t.d_law_rows ["_law_found", "_law_due"] []
  m_law_rows : mg "_law_rows" = some (.ref t.f_law_rows)
  F_Exam_readers : Fun K "readers" "Exam.readers" s_Exam_readers t.f_Exam_readers t.d_Exam_readers
  b_Exam_readers : Binds K t.d_Exam_readers ["self"] []
  me_Exam_readers : Meth K t.C_Exam "readers" t.f_Exam_readers
  F_Exam_papers : Fun K "papers" "Exam.papers" s_Exam_papers t.f_Exam_papers t.d_Exam_papers
  b_Exam_papers : Binds K t.d_Exam_papers ["self"] []
  me_Exam_papers : Meth K t.C_Exam "papers" t.f_Exam_papers
  F_Exam_due_readers : Fun K "due_readers" "Exam.due_readers" s_Exam_due_readers t.f_Exam_due_readers t.d_Exam_due_readers
  b_Exam_due_readers : Binds K t.d_Exam_due_readers ["self", "paper"] []
  me_Exam_due_readers : Meth K t.C_Exam "due_readers" t.f_Exam_due_readers
  F_Exam_due : Fun K "due" "Exam.due" s_Exam_due t.f_Exam_due t.d_Exam_due
  b_Exam_due : Binds K t.d_Exam_due ["self"] []
  me_Exam_due : Meth K t.C_Exam "due" t.f_Exam_due
  F_times_in : Fun K "times_in" "times_in" s_times_in t.f_times_in t.d_times_in
  b_times_in : Binds K t.d_times_in ["rows", "reader"] []
  m_times_in : mg "times_in" = some (.ref t.f_times_in)
  F_left_after : Fun K "left_after" "left_after" s_left_after t.f_left_after t.d_left_after
  b_left_after : Binds K t.d_left_after ["readers", "rows"] []
  m_left_after : mg "left_after" = some (.ref t.f_left_after)
  F_Exam_left : Fun K "left" "Exam.left" s_Exam_left t.f_Exam_left t.d_Exam_left
  b_Exam_left : Binds K t.d_Exam_left ["self"] []
  me_Exam_left : Meth K t.C_Exam "left" t.f_Exam_left
  F_Exam_step : Fun K "step" "Exam.step" s_Exam_step t.f_Exam_step t.d_Exam_step
  b_Exam_step : Binds K t.d_Exam_step ["self"] []
  me_Exam_step : Meth K t.C_Exam "step" t.f_Exam_step
  F_law_none : Fun K "_law_none" "_law_none" s_law_none t.f_law_none t.d_law_none
  b_law_none : Binds K t.d_law_none ["_law_found", "_law_many"] []
  m_law_none : mg "_law_none" = some (.ref t.f_law_none)
  F_Exam_points_for : Fun K "points_for" "Exam.points_for" s_Exam_points_for t.f_Exam_points_for t.d_Exam_points_for
  b_Exam_points_for : Binds K t.d_Exam_points_for ["self", "paper"] []
  me_Exam_points_for : Meth K t.C_Exam "points_for" t.f_Exam_points_for
  F_greatest_divisor : Fun K "greatest_divisor" "greatest_divisor" s_greatest_divisor t.f_greatest_divisor t.d_greatest_divisor
  b_greatest_divisor : Binds K t.d_greatest_divisor ["one", "other"] []
  m_greatest_divisor : mg "greatest_divisor" = some (.ref t.f_greatest_divisor)
  F_lowest : Fun K "lowest" "lowest" s_lowest t.f_lowest t.d_lowest
  b_lowest : Binds K t.d_lowest ["top", "bottom"] []
  m_lowest : mg "lowest" = some (.ref t.f_lowest)
  F_middle_of : Fun K "middle_of" "middle_of" s_middle_of t.f_middle_of t.d_middle_of
  b_middle_of : Binds K t.d_middle_of ["points"] []
  m_middle_of : mg "middle_of" = some (.ref t.f_middle_of)
  F_agree : Fun K "agree" "agree" s_agree t.f_agree t.d_agree
  b_agree : Binds K t.d_agree ["one", "other", "step"] []
  m_agree : mg "agree" = some (.ref t.f_agree)
  F_mark_of : Fun K "mark_of" "mark_of" s_mark_of t.f_mark_of t.d_mark_of
  b_mark_of : Binds K t.d_mark_of ["points", "step"] []
  m_mark_of : mg "mark_of" = some (.ref t.f_mark_of)
  F_Exam_mark_for : Fun K "mark_for" "Exam.mark_for" s_Exam_mark_for t.f_Exam_mark_for t.d_Exam_mark_for
  b_Exam_mark_for : Binds K t.d_Exam_mark_for ["self", "paper"] []
  me_Exam_mark_for : Meth K t.C_Exam "mark_for" t.f_Exam_mark_for
  F_Exam_marks : Fun K "marks" "Exam.marks" s_Exam_marks t.f_Exam_marks t.d_Exam_marks
  b_Exam_marks : Binds K t.d_Exam_marks ["self"] []
  me_Exam_marks : Meth K t.C_Exam "marks" t.f_Exam_marks
  F_law_truth : Fun K "_law_truth" "_law_truth" s_law_truth t.f_law_truth t.d_law_truth
  b_law_truth : Binds K t.d_law_truth ["_law_found", "_law_due"] []
  m_law_truth : mg "_law_truth" = some (.ref t.f_law_truth)
  F_Exam_dealt : Fun K "dealt" "Exam.dealt" s_Exam_dealt t.f_Exam_dealt t.d_Exam_dealt
  b_Exam_dealt : Binds K t.d_Exam_dealt ["self"] []
  me_Exam_dealt : Meth K t.C_Exam "dealt" t.f_Exam_dealt
  F_Exam_dealing : Fun K "dealing" "Exam.dealing" s_Exam_dealing t.f_Exam_dealing t.d_Exam_dealing
  b_Exam_dealing : Binds K t.d_Exam_dealing ["self"] []
  me_Exam_dealing : Meth K t.C_Exam "dealing" t.f_Exam_dealing
  F_law_open : Fun K "_law_open" "_law_open" s_law_open t.f_law_open t.d_law_open
  b_law_open : Binds K t.d_law_open ["_law_exam", "_law_homes", "_law_staff", "_law_step"] []
  m_law_open : mg "_law_open" = some (.ref t.f_law_open)
  F_law_at : Fun K "_law_at" "_law_at" s_law_at t.f_law_at t.d_law_at
  b_law_at : Binds K t.d_law_at ["_law_script", "_law_k"] []
  m_law_at : mg "_law_at" = some (.ref t.f_law_at)
  F_Exam_refuse_behind_dealing : Fun K "refuse_behind_dealing" "Exam.refuse_behind_dealing" s_Exam_refuse_behind_dealing t.f_Exam_refuse_behind_dealing t.d_Exam_refuse_behind_dealing
  b_Exam_refuse_behind_dealing : Binds K t.d_Exam_refuse_behind_dealing ["self"] []
  me_Exam_refuse_behind_dealing : Meth K t.C_Exam "refuse_behind_dealing" t.f_Exam_refuse_behind_dealing
  F_refuse_unknown : Fun K "refuse_unknown" "refuse_unknown" s_refuse_unknown t.f_refuse_unknown t.d_refuse_unknown
  b_refuse_unknown : Binds K t.d_refuse_unknown ["number", "least", "most"] []
  m_refuse_unknown : mg "refuse_unknown" = some (.ref t.f_refuse_unknown)
  F_refuse_full : Fun K "refuse_full" "refuse_full" s_refuse_full t.f_refuse_full t.d_refuse_full
  b_refuse_full : Binds K t.d_refuse_full ["many", "most"] []
  m_refuse_full : mg "refuse_full" = some (.ref t.f_refuse_full)
  F_Exam_bring_paper : Fun K "bring_paper" "Exam.bring_paper" s_Exam_bring_paper t.f_Exam_bring_paper t.d_Exam_bring_paper
  b_Exam_bring_paper : Binds K t.d_Exam_bring_paper ["self", "house"] []
  me_Exam_bring_paper : Meth K t.C_Exam "bring_paper" t.f_Exam_bring_paper
  F_refuse_out_of_bounds : Fun K "refuse_out_of_bounds" "refuse_out_of_bounds" s_refuse_out_of_bounds t.f_refuse_out_of_bounds t.d_refuse_out_of_bounds
  b_refuse_out_of_bounds : Binds K t.d_refuse_out_of_bounds ["number", "most"] []
  m_refuse_out_of_bounds : mg "refuse_out_of_bounds" = some (.ref t.f_refuse_out_of_bounds)
  F_Exam_bring_reader : Fun K "bring_reader" "Exam.bring_reader" s_Exam_bring_reader t.f_Exam_bring_reader t.d_Exam_bring_reader
  b_Exam_bring_reader : Binds K t.d_Exam_bring_reader ["self", "house", "limit"] []
  me_Exam_bring_reader : Meth K t.C_Exam "bring_reader" t.f_Exam_bring_reader
  F_law : Fun K "law" "law" s_law t.f_law t.d_law
  b_law : Binds K t.d_law ["_law_script"] []
  m_law : mg "law" = some (.ref t.f_law)
  cl_Exam : Cls K t.C_Exam
  mg_Exam : mg "Exam" = some (.ref t.C_Exam)
  n_Exam_paper_houses : NoAttr K t.C_Exam "paper_houses"
  n_Exam_reader_rows : NoAttr K t.C_Exam "reader_rows"
  n_Exam_widest_step : NoAttr K t.C_Exam "widest_step"
  n_Exam_is_dealt : NoAttr K t.C_Exam "is_dealt"
  n_Exam_named_readers : NoAttr K t.C_Exam "named_readers"
  n_Exam_entered_points : NoAttr K t.C_Exam "entered_points"
  v_MOST_HOUSES : mg "MOST_HOUSES" = some t.k_MOST_HOUSES
  w_MOST_HOUSES : RelV (.int 6) t.k_MOST_HOUSES
  v_MOST_PAPERS : mg "MOST_PAPERS" = some t.k_MOST_PAPERS
  w_MOST_PAPERS : RelV (.int 10) t.k_MOST_PAPERS
  v_MOST_LIMIT : mg "MOST_LIMIT" = some t.k_MOST_LIMIT
  w_MOST_LIMIT : RelV (.int 30) t.k_MOST_LIMIT
  v_MOST_READERS : mg "MOST_READERS" = some t.k_MOST_READERS
  w_MOST_READERS : RelV (.int 8) t.k_MOST_READERS
  z_abs : mg "abs" = none
  z_bool : mg "bool" = none
  z_enumerate : mg "enumerate" = none
  z_int : mg "int" = none
  z_isinstance : mg "isinstance" = none
  z_len : mg "len" = none
  z_list : mg "list" = none
  z_min : mg "min" = none
  z_range : mg "range" = none
  z_sorted : mg "sorted" = none
  z_sum : mg "sum" = none
  z_zip : mg "zip" = none
end Prf
namespace Prf
open PySem PySem.Spec PyProof.Rows L2
section
variable {P : Program} {w : World} {K : PySem.W.Frag} {mg : Str → Option Value} {base : Heap} {t : Adr}
/-! def Exam.__init__ -/
def sp_Exam___init__ (K : PySem.W.Frag) (C : Addr) : Sp := fun vs H Q _ => vs.length = 1 ∧ ∃ (x dx : Addr), vs = [.ref x] ∧ H x = some (.ins C dx []) ∧ ∀ H' F, (∀ b o, H b = some o → b ≠ x → b ≠ dx → H' b = some o) → (∀ b, F b → b = x ∨ b = dx ∨ H b = none) → ExAt C H' x F ⟨[], [], 0, none⟩ → Q .non H'
theorem ok_Exam___init__ (T : Txt K mg t) : FnOk P w K mg base CX0 1 t.f_Exam___init__ t.d_Exam___init__ ["self"] (sp_Exam___init__ K t.C_Exam) := by
  refine T.F_Exam___init__.ok sc_Exam___init__ (fun vs H Q E h => ?_) (fun cdv A outer s H vs Q E hr h => ?_)
  · exact (by obtain ⟨h, _⟩ := h; exact h)
  have TERM : ∃ t', PSs (cxOf CX0 P w K mg base ["self"] "Exam.__init__" (defScope s_Exam___init__) t.f_Exam___init__ cdv A outer s H E).nox (defBody s_Exam___init__) t' ∧ t' ⟨fun _ H' => Q .non H', Q, fun _ _ => False, fun _ _ => False⟩ (start ["self"] vs) H := by
    refine ⟨_, (pss_cons (ps_fldK (K := K) rfl (pv 0) (pe_lst pa_nil))
      (pss_cons (ps_fldK (K := K) rfl (pv 0) (pe_lst pa_nil))
      (pss_cons (ps_fldK (K := K) rfl (pv 0) pe_int)
      (pss_cons (ps_fldK (K := K) rfl (pv 0) pe_bl)
      (pss_cons (ps_fldK (K := K) rfl (pv 0) (pe_lst pa_nil))
      (pss_one (ps_fldK (K := K) rfl (pv 0) (pe_lst pa_nil)))))))), ?_⟩
    obtain ⟨_, x, dx, rfl, hx, q⟩ := h
    have hcl := T.cl_Exam
    have nA := T.n_Exam_paper_houses
    have nB := T.n_Exam_reader_rows
    have nS := T.n_Exam_widest_step
    have nD := T.n_Exam_is_dealt
    have nC := T.n_Exam_named_readers
    have nE := T.n_Exam_entered_points
    walk_at "rd"
    refine leaf_lst (by decide) fun a H1 f1 s1 e1 => ?_
    have x1 := s1 _ _ hx
    walk_at "rd"
    refine leaf_putF x1 hcl nA (Nat.lt_of_lt_of_le (show 0 < 1 by decide) (by decide)) fun H2 b2 x2 => ?_
    have xa := ne_of_none hx f1
    walk_at "rd"
    refine leaf_lst (by decide) fun b H3 f3 s3 e3 => ?_
    have x3 := s3 _ _ x2
    walk_at "rd"
    have e2 : H2 a = some (.lst []) := by rw [b2 _ xa.symm]; exact e1
    have ab := ne_of_none e2 f3
    have xb := ne_of_none x2 f3
    refine leaf_putF x3 hcl nB (Nat.lt_of_lt_of_le (lt_put (show 0 < 1 by decide)) (by decide)) fun H4 b4 x4 => ?_
    walk_at "rd"
    refine leaf_putF x4 hcl nS (Nat.lt_of_lt_of_le (lt_put (lt_put (show 0 < 1 by decide))) (by decide)) fun H5 b5 x5 => ?_
    walk_at "rd"
    refine leaf_putF x5 hcl nD (Nat.lt_of_lt_of_le (lt_put (lt_put (lt_put (show 0 < 1 by decide)))) (by decide)) fun H6 b6 x6 => ?_
    walk_at "rd"
    refine leaf_lst (by decide) fun c H7 f7 s7 e7 => ?_
    have x7 := s7 _ _ x6
    have a6 : H6 a = some (.lst []) := by rw [b6 _ xa.symm, b5 _ xa.symm, b4 _ xa.symm]; exact s3 _ _ e2
    have b6' : H6 b = some (.lst []) := by rw [b6 _ xb.symm, b5 _ xb.symm, b4 _ xb.symm]; exact e3
    have ac := ne_of_none a6 f7
    have bc := ne_of_none b6' f7
    have xc := ne_of_none x6 f7
    walk_at "rd"
    refine leaf_putF x7 hcl nC (Nat.lt_of_lt_of_le (lt_put (lt_put (lt_put (lt_put (show 0 < 1 by decide))))) (by decide)) fun H8 b8 x8 => ?_
    have a8 : H8 a = some (.lst []) := by rw [b8 _ xa.symm]; exact s7 _ _ a6
    have b8' : H8 b = some (.lst []) := by rw [b8 _ xb.symm]; exact s7 _ _ b6'
    have c8 : H8 c = some (.lst []) := by rw [b8 _ xc.symm]; exact e7
    walk_at "rd"
    refine leaf_lst (by decide) fun d H9 f9 s9 e9 => ?_
    have x9 := s9 _ _ x8
    have ad := ne_of_none a8 f9
    have bd := ne_of_none b8' f9
    have cd := ne_of_none c8 f9
    have xd := ne_of_none x8 f9
    walk_at "rd"
    refine leaf_putF x9 hcl nE (Nat.lt_of_lt_of_le (lt_put (lt_put (lt_put (lt_put (lt_put (show 0 < 1 by decide)))))) (by decide)) fun H10 b10 x10 => ?_
    walk_at "rd"
    rw [exFs_mk] at x10
    have kp : ∀ b o, H b = some o → b ≠ x → H10 b = some o := fun z o h n => by
      rw [b10 _ n]
      refine s9 _ _ ?_
      rw [b8 _ n]
      refine s7 _ _ ?_
      rw [b6 _ n, b5 _ n, b4 _ n]
      refine s3 _ _ ?_
      rw [b2 _ n]
      exact s1 _ _ h
    have nn : ∀ b, H2 b = none → H b = none := fun z h => by
      cases hz : H z with
      | none => rfl
      | some o =>
        by_cases n : z = x
        · rw [n, x2] at h; cases h
        · rw [b2 _ n, s1 _ _ hz] at h; cases h
    have nn6 : ∀ b, H6 b = none → H b = none := fun z h => nn z (by
      cases hz : H2 z with
      | none => rfl
      | some o =>
        by_cases n : z = x
        · rw [n, x6] at h; cases h
        · rw [b6 _ n, b5 _ n, b4 _ n, s3 _ _ hz] at h; cases h)
    have nn8 : ∀ b, H8 b = none → H b = none := fun z h => nn6 z (by
      cases hz : H6 z with
      | none => rfl
      | some o =>
        by_cases n : z = x
        · rw [n, x8] at h; cases h
        · rw [b8 _ n, s7 _ _ hz] at h; cases h)
    have J : ExIn t.C_Exam H10 ⟨x, dx, a, b, c, d, [], [], []⟩ ⟨[], [], 0, none⟩ [] := by
      refine ⟨x10, by show H10 a = _; rw [b10 _ xa.symm]; exact s9 _ _ a8, by show H10 b = _; rw [b10 _ xb.symm]; exact s9 _ _ b8', by show H10 c = _; rw [b10 _ xc.symm]; exact s9 _ _ c8, by show H10 d = _; rw [b10 _ xd.symm]; exact e9, rfl, rfl, rfl, fun i hi => absurd hi (by simp), fun i hi => absurd hi (by simp [ExS.nm]), fun i hi => absurd hi (by simp [ExS.nm]), fun i hi => absurd hi (by simp [ExS.nm]), fun i hi => absurd hi (by simp [ExS.nm]), rfl, ?_, ⟨fun z => (by cases z), fun k hk => absurd hk (by simp [ExS.nm]), fun k r p z => (by cases z), by decide⟩⟩
      unfold ExAd.own
      simp only [List.nodup_cons, List.mem_cons, List.append_nil, List.not_mem_nil, not_or, not_false_iff, List.nodup_nil, and_true]
      exact ⟨⟨xa, xb, xc, xd⟩, ⟨ab, ac, ad⟩, ⟨bc, bd⟩, cd⟩
    refine q H10 _ (fun z o h n _ => kp z o h n) (fun z h => ?_) J.at
    unfold ExAd.own at h
    simp only [List.mem_cons, List.append_nil, List.not_mem_nil, or_false] at h
    rcases h with h | h | h | h | h
    · exact .inl h
    · exact .inr (.inr (h ▸ f1))
    · exact .inr (.inr (h ▸ nn _ f3))
    · exact .inr (.inr (h ▸ nn6 _ f7))
    · exact .inr (.inr (h ▸ nn8 _ f9))
  exact TERM
theorem u_Exam_init {K : PySem.W.Frag} {C x dx : Addr} {H : Hp} {Q : VK} {E : XK} (h : H x = some (.ins C dx [])) (q : ∀ H' F, (∀ b o, H b = some o → b ≠ x → b ≠ dx → H' b = some o) → (∀ b, F b → b = x ∨ b = dx ∨ H b = none) → ExAt C H' x F ⟨[], [], 0, none⟩ → Q .non H') : sp_Exam___init__ K C [.ref x] H Q E := ⟨rfl, x, dx, rfl, h, q⟩
/-! def _law_whole -/
def sp_law_whole (K : PySem.W.Frag) : Sp := fun vs H Q _ => vs.length = 1 ∧ ∃ x : V, vs = [x] ∧ ((∃ i : Int, x = .int i ∧ Q (.bl true) H))
theorem ok_law_whole (T : Txt K mg t) : FnOk P w K mg base CX0 1 t.f_law_whole t.d_law_whole ["_law_found"] (sp_law_whole K) := by
  refine T.F_law_whole.ok sc_law_whole (fun vs H Q E h => ?_) (fun cdv A outer s H vs Q E hr h => ?_)
  · exact (by obtain ⟨h, _⟩ := h; exact h)
  have TERM : ∃ t', PSs (cxOf CX0 P w K mg base ["_law_found"] "_law_whole" (defScope s_law_whole) t.f_law_whole cdv A outer s H E).nox (defBody s_law_whole) t' ∧ t' ⟨fun _ H' => Q .non H', Q, fun _ _ => False, fun _ _ => False⟩ (start ["_law_found"] vs) H := by
    refine ⟨_, (pss_one (ps_ret (pe_and (pe_callB (call_isinstanceK (K := K) rfl) (by rfl) T.z_isinstance (by rfl) (pa_cons (pv 0) (pa_cons (pe_bltn (v := .ty "int") (u := .type "int") (by rfl) T.z_int (by rfl) rfl) pa_nil))) (pe_one (pe_not (pe_callB (call_isinstanceK (K := K) rfl) (by rfl) T.z_isinstance (by rfl) (pa_cons (pv 0) (pa_cons (pe_bltn (v := .ty "bool") (u := .type "bool") (by rfl) T.z_bool (by rfl) rfl) pa_nil)))))))), ?_⟩
    obtain ⟨_, x, rfl, i, rfl, q⟩ := h
    walk_at "rd"
    refine iteT ?_
    walk_at "rd"
    exact q
  exact TERM
theorem u_law_whole {H : Hp} {i : Int} {Q : VK} {E : XK} (q : Q (.bl true) H) : sp_law_whole K [.int i] H Q E := ⟨rfl, _, rfl, i, rfl, q⟩
local macro_rules | `(tactic| walk_at "rd1") => `(tactic| (with_reducible refine u_law_whole ?_))
/-! def _law_row -/
def sp_law_row (K : PySem.W.Frag) : Sp := fun vs H Q _ => vs.length = 2 ∧ ∃ (a b : Addr) (xs ys : List Int), vs = [.ref a, .ref b] ∧ H a = some (.lst (xs.map V.int)) ∧ SqL K H b (ys.map V.int) ∧ ys.length ≤ 1000000 ∧ Q (.bl (decide (xs = ys))) H
theorem ok_law_row (T : Txt K mg t) : FnOk P w K mg base CX0 2 t.f_law_row t.d_law_row ["_law_found", "_law_due"] (sp_law_row K) := by
  have G_law_whole := ok_law_whole (P := P) (w := w) (base := base) T
  refine T.F_law_row.ok sc_law_row (fun vs H Q E h => ?_) (fun cdv A outer s H vs Q E hr h => ?_)
  · exact (by obtain ⟨h, _⟩ := h; exact h)
  have TERM : ∃ t', PSs (cxOf CX0 P w K mg base ["_law_found", "_law_due", "_law_k"] "_law_row" (defScope s_law_row) t.f_law_row cdv A outer s H E).nox (defBody s_law_row) t' ∧ t' ⟨fun _ H' => Q .non H', Q, fun _ _ => False, fun _ _ => False⟩ (start ["_law_found", "_law_due", "_law_k"] vs) H := by
    refine ⟨_, (pss_cons (ps_if (pw_or (pt_not (pt_truthK (K := K) rfl (pe_callB (call_isinstanceK (K := K) rfl) (by rfl) T.z_isinstance (by rfl) (pa_cons (pv 0) (pa_cons (pe_bltn (v := .ty "list") (u := .type "list") (by rfl) T.z_list (by rfl) rfl) pa_nil))) (fun _ => rfl))) (pw_or1 (pt_cmpR (op_neG (K := K) rfl) (pe_callB (call_lenK (K := K) rfl) (by rfl) T.z_len (by rfl) (pa_cons (pv 0) pa_nil)) (pe_callB (call_lenK (K := K) rfl) (by rfl) T.z_len (by rfl) (pa_cons (pv 1) pa_nil)) (nomark _)))).pt
      (pss_one (ps_ret pe_bl)) pss_nil)
      (pss_cons (ps_for PassesOwn.never rfl (pi_range1 (by rfl) T.z_range (pa_cons (pe_callB (call_lenK (K := K) rfl) (by rfl) T.z_len (by rfl) (pa_cons (pv 1) pa_nil)) pa_nil)) (pg_name (i := 2) sc_law_row.nd rfl (by first | exact Or.inl rfl | exact Or.inr rfl))
      (pss_one (ps_if (pw_or (pt_not (pt_truthK (K := K) rfl (pe_call (G_law_whole) (hr.mono (by decide)) (by rfl) T.m_law_whole T.F_law_whole.kp T.b_law_whole .nil pass0 (pa_cons (pe_ix (ix_listK (K := K) rfl) (pv 0) (pv 2) (fun _ _ => rfl)) pa_nil)) (fun _ => rfl))) (pw_or1 (pt_cmpR (op_neG (K := K) rfl) (pe_ix (ix_listK (K := K) rfl) (pv 0) (pv 2) (fun _ _ => rfl)) (pe_ix (ix_listK (K := K) rfl) (pv 1) (pv 2) (fun _ _ => rfl)) (nomark _)))).pt
      (pss_one (ps_ret pe_bl)) pss_nil)))
      (pss_one (ps_ret pe_bl)))), ?_⟩
    obtain ⟨_, a, b, xs, ys, rfl, ha, hb, hy, q⟩ := h
    walk_at "rd"
    refine iteF ?_
    walk_at "rd"
    refine ite_nd (fun h0 => ?_) (fun h0 => ?_)
    · rw [decide_eq_false (by rintro rfl; exact h0 rfl)] at q
      walk_at "rd"
      exact q
    · have hlen : xs.length = ys.length := by omega
      walk_at "rd"
      refine r_rng1 (by omega) (by omega) ?_
      refine r_forR (fun i σ H1 => ∃ v, σ = [some (.ref a), some (.ref b), v] ∧ H1 = H ∧ ∀ j, j < i → xs.getD j 0 = ys.getD j 0) ⟨none, rfl, rfl, fun j hj => absurd hj (by omega)⟩ ?_ ?_
      · rintro i σ H1 hi ⟨v, rfl, rfl, hall⟩
        walk_at "rd"
        refine iteF ?_
        walk_at "rd"
        refine ite_nd (fun h1 => ?_) (fun h1 => ?_)
        · rw [decide_eq_false (by rintro rfl; exact h1 rfl)] at q
          walk_at "rd"
          exact q
        · walk_at "rd"
          refine ⟨_, rfl, rfl, fun j hj => ?_⟩
          by_cases e : j = i
          · subst e
            have e2 : (0 + (j : Int)).toNat = j := by omega
            rw [e2] at h1
            exact h1
          · exact hall j (by omega)
      · rintro σ H1 ⟨v, rfl, rfl, hall⟩
        rw [decide_eq_true (getD_ext hlen fun j hj => hall j (by omega))] at q
        walk_at "rd"
        exact q
  exact TERM
theorem u_law_row {H : Hp} {a b : Addr} {xs ys : List Int} {Q : VK} {E : XK} (h : H a = some (.lst (xs.map V.int))) (h' : SqL K H b (ys.map V.int)) (hl : ys.length ≤ 1000000) (q : Q (.bl (decide (xs = ys))) H) : sp_law_row K [.ref a, .ref b] H Q E := ⟨rfl, a, b, xs, ys, rfl, h, h', hl, q⟩
/-! def _law_rows -/
def sp_law_rows (K : PySem.W.Frag) : Sp := fun vs H Q _ => vs.length = 2 ∧ ∃ (a b : Addr) (xs ys : List (List Int)), vs = [.ref a, .ref b] ∧ (∃ zs, H a = some (.lst zs)) ∧ LL K H a xs ∧ LL K H b ys ∧ ys.length ≤ 1000000 ∧ (∀ i, i < ys.length → (ys.getD i []).length ≤ 1000000) ∧ Q (.bl (decide (xs = ys))) H
theorem ok_law_rows (T : Txt K mg t) : FnOk P w K mg base CX0 3 t.f_law_rows t.d_law_rows ["_law_found", "_law_due"] (sp_law_rows K) := by
  have G_law_row := ok_law_row (P := P) (w := w) (base := base) T
  refine T.F_law_rows.ok sc_law_rows (fun vs H Q E h => ?_) (fun cdv A outer s H vs Q E hr h => ?_)
  · exact (by obtain ⟨h, _⟩ := h; exact h)
  have TERM : ∃ t', PSs (cxOf CX0 P w K mg base ["_law_found", "_law_due", "_law_k"] "_law_rows" (defScope s_law_rows) t.f_law_rows cdv A outer s H E).nox (defBody s_law_rows) t' ∧ t' ⟨fun _ H' => Q .non H', Q, fun _ _ => False, fun _ _ => False⟩ (start ["_law_found", "_law_due", "_law_k"] vs) H := by
    refine ⟨_, (pss_cons (ps_if (pw_or (pt_not (pt_truthK (K := K) rfl (pe_callB (call_isinstanceK (K := K) rfl) (by rfl) T.z_isinstance (by rfl) (pa_cons (pv 0) (pa_cons (pe_bltn (v := .ty "list") (u := .type "list") (by rfl) T.z_list (by rfl) rfl) pa_nil))) (fun _ => rfl))) (pw_or1 (pt_cmpR (op_neG (K := K) rfl) (pe_callB (call_lenK (K := K) rfl) (by rfl) T.z_len (by rfl) (pa_cons (pv 0) pa_nil)) (pe_callB (call_lenK (K := K) rfl) (by rfl) T.z_len (by rfl) (pa_cons (pv 1) pa_nil)) (nomark _)))).pt
      (pss_one (ps_ret pe_bl)) pss_nil)
      (pss_cons (ps_for PassesOwn.never rfl (pi_range1 (by rfl) T.z_range (pa_cons (pe_callB (call_lenK (K := K) rfl) (by rfl) T.z_len (by rfl) (pa_cons (pv 1) pa_nil)) pa_nil)) (pg_name (i := 2) sc_law_rows.nd rfl (by first | exact Or.inl rfl | exact Or.inr rfl))
      (pss_one (ps_if (pt_not (pt_truthK (K := K) rfl (pe_call (G_law_row) (hr.mono (by decide)) (by rfl) T.m_law_row T.F_law_row.kp T.b_law_row .nil pass0 (pa_cons (pe_ix (ix_listK (K := K) rfl) (pv 0) (pv 2) (fun _ _ => rfl)) (pa_cons (pe_ix (ix_listK (K := K) rfl) (pv 1) (pv 2) (fun _ _ => rfl)) pa_nil))) (fun _ => rfl)))
      (pss_one (ps_ret pe_bl)) pss_nil)))
      (pss_one (ps_ret pe_bl)))), ?_⟩
    obtain ⟨_, a, b, xs, ys, rfl, ⟨zs, hz⟩, ⟨ps, ha, hla, hpa⟩, ⟨qs, hb, hlb, hpb⟩, hy, hyi, q⟩ := h
    walk_at "rd"
    refine iteF ?_
    walk_at "rd"
    refine ite_nd (fun h0 => ?_) (fun h0 => ?_)
    · rw [decide_eq_false (by rintro rfl; exact h0 (by omega))] at q
      walk_at "rd"
      exact q
    · have hlen : xs.length = ys.length := by omega
      walk_at "rd"
      refine r_rng1 (by omega) (by omega) ?_
      refine r_forR (fun i σ H1 => ∃ v, σ = [some (.ref a), some (.ref b), v] ∧ H1 = H ∧ ∀ j, j < i → xs.getD j [] = ys.getD j []) ⟨none, rfl, rfl, fun j hj => absurd hj (by omega)⟩ ?_ ?_
      · rintro i σ H1 hi ⟨v, rfl, rfl, hall⟩
        walk_at "rd"
        have e2 : (0 + (i : Int)).toNat = i := by omega
        rw [e2]
        refine u_law_row (hpa i (by omega)) (SqL.of (hpb i (by omega))) (hyi i (by omega)) ?_
        walk_at "rd"
        refine ite_nd (fun h1 => ?_) (fun h1 => ?_)
        · rw [decide_eq_false (by rintro rfl; exact h1 rfl)] at q
          walk_at "rd"
          exact q
        · walk_at "rd"
          refine ⟨_, rfl, rfl, fun j hj => ?_⟩
          by_cases e : j = i
          · subst e
            exact h1
          · exact hall j (by omega)
      · rintro σ H1 ⟨v, rfl, rfl, hall⟩
        rw [decide_eq_true (getDL_ext hlen fun j hj => hall j (by omega))] at q
        walk_at "rd"
        exact q
  exact TERM
theorem u_law_rows {H : Hp} {a b : Addr} {xs ys : List (List Int)} {Q : VK} {E : XK} (hz : ∃ zs, H a = some (.lst zs)) (h : LL K H a xs) (h' : LL K H b ys) (hl : ys.length ≤ 1000000) (hi : ∀ i, i < ys.length → (ys.getD i []).length ≤ 1000000) (q : Q (.bl (decide (xs = ys))) H) : sp_law_rows K [.ref a, .ref b] H Q E := ⟨rfl, a, b, xs, ys, rfl, hz, h, h', hl, hi, q⟩
/-! def Exam.readers -/
def sp_Exam_readers (K : PySem.W.Frag) (C : Addr) : Sp := fun vs H Q _ => vs.length = 1 ∧ ∃ (x : Addr) (F : Addr → Prop) (st : ExS), vs = [.ref x] ∧ ExAt C H x F st ∧ InB st.hs st.rs ∧ (∀ p H', RowsAt H p st.rs H' → Q (.ref p) H')
theorem ok_Exam_readers (T : Txt K mg t) : FnOk P w K mg base CX0 1 t.f_Exam_readers t.d_Exam_readers ["self"] (sp_Exam_readers K t.C_Exam) := by
  refine T.F_Exam_readers.ok sc_Exam_readers (fun vs H Q E h => ?_) (fun cdv A outer s H vs Q E hr h => ?_)
  · exact (by obtain ⟨h, _⟩ := h; exact h)
  have TERM : ∃ t', PSs (cxOf CX0 P w K mg base ["self"] "Exam.readers" (defScope s_Exam_readers) t.f_Exam_readers cdv A outer s H E).nox (defBody s_Exam_readers) t' ∧ t' ⟨fun _ H' => Q .non H', Q, fun _ _ => False, fun _ _ => False⟩ (start ["self"] vs) H := by
    refine ⟨_, (pss_one (ps_ret (pe_comp (compScope_of (sc := defScope s_Exam_readers) (XN := ["self"]) (N := ["row"]) (own := 1) (js := []) rfl rfl (by decide +kernel)) rfl (pi_listK (K := K) rfl (pe_fldK (K := K) rfl (pv 0))) (fun _ _ _ _ _ => (pg_name (i := 0) (show List.Nodup [(Str.ofString "row")] by decide +kernel) rfl (by first | exact Or.inl rfl | exact Or.inr rfl))) (fun _ _ _ _ _ => pts_nil) (fun _ _ _ _ _ => (pe_callTy (call_listK (K := K) rfl) (by rfl) T.z_list (by rfl) (pa_cons (pv 0) pa_nil)))))), ?_⟩
    obtain ⟨_, x, F, st, rfl, E0, BB, q⟩ := h
    have B1 := BB.lp
    have B2 := BB.lr
    obtain ⟨e, kvs, rfl, hF, I⟩ := E0
    have hcl := T.cl_Exam
    have nA := T.n_Exam_paper_houses
    have nB := T.n_Exam_reader_rows
    have nS := T.n_Exam_widest_step
    have nD := T.n_Exam_is_dealt
    have nC := T.n_Exam_named_readers
    have nE := T.n_Exam_entered_points
    have hob := I.ob
    have fA := @exFs_a (.ref e.a) (.ref e.b) (.int st.step) (.bl st.dl.isSome) (.ref e.c) (.ref e.d)
    have fB := @exFs_b (.ref e.a) (.ref e.b) (.int st.step) (.bl st.dl.isSome) (.ref e.c) (.ref e.d)
    have fS := @exFs_s (.ref e.a) (.ref e.b) (.int st.step) (.bl st.dl.isSome) (.ref e.c) (.ref e.d)
    have fD := @exFs_d (.ref e.a) (.ref e.b) (.int st.step) (.bl st.dl.isSome) (.ref e.c) (.ref e.d)
    have fC := @exFs_c (.ref e.a) (.ref e.b) (.int st.step) (.bl st.dl.isSome) (.ref e.c) (.ref e.d)
    have fE := @exFs_e (.ref e.a) (.ref e.b) (.int st.step) (.bl st.dl.isSome) (.ref e.c) (.ref e.d)
    have hha := I.ha
    have hhb := I.hb
    have hhc := I.hc
    have hhd := I.hd
    have L : LL K H e.b st.rs := ⟨e.ps, SqL.of hhb, I.lp, I.rp⟩
    walk_at "rd"
    refine r_lstAt (SqL.of hhb) ?_
    refine comp_copyR L (by omega) fun p H2 R => ?_
    exact q p H2 R
  exact TERM
theorem u_Exam_readers {K : PySem.W.Frag} {C x : Addr} {H : Hp} {F : Addr → Prop} {st : ExS} {Q : VK} {E : XK} (h : ExAt C H x F st) (B : InB st.hs st.rs) (q : (∀ p H', RowsAt H p st.rs H' → Q (.ref p) H')) : sp_Exam_readers K C [.ref x] H Q E := ⟨rfl, x, F, st, rfl, h, B, q⟩
theorem c_Exam_readers {K : PySem.W.Frag} {C x : Addr} {H : Hp} {F : Addr → Prop} {st : ExS} {Q : VK} {E : XK} {σ : L2.St} (h : ExAt C H x F st) (B : InB st.hs st.rs) (q : (∀ p H', RowsAt H p st.rs H' → Q (.ref p) H')) : LeafMeth C "readers" (sp_Exam_readers K C) E tNil σ (.ref x) H Q := by
  obtain ⟨dx, fs, e, l⟩ := h.ob
  exact leaf_meth e (l _ (by decide +kernel)) (r_nil (u_Exam_readers h B q))
/-! def Exam.papers -/
def sp_Exam_papers (K : PySem.W.Frag) (C : Addr) : Sp := fun vs H Q _ => vs.length = 1 ∧ ∃ (x : Addr) (F : Addr → Prop) (st : ExS), vs = [.ref x] ∧ ExAt C H x F st ∧ InB st.hs st.rs ∧ (∀ p H', H p = none → Same H H' → H' p = some (.lst (st.hs.map V.int)) → Q (.ref p) H')
theorem ok_Exam_papers (T : Txt K mg t) : FnOk P w K mg base CX0 1 t.f_Exam_papers t.d_Exam_papers ["self"] (sp_Exam_papers K t.C_Exam) := by
  refine T.F_Exam_papers.ok sc_Exam_papers (fun vs H Q E h => ?_) (fun cdv A outer s H vs Q E hr h => ?_)
  · exact (by obtain ⟨h, _⟩ := h; exact h)
  have TERM : ∃ t', PSs (cxOf CX0 P w K mg base ["self"] "Exam.papers" (defScope s_Exam_papers) t.f_Exam_papers cdv A outer s H E).nox (defBody s_Exam_papers) t' ∧ t' ⟨fun _ H' => Q .non H', Q, fun _ _ => False, fun _ _ => False⟩ (start ["self"] vs) H := by
    refine ⟨_, (pss_one (ps_ret (pe_callTy (call_listK (K := K) rfl) (by rfl) T.z_list (by rfl) (pa_cons (pe_fldK (K := K) rfl (pv 0)) pa_nil)))), ?_⟩
    obtain ⟨_, x, F, st, rfl, E0, BB, q⟩ := h
    have B1 := BB.lp
    have B2 := BB.lr
    obtain ⟨e, kvs, rfl, hF, I⟩ := E0
    have hcl := T.cl_Exam
    have nA := T.n_Exam_paper_houses
    have nB := T.n_Exam_reader_rows
    have nS := T.n_Exam_widest_step
    have nD := T.n_Exam_is_dealt
    have nC := T.n_Exam_named_readers
    have nE := T.n_Exam_entered_points
    have hob := I.ob
    have fA := @exFs_a (.ref e.a) (.ref e.b) (.int st.step) (.bl st.dl.isSome) (.ref e.c) (.ref e.d)
    have fB := @exFs_b (.ref e.a) (.ref e.b) (.int st.step) (.bl st.dl.isSome) (.ref e.c) (.ref e.d)
    have fS := @exFs_s (.ref e.a) (.ref e.b) (.int st.step) (.bl st.dl.isSome) (.ref e.c) (.ref e.d)
    have fD := @exFs_d (.ref e.a) (.ref e.b) (.int st.step) (.bl st.dl.isSome) (.ref e.c) (.ref e.d)
    have fC := @exFs_c (.ref e.a) (.ref e.b) (.int st.step) (.bl st.dl.isSome) (.ref e.c) (.ref e.d)
    have fE := @exFs_e (.ref e.a) (.ref e.b) (.int st.step) (.bl st.dl.isSome) (.ref e.c) (.ref e.d)
    have hha := I.ha
    have hhb := I.hb
    have hhc := I.hc
    have hhd := I.hd
    walk_at "rd"
    refine leaf_list (SqL.of hha) fun p H1 f1 s1 e1 => ?_
    exact q p H1 f1 s1 e1
  exact TERM
theorem u_Exam_papers {K : PySem.W.Frag} {C x : Addr} {H : Hp} {F : Addr → Prop} {st : ExS} {Q : VK} {E : XK} (h : ExAt C H x F st) (B : InB st.hs st.rs) (q : (∀ p H', H p = none → Same H H' → H' p = some (.lst (st.hs.map V.int)) → Q (.ref p) H')) : sp_Exam_papers K C [.ref x] H Q E := ⟨rfl, x, F, st, rfl, h, B, q⟩
theorem c_Exam_papers {K : PySem.W.Frag} {C x : Addr} {H : Hp} {F : Addr → Prop} {st : ExS} {Q : VK} {E : XK} {σ : L2.St} (h : ExAt C H x F st) (B : InB st.hs st.rs) (q : (∀ p H', H p = none → Same H H' → H' p = some (.lst (st.hs.map V.int)) → Q (.ref p) H')) : LeafMeth C "papers" (sp_Exam_papers K C) E tNil σ (.ref x) H Q := by
  obtain ⟨dx, fs, e, l⟩ := h.ob
  exact leaf_meth e (l _ (by decide +kernel)) (r_nil (u_Exam_papers h B q))
/-! def Exam.due_readers -/
def sp_Exam_due_readers (K : PySem.W.Frag) (C : Addr) : Sp := fun vs H Q _ => vs.length = 2 ∧ ∃ (x : Addr) (F : Addr → Prop) (st : ExS) (k : Int), vs = [.ref x, .int k] ∧ ExAt C H x F st ∧ InB st.hs st.rs ∧ 1 ≤ k ∧ k ≤ st.nm.length ∧ (∀ p H', H p = none → Same H H' → H' p = some (.lst ((wantB st.nm st.en (k - 1).toNat).map V.int)) → Q (.ref p) H')
theorem ok_Exam_due_readers (T : Txt K mg t) : FnOk P w K mg base CX0 1 t.f_Exam_due_readers t.d_Exam_due_readers ["self", "paper"] (sp_Exam_due_readers K t.C_Exam) := by
  refine T.F_Exam_due_readers.ok sc_Exam_due_readers (fun vs H Q E h => ?_) (fun cdv A outer s H vs Q E hr h => ?_)
  · exact (by obtain ⟨h, _⟩ := h; exact h)
  have TERM : ∃ t', PSs (cxOf CX0 P w K mg base ["self", "paper", "entered"] "Exam.due_readers" (defScope s_Exam_due_readers) t.f_Exam_due_readers cdv A outer s H E).nox (defBody s_Exam_due_readers) t' ∧ t' ⟨fun _ H' => Q .non H', Q, fun _ _ => False, fun _ _ => False⟩ (start ["self", "paper", "entered"] vs) H := by
    refine ⟨_, (pss_cons (ps_set (i := 2) sc_Exam_due_readers.nd rfl (by first | exact Or.inl rfl | exact Or.inr rfl) (pe_ix (ix_listK (K := K) rfl) (pe_fldK (K := K) rfl (pv 0)) (pe_op (op_sub) (pv 1) pe_int) (fun _ _ => rfl)))
      (pss_one (ps_ret (pe_comp (compScope_of (sc := defScope s_Exam_due_readers) (XN := ["self", "paper", "entered"]) (N := ["reader", "entered"]) (own := 1) (js := [2]) rfl rfl (by decide +kernel)) rfl (pi_listK (K := K) rfl (pe_ix (ix_listK (K := K) rfl) (pe_fldK (K := K) rfl (pv 0)) (pe_op (op_sub) (pv 1) pe_int) (fun _ _ => rfl))) (fun _ _ _ _ _ => (pg_name (i := 0) (show List.Nodup [(Str.ofString "reader"), (Str.ofString "entered")] by decide +kernel) rfl (by first | exact Or.inl rfl | exact Or.inr rfl))) (fun _ _ _ _ _ => (pts_one (pt_cmp (pc_dnotin (hu_of hr) (pv 0) (pv 1))))) (fun _ _ _ _ _ => (pv 0)))))), ?_⟩
    obtain ⟨_, x, F, st, k, rfl, E0, BB, k1, k2, q⟩ := h
    have B1 := BB.lp
    have B2 := BB.lr
    have E0' := E0
    obtain ⟨e, kvs, rfl, hF, I⟩ := E0
    have hcl := T.cl_Exam
    have nA := T.n_Exam_paper_houses
    have nB := T.n_Exam_reader_rows
    have nS := T.n_Exam_widest_step
    have nD := T.n_Exam_is_dealt
    have nC := T.n_Exam_named_readers
    have nE := T.n_Exam_entered_points
    have hob := I.ob
    have fA := @exFs_a (.ref e.a) (.ref e.b) (.int st.step) (.bl st.dl.isSome) (.ref e.c) (.ref e.d)
    have fB := @exFs_b (.ref e.a) (.ref e.b) (.int st.step) (.bl st.dl.isSome) (.ref e.c) (.ref e.d)
    have fS := @exFs_s (.ref e.a) (.ref e.b) (.int st.step) (.bl st.dl.isSome) (.ref e.c) (.ref e.d)
    have fD := @exFs_d (.ref e.a) (.ref e.b) (.int st.step) (.bl st.dl.isSome) (.ref e.c) (.ref e.d)
    have fC := @exFs_c (.ref e.a) (.ref e.b) (.int st.step) (.bl st.dl.isSome) (.ref e.c) (.ref e.d)
    have fE := @exFs_e (.ref e.a) (.ref e.b) (.int st.step) (.bl st.dl.isSome) (.ref e.c) (.ref e.d)
    have hha := I.ha
    have hhb := I.hb
    have hhc := I.hc
    have hhd := I.hd
    have lq := I.lq
    have ld := I.ld
    have l10 := I.wf.n10 BB
    have hk : (k - 1).toNat < st.nm.length := by omega
    have hdic := I.rd _ hk
    have hrow := I.rq _ hk
    have hvk := I.vk _ hk
    have hlr := (I.wf.row _ hk).len
    walk_at "rd"
    refine r_lstAt (SqL.of hrow) ?_
    refine comp_keep (SqL.of hrow) (by rw [List.length_map]; omega) (fun v => match v with | .int r => (entOf st.en (k - 1).toNat r).isNone | _ => false) (fun i H' Q' hi s q' => ?_) fun p H2 f s e2 => ?_
    · rw [List.length_map] at hi
      have ex : ((st.nm.getD (k - 1).toNat []).map V.int).getD i .non = .int ((st.nm.getD (k - 1).toNat []).getD i 0) := mapI_getD hi
      rw [ex] at q' ⊢
      walk_at "rd"
      refine leaf_dnin (s _ _ hdic) ?_
      rw [hvk]
      have eb : (!((entOf st.en (k - 1).toNat ((st.nm.getD (k - 1).toNat []).getD i 0)).map V.int).isSome) = (entOf st.en (k - 1).toNat ((st.nm.getD (k - 1).toNat []).getD i 0)).isNone := by
        cases entOf st.en (k - 1).toNat ((st.nm.getD (k - 1).toNat []).getD i 0) <;> rfl
      walk_at "rd"
      rw [eb]
      exact q'
    · have ew : ((st.nm.getD (k - 1).toNat []).map V.int).filter (fun v => match v with | .int r => (entOf st.en (k - 1).toNat r).isNone | _ => false) = (wantB st.nm st.en (k - 1).toNat).map V.int := by
        unfold wantB
        rw [List.filter_map]
        rfl
      rw [ew] at e2
      exact q p H2 f s e2
  exact TERM
theorem u_Exam_due_readers {K : PySem.W.Frag} {C x : Addr} {H : Hp} {F : Addr → Prop} {st : ExS} {k : Int} {Q : VK} {E : XK} (h : ExAt C H x F st) (B : InB st.hs st.rs) (k1 : 1 ≤ k) (k2 : k ≤ st.nm.length) (q : (∀ p H', H p = none → Same H H' → H' p = some (.lst ((wantB st.nm st.en (k - 1).toNat).map V.int)) → Q (.ref p) H')) : sp_Exam_due_readers K C [.ref x, .int k] H Q E := ⟨rfl, x, F, st, k, rfl, h, B, k1, k2, q⟩
theorem c_Exam_due_readers {K : PySem.W.Frag} {C x : Addr} {H : Hp} {F : Addr → Prop} {st : ExS} {k : Int} {Q : VK} {E : XK} {σ : L2.St} {tk : TE} (h : ExAt C H x F st) (B : InB st.hs st.rs) (k1 : 1 ≤ k) (k2 : k ≤ st.nm.length) (hk : ∀ Q : VK, Q (.int k) H → tk σ H Q) (q : (∀ p H', H p = none → Same H H' → H' p = some (.lst ((wantB st.nm st.en (k - 1).toNat).map V.int)) → Q (.ref p) H')) : LeafMeth C "due_readers" (sp_Exam_due_readers K C) E (tCons tk tNil) σ (.ref x) H Q := by
  obtain ⟨dx, fs, e, l⟩ := h.ob
  exact leaf_meth e (l _ (by decide +kernel)) (r_cons (hk _ (r_nil (u_Exam_due_readers h B k1 k2  q))))
/-! def Exam.due -/
def sp_Exam_due (K : PySem.W.Frag) (C : Addr) : Sp := fun vs H Q _ => vs.length = 1 ∧ ∃ (x : Addr) (F : Addr → Prop) (st : ExS), vs = [.ref x] ∧ ExAt C H x F st ∧ InB st.hs st.rs ∧ (∀ p H', RowsAt H p (dueS st) H' → Q (.ref p) H')
theorem ok_Exam_due (T : Txt K mg t) : FnOk P w K mg base CX0 2 t.f_Exam_due t.d_Exam_due ["self"] (sp_Exam_due K t.C_Exam) := by
  have G_Exam_due_readers := ok_Exam_due_readers (P := P) (w := w) (base := base) T
  refine T.F_Exam_due.ok sc_Exam_due (fun vs H Q E h => ?_) (fun cdv A outer s H vs Q E hr h => ?_)
  · exact (by obtain ⟨h, _⟩ := h; exact h)
  have TERM : ∃ t', PSs (cxOf CX0 P w K mg base ["self", "rows", "paper"] "Exam.due" (defScope s_Exam_due) t.f_Exam_due cdv A outer s H E).nox (defBody s_Exam_due) t' ∧ t' ⟨fun _ H' => Q .non H', Q, fun _ _ => False, fun _ _ => False⟩ (start ["self", "rows", "paper"] vs) H := by
    refine ⟨_, (pss_cons (ps_set (i := 1) sc_Exam_due.nd rfl (by first | exact Or.inl rfl | exact Or.inr rfl) (pe_lst pa_nil))
      (pss_cons (ps_for PassesOwn.never rfl (pi_range2 (by rfl) T.z_range (pa_cons pe_int (pa_cons (pe_op (op_addG) (pe_callB (call_lenK (K := K) rfl) (by rfl) T.z_len (by rfl) (pa_cons (pe_fldK (K := K) rfl (pv 0)) pa_nil)) pe_int) pa_nil))) (pg_name (i := 2) sc_Exam_due.nd rfl (by first | exact Or.inl rfl | exact Or.inr rfl))
      (pss_one (ps_expr (pe_bmK (K := K) rfl PySem.F.plainAttrs_list PySem.F.slot_list_extend PySem.F.type_list_extend mt_extend (pv 1) (pa_cons (pe_comp (compScope_of (sc := defScope s_Exam_due) (XN := ["self", "rows", "paper"]) (N := ["reader", "paper"]) (own := 1) (js := [2]) rfl rfl (by decide +kernel)) rfl (pi_listK (K := K) rfl (pe_meth (pv 0) T.cl_Exam T.me_Exam_due_readers (G_Exam_due_readers) (hr.mono (by first | decide | exact Nat.le_refl _)) T.b_Exam_due_readers .nil pass0 (pa_cons (pv 2) pa_nil))) (fun _ _ _ _ _ => (pg_name (i := 0) (show List.Nodup [(Str.ofString "reader"), (Str.ofString "paper")] by decide +kernel) rfl (by first | exact Or.inl rfl | exact Or.inr rfl))) (fun _ _ _ _ _ => pts_nil) (fun _ _ _ _ _ => (pe_lst (pa_cons (pv 1) (pa_cons (pv 0) pa_nil))))) pa_nil)))))
      (pss_one (ps_ret (pv 1))))), ?_⟩
    obtain ⟨_, x, F, st, rfl, E0, BB, q⟩ := h
    have B1 := BB.lp
    have B2 := BB.lr
    have E0' := E0
    obtain ⟨e, kvs, rfl, hF, I⟩ := E0
    have hcl := T.cl_Exam
    have nA := T.n_Exam_paper_houses
    have nB := T.n_Exam_reader_rows
    have nS := T.n_Exam_widest_step
    have nD := T.n_Exam_is_dealt
    have nC := T.n_Exam_named_readers
    have nE := T.n_Exam_entered_points
    have hob := I.ob
    have fA := @exFs_a (.ref e.a) (.ref e.b) (.int st.step) (.bl st.dl.isSome) (.ref e.c) (.ref e.d)
    have fB := @exFs_b (.ref e.a) (.ref e.b) (.int st.step) (.bl st.dl.isSome) (.ref e.c) (.ref e.d)
    have fS := @exFs_s (.ref e.a) (.ref e.b) (.int st.step) (.bl st.dl.isSome) (.ref e.c) (.ref e.d)
    have fD := @exFs_d (.ref e.a) (.ref e.b) (.int st.step) (.bl st.dl.isSome) (.ref e.c) (.ref e.d)
    have fC := @exFs_c (.ref e.a) (.ref e.b) (.int st.step) (.bl st.dl.isSome) (.ref e.c) (.ref e.d)
    have fE := @exFs_e (.ref e.a) (.ref e.b) (.int st.step) (.bl st.dl.isSome) (.ref e.c) (.ref e.d)
    have hha := I.ha
    have hhb := I.hb
    have hhc := I.hc
    have hhd := I.hd
    have lq := I.lq
    have l10 := I.wf.n10 BB
    walk_at "rd"
    refine leaf_lst (by decide) fun p1 H1 f1 s1 e1 => ?_
    have hob1 := s1 _ _ hob
    have hhc1 := s1 _ _ hhc
    walk_at "rd"
    refine r_rng2 ⟨by omega, by omega, by omega, by omega⟩ ?_
    have en : ((e.qs.length : Int) + 1 - 1).toNat = st.nm.length := by omega
    rw [en]
    refine r_forR (fun i σ H' => (∃ v, σ = [some (.ref e.x), some (.ref p1), v]) ∧ RowsAt H p1 ((List.range i).flatMap fun k => (wantB st.nm st.en k).map fun r => [(k : Int) + 1, r]) H' ∧ ((List.range i).flatMap fun k => (wantB st.nm st.en k).map fun r => [(k : Int) + 1, r]).length ≤ 3 * i) ⟨⟨none, rfl⟩, RowsAt.start f1 s1 e1, by simp⟩ ?_ ?_
    · rintro i σ H' hi ⟨⟨v, rfl⟩, R, hlen⟩
      have E' := E0'.same R.same
      have ek : (1 + (i : Int) - 1).toNat = i := by omega
      have hw := want_le st.nm st.en i
      have hlr := (I.wf.row i hi).len
      obtain ⟨zs', z', _⟩ := R.lst
      walk_at "rd"
      refine c_Exam_due_readers E' BB (k := 1 + (i : Int)) (by omega) (by omega) (fun Q z => r_var (i := 2) rfl z) fun p2 H2 f2 s2 e2 => ?_
      rw [ek] at e2
      refine r_lstAt (SqL.of e2) ?_
      refine compG_of (comp_rows (Turns.one (iter_list (SqL.of e2))) (by rw [List.length_map]; omega) (fun j => [(i : Int) + 1, (wantB st.nm st.en i).getD j 0]) (fun j H3 Q' hj s3 q' => ?_) fun p3 H3 R3 => ?_)
      · rw [List.length_map] at hj
        have ex : ((wantB st.nm st.en i).map V.int).getD j .non = .int ((wantB st.nm st.en i).getD j 0) := mapI_getD hj
        rw [ex]
        show (_ : TE) (some (.int _) :: some (.int (1 + (i : Int))) :: _) _ _
        walk_at "rd"
        rw [Int.add_comm 1 (i : Int)]
        refine leaf_lst (by simp) fun p4 H4 f4 s4 e4 => ?_
        exact q' p4 H4 f4 s4 e4
      · have er : (List.range ((wantB st.nm st.en i).map V.int).length).map (fun j => [(i : Int) + 1, (wantB st.nm st.en i).getD j 0]) = (wantB st.nm st.en i).map fun r => [(i : Int) + 1, r] := by
          rw [List.length_map]
          conv => rhs; rw [← map_range_getD (wantB st.nm st.en i) 0]
          rw [List.map_map]
          rfl
        rw [er] at R3
        have R' : RowsAt H p1 _ H2 := ⟨R.same.trans s2, R.new, by obtain ⟨ps, a1, a2, a3, a4⟩ := R.rows; exact ⟨ps, s2 _ _ a1, a2, a3, fun j hj => ⟨s2 _ _ (a4 j hj).1, (a4 j hj).2⟩⟩⟩
        obtain ⟨zs, zs2, z1, z2, z3, z4, zz⟩ := R'.ext (H3 := H3) R3
        rw [List.length_map] at z4
        obtain ⟨zs, zs2, z1, z2, z3, z4, _⟩ := R'.ext (H3 := H3) R3
        rw [List.length_map] at z4
        walk_at "rd"
        refine leaf_ext z1 z2 (by omega) fun H4 b4 e4 => ?_
        obtain ⟨ys, ys2, y1, y2, y3, y4, yy⟩ := R'.ext (H3 := H4) R3
        have eq1 : ys = zs := by rw [y1] at z1; exact HO.lst.inj (Option.some.inj z1)
        have eq2 : ys2 = zs2 := by rw [y2] at z2; exact HO.lst.inj (Option.some.inj z2)
        rw [eq1, eq2] at yy
        walk_at "rd"
        refine ⟨⟨_, rfl⟩, ?_, ?_⟩
        · rw [dueB_take _ _ _ hi]
          exact yy b4 e4
        · rw [dueB_take _ _ _ hi, List.length_append, List.length_map]
          omega
    · rintro σ H' ⟨⟨v, rfl⟩, R, _⟩
      walk_at "rd"
      exact q p1 H' R
  exact TERM
theorem u_Exam_due {K : PySem.W.Frag} {C x : Addr} {H : Hp} {F : Addr → Prop} {st : ExS} {Q : VK} {E : XK} (h : ExAt C H x F st) (B : InB st.hs st.rs) (q : (∀ p H', RowsAt H p (dueS st) H' → Q (.ref p) H')) : sp_Exam_due K C [.ref x] H Q E := ⟨rfl, x, F, st, rfl, h, B, q⟩
theorem c_Exam_due {K : PySem.W.Frag} {C x : Addr} {H : Hp} {F : Addr → Prop} {st : ExS} {Q : VK} {E : XK} {σ : L2.St} (h : ExAt C H x F st) (B : InB st.hs st.rs) (q : (∀ p H', RowsAt H p (dueS st) H' → Q (.ref p) H')) : LeafMeth C "due" (sp_Exam_due K C) E tNil σ (.ref x) H Q := by
  obtain ⟨dx, fs, e, l⟩ := h.ob
  exact leaf_meth e (l _ (by decide +kernel)) (r_nil (u_Exam_due h B q))
/-! def times_in -/
def sp_times_in (K : PySem.W.Frag) : Sp := fun vs H Q _ => vs.length = 2 ∧ ∃ (b : Addr) (rows : List (List Int)) (x : Int), vs = [.ref b, .int x] ∧ LL K H b rows ∧ rows.length ≤ 20 ∧ ∀ H', Same H H' → Q (.int (cntB rows x : Int)) H'
theorem ok_times_in (T : Txt K mg t) : FnOk P w K mg base CX0 1 t.f_times_in t.d_times_in ["rows", "reader"] (sp_times_in K) := by
  refine T.F_times_in.ok sc_times_in (fun vs H Q E h => ?_) (fun cdv A outer s H vs Q E hr h => ?_)
  · exact (by obtain ⟨h, _⟩ := h; exact h)
  have TERM : ∃ t', PSs (cxOf CX0 P w K mg base ["rows", "reader"] "times_in" (defScope s_times_in) t.f_times_in cdv A outer s H E).nox (defBody s_times_in) t' ∧ t' ⟨fun _ H' => Q .non H', Q, fun _ _ => False, fun _ _ => False⟩ (start ["rows", "reader"] vs) H := by
    refine ⟨_, (pss_one (ps_ret (pe_callB (call_lenK (K := K) rfl) (by rfl) T.z_len (by rfl) (pa_cons (pe_comp (compScope_of (sc := defScope s_times_in) (XN := ["rows", "reader"]) (N := ["row", "reader"]) (own := 1) (js := [1]) rfl rfl (by decide +kernel)) rfl (pi_listK (K := K) rfl (pv 0)) (fun _ _ _ _ _ => (pg_name (i := 0) (show List.Nodup [(Str.ofString "row"), (Str.ofString "reader")] by decide +kernel) rfl (by first | exact Or.inl rfl | exact Or.inr rfl))) (fun _ _ _ _ _ => (pts_one (pt_cmpR (op_inK (K := K) rfl) (pv 1) (pv 0) (by with_unfolding_all rfl)))) (fun _ _ _ _ _ => (pv 0))) pa_nil)))), ?_⟩
    obtain ⟨_, b, rows, x, rfl, L, hl, q⟩ := h
    obtain ⟨ps, hb, hpl, hr⟩ := id L
    walk_at "rd"
    refine r_lstAt hb ?_
    refine comp_cnt hb hpl (by omega) (x := x) (fun i H' Q' hi s q' => ?_) fun p H2 zs f s e ez => ?_
    · have hrow := s _ _ (hr i hi)
      walk_at "rd"
      exact q'
    walk_at "rd"
    rw [ez]
    exact q _ s
  exact TERM
theorem u_times_in {H : Hp} {b : Addr} {rows : List (List Int)} {x : Int} {Q : VK} {E : XK} (h : LL K H b rows) (hl : rows.length ≤ 20) (q : ∀ H', Same H H' → Q (.int (cntB rows x : Int)) H') : sp_times_in K [.ref b, .int x] H Q E := ⟨rfl, b, rows, x, rfl, h, hl, q⟩
/-! def left_after -/
theorem left_map (rs rows : List (List Int)) (n : Nat) (hn : n = rs.length) : ((List.range n).filter fun _ => true).map (fun i => V.int ((rs.getD i []).getD 1 0 - (cntB rows (1 + (i : Int)) : Int))) = (leftB rs rows).map V.int := by
  subst hn
  rw [List.filter_eq_self.mpr (fun _ _ => rfl)]
  unfold leftB
  rw [List.map_map]
  refine List.map_congr_left fun i _ => ?_
  show V.int _ = V.int _
  rw [Int.add_comm 1 (i : Int)]
def sp_left_after (K : PySem.W.Frag) : Sp := fun vs H Q _ => vs.length = 2 ∧ ∃ (a b : Addr) (rs rows : List (List Int)), vs = [.ref a, .ref b] ∧ LL K H a rs ∧ LL K H b rows ∧ rs.length ≤ 8 ∧ rows.length ≤ 20 ∧ (∀ i, i < rs.length → (rs.getD i []).length = 2) ∧ ∀ p H', H p = none → Same H H' → H' p = some (.lst ((leftB rs rows).map V.int)) → Q (.ref p) H'
theorem ok_left_after (T : Txt K mg t) : FnOk P w K mg base CX0 2 t.f_left_after t.d_left_after ["readers", "rows"] (sp_left_after K) := by
  have G_times_in := ok_times_in (P := P) (w := w) (base := base) T
  refine T.F_left_after.ok sc_left_after (fun vs H Q E h => ?_) (fun cdv A outer s H vs Q E hr h => ?_)
  · exact (by obtain ⟨h, _⟩ := h; exact h)
  have TERM : ∃ t', PSs (cxOf CX0 P w K mg base ["readers", "rows"] "left_after" (defScope s_left_after) t.f_left_after cdv A outer s H E).nox (defBody s_left_after) t' ∧ t' ⟨fun _ H' => Q .non H', Q, fun _ _ => False, fun _ _ => False⟩ (start ["readers", "rows"] vs) H := by
    refine ⟨_, (pss_one (ps_ret (pe_comp (compScope_of (sc := defScope s_left_after) (XN := ["readers", "rows"]) (N := ["reader", "row", "rows"]) (own := 2) (js := [1]) rfl rfl (by decide +kernel)) rfl (pi_enum1 (K := K) rfl (by rfl) T.z_enumerate (pa_cons (pv 0) pa_nil)) (fun _ _ _ _ _ => (pg_tupK (K := K) (n := 2) rfl rfl (pgs_cons (pg_name (i := 0) (show List.Nodup [(Str.ofString "reader"), (Str.ofString "row"), (Str.ofString "rows")] by decide +kernel) rfl (by first | exact Or.inl rfl | exact Or.inr rfl)) (pgs_cons (pg_name (i := 1) (show List.Nodup [(Str.ofString "reader"), (Str.ofString "row"), (Str.ofString "rows")] by decide +kernel) rfl (by first | exact Or.inl rfl | exact Or.inr rfl)) pgs_nil)))) (fun _ _ _ _ _ => pts_nil) (fun _ _ _ _ _ => (pe_op (op_sub) (pe_ix (ix_listK (K := K) rfl) (pv 1) pe_int (fun _ _ => rfl)) (pe_call (G_times_in) (hr.mono (by decide)) (by rfl) T.m_times_in T.F_times_in.kp T.b_times_in .nil pass0 (pa_cons (pv 2) (pa_cons (pv 0) pa_nil)))))))), ?_⟩
    obtain ⟨_, a, b, rs, rows, rfl, L1, L2, l1, l2, r2, q⟩ := h
    obtain ⟨ps, ha, hpl, hpr⟩ := id L1
    have en : (ps.map V.ref).length = rs.length := by rw [List.length_map]; exact hpl
    walk_at "rd"
    refine r_enumAt ha ?_
    refine comp_grow (Turns.enum ha) (by omega) (fun _ => true) (fun i => .int ((rs.getD i []).getD 1 0 - (cntB rows (1 + (i : Int)) : Int))) (fun i H' Q' _ _ q' => q' _ (Same.refl _)) (fun i H' Q' hi s _ q' => ?_) fun p H2 f s e => ?_
    · have hi' : i < rs.length := by omega
      have ex : (ps.map V.ref).getD i .non = .ref (ps.getD i 0) := by
        rw [List.getD_eq_getElem?_getD, List.getElem?_map, List.getElem?_eq_getElem (by omega), List.getD_eq_getElem?_getD, List.getElem?_eq_getElem (by omega)]; rfl
      rw [ex]
      have h2 := r2 i hi'
      have hrow := s _ _ (hpr i hi')
      show (_ : TE) (some (.int (1 + (i : Int))) :: some (.ref (ps.getD i 0)) :: _) _ _
      walk_at "rd"
      refine u_times_in (L2.same s) l2 fun H3 s3 => ?_
      walk_at "rd"
      exact q' _ s3
    rw [left_map rs rows _ en] at e
    exact q p H2 f s e
  exact TERM
theorem u_left_after {H : Hp} {a b : Addr} {rs rows : List (List Int)} {Q : VK} {E : XK} (h1 : LL K H a rs) (h2 : LL K H b rows) (l1 : rs.length ≤ 8) (l2 : rows.length ≤ 20) (r2 : ∀ i, i < rs.length → (rs.getD i []).length = 2) (w2 : ∀ i, i < rows.length → (rows.getD i []).length = 2) (w3 : ∀ i, i < rows.length → ∀ x ∈ rows.getD i [], 1 ≤ x ∧ x ≤ rs.length) (w4 : ∀ i, i < rows.length → (rows.getD i []).getD 0 0 ≠ (rows.getD i []).getD 1 0)
    (q : ∀ p H', H p = none → Same H H' → H' p = some (.lst ((leftB rs rows).map V.int)) → Q (.ref p) H') : sp_left_after K [.ref a, .ref b] H Q E := ⟨rfl, a, b, rs, rows, rfl, h1, h2, l1, l2, r2, q⟩
theorem u_left_after' {H : Hp} {a b : Addr} {rs rows : List (List Int)} {Q : VK} {E : XK} (h1 : LL K H a rs) (h2 : LL K H b rows) (l1 : rs.length ≤ 8) (l2 : rows.length ≤ 20) (r2 : ∀ i, i < rs.length → (rs.getD i []).length = 2)
    (q : ∀ p H', H p = none → Same H H' → H' p = some (.lst ((leftB rs rows).map V.int)) → Q (.ref p) H') : sp_left_after K [.ref a, .ref b] H Q E := ⟨rfl, a, b, rs, rows, rfl, h1, h2, l1, l2, r2, q⟩
/-! def Exam.left -/
def sp_Exam_left (K : PySem.W.Frag) (C : Addr) : Sp := fun vs H Q _ => vs.length = 1 ∧ ∃ (x : Addr) (F : Addr → Prop) (st : ExS), vs = [.ref x] ∧ ExAt C H x F st ∧ InB st.hs st.rs ∧ (∀ p H', H p = none → Same H H' → H' p = some (.lst ((leftS st).map V.int)) → Q (.ref p) H')
theorem ok_Exam_left (T : Txt K mg t) : FnOk P w K mg base CX0 3 t.f_Exam_left t.d_Exam_left ["self"] (sp_Exam_left K t.C_Exam) := by
  have G_left_after := ok_left_after (P := P) (w := w) (base := base) T
  refine T.F_Exam_left.ok sc_Exam_left (fun vs H Q E h => ?_) (fun cdv A outer s H vs Q E hr h => ?_)
  · exact (by obtain ⟨h, _⟩ := h; exact h)
  have TERM : ∃ t', PSs (cxOf CX0 P w K mg base ["self"] "Exam.left" (defScope s_Exam_left) t.f_Exam_left cdv A outer s H E).nox (defBody s_Exam_left) t' ∧ t' ⟨fun _ H' => Q .non H', Q, fun _ _ => False, fun _ _ => False⟩ (start ["self"] vs) H := by
    refine ⟨_, (pss_one (ps_ret (pe_call (G_left_after) (hr.mono (by decide)) (by rfl) T.m_left_after T.F_left_after.kp T.b_left_after .nil pass0 (pa_cons (pe_fldK (K := K) rfl (pv 0)) (pa_cons (pe_fldK (K := K) rfl (pv 0)) pa_nil))))), ?_⟩
    obtain ⟨_, x, F, st, rfl, E0, BB, q⟩ := h
    have B1 := BB.lp
    have B2 := BB.lr
    obtain ⟨e, kvs, rfl, hF, I⟩ := E0
    have hcl := T.cl_Exam
    have nA := T.n_Exam_paper_houses
    have nB := T.n_Exam_reader_rows
    have nS := T.n_Exam_widest_step
    have nD := T.n_Exam_is_dealt
    have nC := T.n_Exam_named_readers
    have nE := T.n_Exam_entered_points
    have hob := I.ob
    have fA := @exFs_a (.ref e.a) (.ref e.b) (.int st.step) (.bl st.dl.isSome) (.ref e.c) (.ref e.d)
    have fB := @exFs_b (.ref e.a) (.ref e.b) (.int st.step) (.bl st.dl.isSome) (.ref e.c) (.ref e.d)
    have fS := @exFs_s (.ref e.a) (.ref e.b) (.int st.step) (.bl st.dl.isSome) (.ref e.c) (.ref e.d)
    have fD := @exFs_d (.ref e.a) (.ref e.b) (.int st.step) (.bl st.dl.isSome) (.ref e.c) (.ref e.d)
    have fC := @exFs_c (.ref e.a) (.ref e.b) (.int st.step) (.bl st.dl.isSome) (.ref e.c) (.ref e.d)
    have fE := @exFs_e (.ref e.a) (.ref e.b) (.int st.step) (.bl st.dl.isSome) (.ref e.c) (.ref e.d)
    have hha := I.ha
    have hhb := I.hb
    have hhc := I.hc
    have hhd := I.hd
    have L : LL K H e.b st.rs := ⟨e.ps, SqL.of hhb, I.lp, I.rp⟩
    have M : LL K H e.c st.nm := ⟨e.qs, SqL.of hhc, I.lq, I.rq⟩
    walk_at "rd"
    refine u_left_after' L M (by omega) (by have := I.wf.n10 BB; omega) BB.r2 fun p H2 f s z => ?_
    exact q p H2 f s z
  exact TERM
theorem u_Exam_left {K : PySem.W.Frag} {C x : Addr} {H : Hp} {F : Addr → Prop} {st : ExS} {Q : VK} {E : XK} (h : ExAt C H x F st) (B : InB st.hs st.rs) (q : (∀ p H', H p = none → Same H H' → H' p = some (.lst ((leftS st).map V.int)) → Q (.ref p) H')) : sp_Exam_left K C [.ref x] H Q E := ⟨rfl, x, F, st, rfl, h, B, q⟩
theorem c_Exam_left {K : PySem.W.Frag} {C x : Addr} {H : Hp} {F : Addr → Prop} {st : ExS} {Q : VK} {E : XK} {σ : L2.St} (h : ExAt C H x F st) (B : InB st.hs st.rs) (q : (∀ p H', H p = none → Same H H' → H' p = some (.lst ((leftS st).map V.int)) → Q (.ref p) H')) : LeafMeth C "left" (sp_Exam_left K C) E tNil σ (.ref x) H Q := by
  obtain ⟨dx, fs, e, l⟩ := h.ob
  exact leaf_meth e (l _ (by decide +kernel)) (r_nil (u_Exam_left h B q))
/-! def Exam.step -/
def sp_Exam_step (K : PySem.W.Frag) (C : Addr) : Sp := fun vs H Q _ => vs.length = 1 ∧ ∃ (x : Addr) (F : Addr → Prop) (st : ExS), vs = [.ref x] ∧ ExAt C H x F st ∧ InB st.hs st.rs ∧ (∀ H', Same H H' → Q (.int st.step) H')
theorem ok_Exam_step (T : Txt K mg t) : FnOk P w K mg base CX0 1 t.f_Exam_step t.d_Exam_step ["self"] (sp_Exam_step K t.C_Exam) := by
  refine T.F_Exam_step.ok sc_Exam_step (fun vs H Q E h => ?_) (fun cdv A outer s H vs Q E hr h => ?_)
  · exact (by obtain ⟨h, _⟩ := h; exact h)
  have TERM : ∃ t', PSs (cxOf CX0 P w K mg base ["self"] "Exam.step" (defScope s_Exam_step) t.f_Exam_step cdv A outer s H E).nox (defBody s_Exam_step) t' ∧ t' ⟨fun _ H' => Q .non H', Q, fun _ _ => False, fun _ _ => False⟩ (start ["self"] vs) H := by
    refine ⟨_, (pss_one (ps_ret (pe_fldK (K := K) rfl (pv 0)))), ?_⟩
    obtain ⟨_, x, F, st, rfl, E0, BB, q⟩ := h
    have B1 := BB.lp
    have B2 := BB.lr
    obtain ⟨e, kvs, rfl, hF, I⟩ := E0
    have hcl := T.cl_Exam
    have nA := T.n_Exam_paper_houses
    have nB := T.n_Exam_reader_rows
    have nS := T.n_Exam_widest_step
    have nD := T.n_Exam_is_dealt
    have nC := T.n_Exam_named_readers
    have nE := T.n_Exam_entered_points
    have hob := I.ob
    have fA := @exFs_a (.ref e.a) (.ref e.b) (.int st.step) (.bl st.dl.isSome) (.ref e.c) (.ref e.d)
    have fB := @exFs_b (.ref e.a) (.ref e.b) (.int st.step) (.bl st.dl.isSome) (.ref e.c) (.ref e.d)
    have fS := @exFs_s (.ref e.a) (.ref e.b) (.int st.step) (.bl st.dl.isSome) (.ref e.c) (.ref e.d)
    have fD := @exFs_d (.ref e.a) (.ref e.b) (.int st.step) (.bl st.dl.isSome) (.ref e.c) (.ref e.d)
    have fC := @exFs_c (.ref e.a) (.ref e.b) (.int st.step) (.bl st.dl.isSome) (.ref e.c) (.ref e.d)
    have fE := @exFs_e (.ref e.a) (.ref e.b) (.int st.step) (.bl st.dl.isSome) (.ref e.c) (.ref e.d)
    have hha := I.ha
    have hhb := I.hb
    have hhc := I.hc
    have hhd := I.hd
    walk_at "rd"
    exact q H (Same.refl H)
  exact TERM
theorem u_Exam_step {K : PySem.W.Frag} {C x : Addr} {H : Hp} {F : Addr → Prop} {st : ExS} {Q : VK} {E : XK} (h : ExAt C H x F st) (B : InB st.hs st.rs) (q : (∀ H', Same H H' → Q (.int st.step) H')) : sp_Exam_step K C [.ref x] H Q E := ⟨rfl, x, F, st, rfl, h, B, q⟩
theorem c_Exam_step {K : PySem.W.Frag} {C x : Addr} {H : Hp} {F : Addr → Prop} {st : ExS} {Q : VK} {E : XK} {σ : L2.St} (h : ExAt C H x F st) (B : InB st.hs st.rs) (q : (∀ H', Same H H' → Q (.int st.step) H')) : LeafMeth C "step" (sp_Exam_step K C) E tNil σ (.ref x) H Q := by
  obtain ⟨dx, fs, e, l⟩ := h.ob
  exact leaf_meth e (l _ (by decide +kernel)) (r_nil (u_Exam_step h B q))
/-! def _law_none -/
def sp_law_none (K : PySem.W.Frag) : Sp := fun vs H Q _ => vs.length = 2 ∧ ∃ (a : Addr) (n : Nat), vs = [.ref a, .int (n : Int)] ∧ H a = some (.lst (List.replicate n .non)) ∧ n ≤ 1000 ∧ Q (.bl true) H
theorem ok_law_none (T : Txt K mg t) : FnOk P w K mg base CX0 1 t.f_law_none t.d_law_none ["_law_found", "_law_many"] (sp_law_none K) := by
  refine T.F_law_none.ok sc_law_none (fun vs H Q E h => ?_) (fun cdv A outer s H vs Q E hr h => ?_)
  · exact (by obtain ⟨h, _⟩ := h; exact h)
  have TERM : ∃ t', PSs (cxOf CX0 P w K mg base ["_law_found", "_law_many", "_law_one"] "_law_none" (defScope s_law_none) t.f_law_none cdv A outer s H E).nox (defBody s_law_none) t' ∧ t' ⟨fun _ H' => Q .non H', Q, fun _ _ => False, fun _ _ => False⟩ (start ["_law_found", "_law_many", "_law_one"] vs) H := by
    refine ⟨_, (pss_cons (ps_if (pw_or (pt_not (pt_truthK (K := K) rfl (pe_callB (call_isinstanceK (K := K) rfl) (by rfl) T.z_isinstance (by rfl) (pa_cons (pv 0) (pa_cons (pe_bltn (v := .ty "list") (u := .type "list") (by rfl) T.z_list (by rfl) rfl) pa_nil))) (fun _ => rfl))) (pw_or1 (pt_cmpR (op_neG (K := K) rfl) (pe_callB (call_lenK (K := K) rfl) (by rfl) T.z_len (by rfl) (pa_cons (pv 0) pa_nil)) (pv 1) (nomark _)))).pt
      (pss_one (ps_ret pe_bl)) pss_nil)
      (pss_cons (ps_for PassesOwn.never rfl (pi_listK (K := K) rfl (pv 0)) (pg_name (i := 2) sc_law_none.nd rfl (by first | exact Or.inl rfl | exact Or.inr rfl))
      (pss_one (ps_if (pt_cmpR (op_notNN) (pv 2) pe_non (nomark _))
      (pss_one (ps_ret pe_bl)) pss_nil)))
      (pss_one (ps_ret pe_bl)))), ?_⟩
    obtain ⟨_, a, n, rfl, ha, hn, q⟩ := h
    have el : (List.replicate n V.non).length = n := List.length_replicate
    walk_at "rd"
    refine iteF ?_
    walk_at "rd"
    rw [el, decide_eq_true (rfl : (n : Int) = (n : Int))]
    refine iteF ?_
    walk_at "rd"
    refine r_lstAt (SqL.of ha) ?_
    refine r_forIL (xs := List.replicate n V.non) (fun i σ H' => (∃ v, σ = [some (.ref a), some (.int (n : Int)), v]) ∧ H' = H) ⟨⟨none, rfl⟩, rfl⟩ ?_ ?_ ?_
    · rintro i σ H' _ ⟨_, rfl⟩
      exact SqL.of ha
    · rintro i x σ H' hx ⟨⟨v, rfl⟩, rfl⟩
      have hxn : x = .non := by
        have := List.mem_of_getElem? hx
        exact (List.mem_replicate.mp this).2
      subst hxn
      walk_at "rd"
      rw [decide_eq_true (rfl : V.non = V.non)]
      refine iteF ?_
      walk_at "rd"
      exact ⟨⟨_, rfl⟩, rfl⟩
    · rintro σ H' ⟨⟨v, rfl⟩, rfl⟩
      walk_at "rd"
      exact q
  exact TERM
theorem u_law_none {H : Hp} {a : Addr} {n : Nat} {Q : VK} {E : XK} (h : H a = some (.lst (List.replicate n .non))) (hn : n ≤ 1000) (q : Q (.bl true) H) : sp_law_none K [.ref a, .int (n : Int)] H Q E := ⟨rfl, a, n, rfl, h, hn, q⟩
theorem marks_open {B H : Hp} {p : Addr} {st : ExS} (M : MarksAt B p (marksS st) H) (h : st.dl = none) : H p = some (.lst (List.replicate st.hs.length .non)) := by
  obtain ⟨_, _, vs, e, hl, hv⟩ := M
  have em : marksS st = (List.range st.hs.length).map fun _ => none := by unfold marksS; rw [h]
  rw [em] at hl hv
  rw [List.length_map, List.length_range] at hl hv
  have : vs = List.replicate st.hs.length .non := by
    refine List.ext_getElem (by rw [List.length_replicate]; exact hl) fun i h1 h2 => ?_
    have := hv i (by omega)
    rw [getD_map_range (by omega)] at this
    have t2 : vs.getD i .non = .non := this
    rw [List.getD_eq_getElem?_getD, List.getElem?_eq_getElem h1] at t2
    rw [List.getElem_replicate]
    exact t2
  rw [e, this]
/-! def Exam.points_for -/
def sp_Exam_points_for (K : PySem.W.Frag) (C : Addr) : Sp := fun vs H Q _ => vs.length = 2 ∧ ∃ (x : Addr) (F : Addr → Prop) (st : ExS) (k : Int), vs = [.ref x, .int k] ∧ ExAt C H x F st ∧ InB st.hs st.rs ∧ 1 ≤ k ∧ k ≤ st.nm.length ∧ wantB st.nm st.en (k - 1).toNat = [] ∧ (∀ p H', H p = none → Same H H' → H' p = some (.lst ((ptsOf st.nm st.en (k - 1).toNat).map V.int)) → Q (.ref p) H')
theorem ok_Exam_points_for (T : Txt K mg t) : FnOk P w K mg base CX0 1 t.f_Exam_points_for t.d_Exam_points_for ["self", "paper"] (sp_Exam_points_for K t.C_Exam) := by
  refine T.F_Exam_points_for.ok sc_Exam_points_for (fun vs H Q E h => ?_) (fun cdv A outer s H vs Q E hr h => ?_)
  · exact (by obtain ⟨h, _⟩ := h; exact h)
  have TERM : ∃ t', PSs (cxOf CX0 P w K mg base ["self", "paper", "entered"] "Exam.points_for" (defScope s_Exam_points_for) t.f_Exam_points_for cdv A outer s H E).nox (defBody s_Exam_points_for) t' ∧ t' ⟨fun _ H' => Q .non H', Q, fun _ _ => False, fun _ _ => False⟩ (start ["self", "paper", "entered"] vs) H := by
    refine ⟨_, (pss_cons (ps_set (i := 2) sc_Exam_points_for.nd rfl (by first | exact Or.inl rfl | exact Or.inr rfl) (pe_ix (ix_listK (K := K) rfl) (pe_fldK (K := K) rfl (pv 0)) (pe_op (op_sub) (pv 1) pe_int) (fun _ _ => rfl)))
      (pss_one (ps_ret (pe_comp (compScope_of (sc := defScope s_Exam_points_for) (XN := ["self", "paper", "entered"]) (N := ["reader", "entered"]) (own := 1) (js := [2]) rfl rfl (by decide +kernel)) rfl (pi_listK (K := K) rfl (pe_ix (ix_listK (K := K) rfl) (pe_fldK (K := K) rfl (pv 0)) (pe_op (op_sub) (pv 1) pe_int) (fun _ _ => rfl))) (fun _ _ _ _ _ => (pg_name (i := 0) (show List.Nodup [(Str.ofString "reader"), (Str.ofString "entered")] by decide +kernel) rfl (by first | exact Or.inl rfl | exact Or.inr rfl))) (fun _ _ _ _ _ => pts_nil) (fun _ _ _ _ _ => (pe_dget (hu_of hr) (pv 1) (pv 0) (fun _ _ => rfl))))))), ?_⟩
    obtain ⟨_, x, F, st, k, rfl, E0, BB, k1, k2, hw, q⟩ := h
    have B1 := BB.lp
    have B2 := BB.lr
    have E0' := E0
    obtain ⟨e, kvs, rfl, hF, I⟩ := E0
    have hcl := T.cl_Exam
    have nA := T.n_Exam_paper_houses
    have nB := T.n_Exam_reader_rows
    have nS := T.n_Exam_widest_step
    have nD := T.n_Exam_is_dealt
    have nC := T.n_Exam_named_readers
    have nE := T.n_Exam_entered_points
    have hob := I.ob
    have fA := @exFs_a (.ref e.a) (.ref e.b) (.int st.step) (.bl st.dl.isSome) (.ref e.c) (.ref e.d)
    have fB := @exFs_b (.ref e.a) (.ref e.b) (.int st.step) (.bl st.dl.isSome) (.ref e.c) (.ref e.d)
    have fS := @exFs_s (.ref e.a) (.ref e.b) (.int st.step) (.bl st.dl.isSome) (.ref e.c) (.ref e.d)
    have fD := @exFs_d (.ref e.a) (.ref e.b) (.int st.step) (.bl st.dl.isSome) (.ref e.c) (.ref e.d)
    have fC := @exFs_c (.ref e.a) (.ref e.b) (.int st.step) (.bl st.dl.isSome) (.ref e.c) (.ref e.d)
    have fE := @exFs_e (.ref e.a) (.ref e.b) (.int st.step) (.bl st.dl.isSome) (.ref e.c) (.ref e.d)
    have hha := I.ha
    have hhb := I.hb
    have hhc := I.hc
    have hhd := I.hd
    have lq := I.lq
    have ld := I.ld
    have l10 := I.wf.n10 BB
    have hk : (k - 1).toNat < st.nm.length := by omega
    have hdic := I.rd _ hk
    have hrow := I.rq _ hk
    have hvk := I.vk _ hk
    have hlr := (I.wf.row _ hk).len
    walk_at "rd"
    refine r_lstAt (SqL.of hrow) ?_
    refine comp_ints (iter_list (SqL.of hrow)) (by rw [List.length_map]; omega) (fun i => (entOf st.en (k - 1).toNat ((st.nm.getD (k - 1).toNat []).getD i 0)).getD 0) (fun i H' Q' hi s q' => ?_) fun p H2 f s e2 => ?_
    · rw [List.length_map] at hi
      have ex : ((st.nm.getD (k - 1).toNat []).map V.int).getD i .non = .int ((st.nm.getD (k - 1).toNat []).getD i 0) := mapI_getD hi
      rw [ex]
      obtain ⟨p, hp⟩ := want_nil hw (getD_mem (d := 0) hi)
      rw [hp] at q'
      walk_at "rd"
      refine leaf_dget (s _ _ hdic) (by rw [hvk, hp]; rfl) ?_
      exact q'
    · have ew : (List.range ((st.nm.getD (k - 1).toNat []).map V.int).length).map (fun i => (entOf st.en (k - 1).toNat ((st.nm.getD (k - 1).toNat []).getD i 0)).getD 0) = ptsOf st.nm st.en (k - 1).toNat := by
        unfold ptsOf
        rw [List.length_map]
        conv => rhs; rw [← map_range_getD (st.nm.getD (k - 1).toNat []) 0]
        rw [List.map_map]
        rfl
      rw [ew] at e2
      exact q p H2 f s e2
  exact TERM
theorem u_Exam_points_for {K : PySem.W.Frag} {C x : Addr} {H : Hp} {F : Addr → Prop} {st : ExS} {k : Int} {Q : VK} {E : XK} (h : ExAt C H x F st) (B : InB st.hs st.rs) (k1 : 1 ≤ k) (k2 : k ≤ st.nm.length) (hw : wantB st.nm st.en (k - 1).toNat = []) (q : (∀ p H', H p = none → Same H H' → H' p = some (.lst ((ptsOf st.nm st.en (k - 1).toNat).map V.int)) → Q (.ref p) H')) : sp_Exam_points_for K C [.ref x, .int k] H Q E := ⟨rfl, x, F, st, k, rfl, h, B, k1, k2, hw, q⟩
theorem c_Exam_points_for {K : PySem.W.Frag} {C x : Addr} {H : Hp} {F : Addr → Prop} {st : ExS} {k : Int} {Q : VK} {E : XK} {σ : L2.St} {tk : TE} (h : ExAt C H x F st) (B : InB st.hs st.rs) (k1 : 1 ≤ k) (k2 : k ≤ st.nm.length) (hw : wantB st.nm st.en (k - 1).toNat = []) (hk : ∀ Q : VK, Q (.int k) H → tk σ H Q) (q : (∀ p H', H p = none → Same H H' → H' p = some (.lst ((ptsOf st.nm st.en (k - 1).toNat).map V.int)) → Q (.ref p) H')) : LeafMeth C "points_for" (sp_Exam_points_for K C) E (tCons tk tNil) σ (.ref x) H Q := by
  obtain ⟨dx, fs, e, l⟩ := h.ob
  exact leaf_meth e (l _ (by decide +kernel)) (r_cons (hk _ (r_nil (u_Exam_points_for h B k1 k2 hw q))))
/-! def greatest_divisor -/
def sp_greatest_divisor (K : PySem.W.Frag) : Sp := fun vs H Q _ => vs.length = 2 ∧ ∃ a b : Nat, vs = [.int (a : Int), .int (b : Int)] ∧ Q (.int ((Nat.gcd a b : Nat) : Int)) H
theorem ok_greatest_divisor (T : Txt K mg t) : FnOk P w K mg base CX0 1 t.f_greatest_divisor t.d_greatest_divisor ["one", "other"] (sp_greatest_divisor K) := by
  refine T.F_greatest_divisor.ok sc_greatest_divisor (fun vs H Q E h => ?_) (fun cdv A outer s H vs Q E hr h => ?_)
  · exact (by obtain ⟨h, _⟩ := h; exact h)
  have TERM : ∃ t', PSs (cxOf CX0 P w K mg base ["one", "other", "divisor", "rest", "next_rest"] "greatest_divisor" (defScope s_greatest_divisor) t.f_greatest_divisor cdv A outer s H E).nox (defBody s_greatest_divisor) t' ∧ t' ⟨fun _ H' => Q .non H', Q, fun _ _ => False, fun _ _ => False⟩ (start ["one", "other", "divisor", "rest", "next_rest"] vs) H := by
    refine ⟨_, (pss_cons (ps_set (i := 2) sc_greatest_divisor.nd rfl (by first | exact Or.inl rfl | exact Or.inr rfl) (pv 0))
      (pss_cons (ps_set (i := 3) sc_greatest_divisor.nd rfl (by first | exact Or.inl rfl | exact Or.inr rfl) (pv 1))
      (pss_cons (ps_while PassesOwn.never (pt_cmpR (op_gt) (pv 3) pe_int (nomark _))
      (pss_cons (ps_set (i := 4) sc_greatest_divisor.nd rfl (by first | exact Or.inl rfl | exact Or.inr rfl) (pe_op (op_mod) (pv 2) (pv 3)))
      (pss_cons (ps_set (i := 2) sc_greatest_divisor.nd rfl (by first | exact Or.inl rfl | exact Or.inr rfl) (pv 3))
      (pss_one (ps_set (i := 3) sc_greatest_divisor.nd rfl (by first | exact Or.inl rfl | exact Or.inr rfl) (pv 4))))))
      (pss_one (ps_ret (pv 2)))))), ?_⟩
    obtain ⟨_, a, b, rfl, q⟩ := h
    walk_at "rd"
    refine ⟨fun n σ H' => ∃ (x : Nat) (v : Option V), σ = [some (.int (a : Int)), some (.int (b : Int)), some (.int (x : Int)), some (.int (n : Int)), v] ∧ H' = H ∧ Nat.gcd x n = Nat.gcd a b, ⟨b, a, none, rfl, rfl, rfl⟩, ?_⟩
    rintro n σ H' ⟨x, v, rfl, rfl, hg⟩
    walk_at "rd"
    refine ite_d (fun h1 => ?_) (fun h1 => ?_)
    · refine ⟨fun σ H'' => ∃ (x' y' : Nat) (v : Option V), y' < n ∧ σ = [some (.int (a : Int)), some (.int (b : Int)), some (.int (x' : Int)), some (.int (y' : Int)), v] ∧ H'' = H' ∧ Nat.gcd x' y' = Nat.gcd a b, ?_, ?_⟩
      · rintro σ' H'' ⟨x', y', v', hlt, rfl, rfl, hg'⟩
        exact ⟨y', hlt, x', v', rfl, rfl, hg'⟩
      · walk_at "rd"
        refine ⟨n, x % n, _, Nat.mod_lt _ (by omega), rfl, rfl, ?_⟩
        rw [← hg, Nat.gcd_comm n, ← Nat.gcd_rec, Nat.gcd_comm]
    · have h0 : n = 0 := by omega
      subst h0
      rw [Nat.gcd_zero_right] at hg
      subst hg
      walk_at "rd"
      exact q
  exact TERM
theorem u_greatest_divisor {H : Hp} {a b : Nat} {Q : VK} {E : XK} (q : Q (.int ((Nat.gcd a b : Nat) : Int)) H) : sp_greatest_divisor K [.int (a : Int), .int (b : Int)] H Q E := ⟨rfl, a, b, rfl, q⟩
/-! def lowest -/
theorem low_gcd {a b : Nat} (hb : 1 ≤ b) : Low (a : Int) (b : Int) ((a : Int) / ((Nat.gcd a b : Nat) : Int)) ((b : Int) / ((Nat.gcd a b : Nat) : Int)) := by
  have hg : 0 < Nat.gcd a b := Nat.gcd_pos_of_pos_right _ hb
  obtain ⟨x, hx⟩ := Nat.gcd_dvd_left a b
  obtain ⟨y, hy⟩ := Nat.gcd_dvd_right a b
  have hco : Nat.gcd (a / Nat.gcd a b) (b / Nat.gcd a b) = 1 := by
    rw [Nat.gcd_div (Nat.gcd_dvd_left a b) (Nat.gcd_dvd_right a b), Nat.div_self hg]
  have e1 : a / Nat.gcd a b = x := by
    conv => lhs; arg 1; rw [hx]
    exact Nat.mul_div_cancel_left x hg
  have e2 : b / Nat.gcd a b = y := by
    conv => lhs; arg 1; rw [hy]
    exact Nat.mul_div_cancel_left y hg
  have l1 := Nat.div_le_self a (Nat.gcd a b)
  have l2 := Nat.div_le_self b (Nat.gcd a b)
  rw [e1] at l1
  rw [e2] at l2
  have c1 : (a : Int) / ((Nat.gcd a b : Nat) : Int) = (x : Int) := by rw [← Int.natCast_ediv, e1]
  have c2 : (b : Int) / ((Nat.gcd a b : Nat) : Int) = (y : Int) := by rw [← Int.natCast_ediv, e2]
  rw [e1, e2] at hco
  rw [c1, c2]
  have y1 : 1 ≤ y := by
    rcases Nat.eq_zero_or_pos y with h | h
    · rw [h, Nat.mul_zero] at hy; omega
    · exact h
  refine ⟨by omega, by omega, ?_, ?_, by omega, by omega⟩
  · have : x * b = a * y := by
      generalize Nat.gcd a b = g at *
      subst hx hy
      rw [Nat.mul_comm g y, ← Nat.mul_assoc, Nat.mul_comm g x, Nat.mul_right_comm]
    exact_mod_cast this
  · show Nat.gcd (Int.natAbs x) (Int.natAbs y) = 1
    rw [Int.natAbs_natCast, Int.natAbs_natCast]
    exact hco
def sp_lowest (K : PySem.W.Frag) : Sp := fun vs H Q _ => vs.length = 2 ∧ ∃ x y : Int, vs = [.int x, .int y] ∧ 0 ≤ x ∧ x ≤ 10 ^ 30 ∧ 1 ≤ y ∧ y ≤ 10 ^ 30 ∧ ∀ t b, Low x y t b → ∀ p H', H p = none → Same H H' → H' p = some (.lst ([t, b].map V.int)) → Q (.ref p) H'
theorem ok_lowest (T : Txt K mg t) : FnOk P w K mg base CX0 2 t.f_lowest t.d_lowest ["top", "bottom"] (sp_lowest K) := by
  have G_greatest_divisor := ok_greatest_divisor (P := P) (w := w) (base := base) T
  refine T.F_lowest.ok sc_lowest (fun vs H Q E h => ?_) (fun cdv A outer s H vs Q E hr h => ?_)
  · exact (by obtain ⟨h, _⟩ := h; exact h)
  have TERM : ∃ t', PSs (cxOf CX0 P w K mg base ["top", "bottom", "divisor"] "lowest" (defScope s_lowest) t.f_lowest cdv A outer s H E).nox (defBody s_lowest) t' ∧ t' ⟨fun _ H' => Q .non H', Q, fun _ _ => False, fun _ _ => False⟩ (start ["top", "bottom", "divisor"] vs) H := by
    refine ⟨_, (pss_cons (ps_set (i := 2) sc_lowest.nd rfl (by first | exact Or.inl rfl | exact Or.inr rfl) (pe_call (G_greatest_divisor) (hr.mono (by decide)) (by rfl) T.m_greatest_divisor T.F_greatest_divisor.kp T.b_greatest_divisor .nil pass0 (pa_cons (pv 0) (pa_cons (pv 1) pa_nil))))
      (pss_one (ps_ret (pe_lst (pa_cons (pe_op (op_fdivB) (pv 0) (pv 2)) (pa_cons (pe_op (op_fdivB) (pv 1) (pv 2)) pa_nil)))))), ?_⟩
    obtain ⟨_, x, y, rfl, x0, x1, y0, y1, q⟩ := h
    obtain ⟨a, rfl⟩ := Int.eq_ofNat_of_zero_le x0
    obtain ⟨b, rfl⟩ := Int.eq_ofNat_of_zero_le (show 0 ≤ y by omega)
    have hb : 1 ≤ b := by omega
    have hL := low_gcd (a := a) hb
    have hg : 0 < Nat.gcd a b := Nat.gcd_pos_of_pos_right _ hb
    have hg2 : Nat.gcd a b ≤ b := Nat.le_of_dvd hb (Nat.gcd_dvd_right a b)
    walk_at "rd"
    refine u_greatest_divisor ?_
    walk_at "rd"
    refine leaf_lst (by simp) fun p H' f s e => ?_
    exact q _ _ hL p H' f s e
  exact TERM
theorem u_lowest {H : Hp} {x y : Int} {Q : VK} {E : XK} (x0 : 0 ≤ x) (x1 : x ≤ 10 ^ 30) (y0 : 1 ≤ y) (y1 : y ≤ 10 ^ 30) (q : ∀ t b, Low x y t b → ∀ p H', H p = none → Same H H' → H' p = some (.lst ([t, b].map V.int)) → Q (.ref p) H') : sp_lowest K [.int x, .int y] H Q E := ⟨rfl, x, y, rfl, x0, x1, y0, y1, q⟩
/-! def middle_of -/
theorem perm_sum {a b : List Int} (h : a.Perm b) : a.sum = b.sum := by
  induction h with
  | nil => rfl
  | cons x _ ih => rw [List.sum_cons, List.sum_cons, ih]
  | swap x y l => simp only [List.sum_cons]; omega
  | trans _ _ i1 i2 => exact i1.trans i2
theorem mid_sorted {x y z : Int} {ns : List Int} (hp : ns.Perm [x, y, z]) (hs : ns.Pairwise (· ≤ ·)) : ns.getD 1 0 = mid3 x y z := by
  have hl := hp.length_eq
  match ns, hl with
  | [a, b, c], _ =>
    have h1 : a ≤ b ∧ b ≤ c := by simp at hs; omega
    have hsum : a + b + c = x + y + z := by
      have := perm_sum hp
      simp at this
      omega
    have ma : a = x ∨ a = y ∨ a = z := by have := hp.mem_iff.mp (show a ∈ [a, b, c] by simp); simpa using this
    have mc : c = x ∨ c = y ∨ c = z := by have := hp.mem_iff.mp (show c ∈ [a, b, c] by simp); simpa using this
    have mx : x = a ∨ x = b ∨ x = c := by have := hp.mem_iff.mpr (show x ∈ [x, y, z] by simp); simpa using this
    have my : y = a ∨ y = b ∨ y = c := by have := hp.mem_iff.mpr (show y ∈ [x, y, z] by simp); simpa using this
    have mz : z = a ∨ z = b ∨ z = c := by have := hp.mem_iff.mpr (show z ∈ [x, y, z] by simp); simpa using this
    show b = _
    unfold mid3 min2 max2
    repeat' split
    all_goals omega
def sp_middle_of (K : PySem.W.Frag) : Sp := fun vs H Q _ => vs.length = 1 ∧ ∃ (a : Addr) (x y z : Int), vs = [.ref a] ∧ SqL K H a ([x, y, z].map V.int) ∧ ∀ H', Same H H' → Q (.int (mid3 x y z)) H'
theorem ok_middle_of (T : Txt K mg t) : FnOk P w K mg base CX0 1 t.f_middle_of t.d_middle_of ["points"] (sp_middle_of K) := by
  refine T.F_middle_of.ok sc_middle_of (fun vs H Q E h => ?_) (fun cdv A outer s H vs Q E hr h => ?_)
  · exact (by obtain ⟨h, _⟩ := h; exact h)
  have TERM : ∃ t', PSs (cxOf CX0 P w K mg base ["points"] "middle_of" (defScope s_middle_of) t.f_middle_of cdv A outer s H E).nox (defBody s_middle_of) t' ∧ t' ⟨fun _ H' => Q .non H', Q, fun _ _ => False, fun _ _ => False⟩ (start ["points"] vs) H := by
    refine ⟨_, (pss_one (ps_ret (pe_ix (ix_listK (K := K) rfl) (pe_callB (call_sortedK (K := K) rfl) (by rfl) T.z_sorted (by rfl) (pa_cons (pv 0) pa_nil)) pe_int (fun _ _ => rfl)))), ?_⟩
    obtain ⟨_, a, x, y, z, rfl, ha, q⟩ := h
    walk_at "rd"
    refine leaf_sorted ha (by simp) fun ns hp hs p H' f s e => ?_
    have hl : ns.length = 3 := hp.length_eq
    walk_at "rd"
    have e1 : ns.getD (Int.toNat 1) 0 = mid3 x y z := mid_sorted hp hs
    rw [e1]
    exact q _ s
  exact TERM
theorem u_middle_of {H : Hp} {a : Addr} {x y z : Int} {Q : VK} {E : XK} (h : SqL K H a ([x, y, z].map V.int)) (q : ∀ H', Same H H' → Q (.int (mid3 x y z)) H') : sp_middle_of K [.ref a] H Q E := ⟨rfl, a, x, y, z, rfl, h, q⟩
/-! def agree -/
def sp_agree (K : PySem.W.Frag) : Sp := fun vs H Q _ => vs.length = 3 ∧ ∃ x y s : Int, vs = [.int x, .int y, .int s] ∧ Q (.bl (agreeB x y s)) H
theorem ok_agree (T : Txt K mg t) : FnOk P w K mg base CX0 1 t.f_agree t.d_agree ["one", "other", "step"] (sp_agree K) := by
  refine T.F_agree.ok sc_agree (fun vs H Q E h => ?_) (fun cdv A outer s H vs Q E hr h => ?_)
  · exact (by obtain ⟨h, _⟩ := h; exact h)
  have TERM : ∃ t', PSs (cxOf CX0 P w K mg base ["one", "other", "step"] "agree" (defScope s_agree) t.f_agree cdv A outer s H E).nox (defBody s_agree) t' ∧ t' ⟨fun _ H' => Q .non H', Q, fun _ _ => False, fun _ _ => False⟩ (start ["one", "other", "step"] vs) H := by
    refine ⟨_, (pss_one (ps_ret (pe_cmpR (op_le) (pe_callB (call_abs) (by rfl) T.z_abs (by rfl) (pa_cons (pe_op (op_sub) (pv 0) (pv 1)) pa_nil)) (pv 2) (nomark _)))), ?_⟩
    obtain ⟨_, x, y, s, rfl, q⟩ := h
    walk_at "rd"
    refine ⟨_, rfl, ?_⟩
    walk_at "rd"
    have e : agreeB x y s = decide ((if x - y < 0 then -(x - y) else x - y) ≤ s) := by
      unfold agreeB
      rw [decide_eq_decide]
      split <;> constructor <;> intro h <;> first | omega | (constructor <;> omega)
    rw [e] at q
    exact q
  exact TERM
theorem u_agree {H : Hp} {x y s : Int} {Q : VK} {E : XK} (q : Q (.bl (agreeB x y s)) H) : sp_agree K [.int x, .int y, .int s] H Q E := ⟨rfl, x, y, s, rfl, q⟩
/-! def mark_of -/
theorem low_one {x t b : Int} (h : Low x 1 t b) : t = x ∧ b = 1 := by
  have h1 := h.bl
  have h2 := h.b1
  have hb : b = 1 := by omega
  have := h.eq
  rw [hb] at this
  exact ⟨by omega, hb⟩
theorem low_two {x t b : Int} (h : Low x 2 t b) : [t, b] = if x % 2 = 1 then [x, 2] else [x / 2, 1] := by
  have h1 := h.bl
  have h2 := h.b1
  have h3 := h.eq
  have hb : b = 1 ∨ b = 2 := by omega
  rcases hb with rfl | rfl
  · rw [if_neg (by omega)]
    have : t = x / 2 := by omega
    rw [this]
  · have ht : t = x := by omega
    subst ht
    have hg := h.co
    have hodd : t % 2 = 1 := by
      rcases Int.emod_two_eq t with e | e
      · exfalso
        have hd : (2 : Int) ∣ t := Int.dvd_of_emod_eq_zero e
        have : (2 : Nat) ∣ Int.gcd t 2 := Int.dvd_gcd hd (Int.dvd_refl 2)
        rw [hg] at this
        have := Nat.le_of_dvd (by decide) this
        omega
      · exact e
    rw [if_pos hodd]
def sp_mark_of (K : PySem.W.Frag) : Sp := fun vs H Q _ => vs.length = 2 ∧ ∃ (a : Addr) (xs : List Int) (s : Int), vs = [.ref a, .int s] ∧ SqL K H a (xs.map V.int) ∧ (xs.length = 2 ∨ xs.length = 3) ∧ (∀ x ∈ xs, 0 ≤ x ∧ x ≤ 100) ∧ ∀ p H', H p = none → Same H H' → H' p = some (.lst ((MarkB xs s).map V.int)) → Q (.ref p) H'
theorem ok_mark_of (T : Txt K mg t) : FnOk P w K mg base CX0 3 t.f_mark_of t.d_mark_of ["points", "step"] (sp_mark_of K) := by
  have G_lowest := ok_lowest (P := P) (w := w) (base := base) T
  have G_middle_of := ok_middle_of (P := P) (w := w) (base := base) T
  have G_agree := ok_agree (P := P) (w := w) (base := base) T
  refine T.F_mark_of.ok sc_mark_of (fun vs H Q E h => ?_) (fun cdv A outer s H vs Q E hr h => ?_)
  · exact (by obtain ⟨h, _⟩ := h; exact h)
  have TERM : ∃ t', PSs (cxOf CX0 P w K mg base ["points", "step"] "mark_of" (defScope s_mark_of) t.f_mark_of cdv A outer s H E).nox (defBody s_mark_of) t' ∧ t' ⟨fun _ H' => Q .non H', Q, fun _ _ => False, fun _ _ => False⟩ (start ["points", "step"] vs) H := by
    refine ⟨_, (pss_cons (ps_if (pt_cmpR (op_eqGL (K := K) rfl hr.units0) (pe_callB (call_lenK (K := K) rfl) (by rfl) T.z_len (by rfl) (pa_cons (pv 0) pa_nil)) pe_int (nomark _))
      (pss_one (ps_ret (pe_call (G_lowest) (hr.mono (by decide)) (by rfl) T.m_lowest T.F_lowest.kp T.b_lowest .nil pass0 (pa_cons (pe_call (G_middle_of) (hr.mono (by decide)) (by rfl) T.m_middle_of T.F_middle_of.kp T.b_middle_of .nil pass0 (pa_cons (pv 0) pa_nil)) (pa_cons pe_int pa_nil))))) pss_nil)
      (pss_cons (ps_if (pt_truthK (K := K) rfl (pe_call (G_agree) (hr.mono (by decide)) (by rfl) T.m_agree T.F_agree.kp T.b_agree .nil pass0 (pa_cons (pe_ix (ix_listK (K := K) rfl) (pv 0) pe_int (fun _ _ => rfl)) (pa_cons (pe_ix (ix_listK (K := K) rfl) (pv 0) pe_int (fun _ _ => rfl)) (pa_cons (pv 1) pa_nil)))) (fun _ => rfl))
      (pss_one (ps_ret (pe_call (G_lowest) (hr.mono (by decide)) (by rfl) T.m_lowest T.F_lowest.kp T.b_lowest .nil pass0 (pa_cons (pe_callB (call_sumK (K := K) rfl rfl) (by rfl) T.z_sum (by rfl) (pa_cons (pv 0) pa_nil)) (pa_cons pe_int pa_nil))))) pss_nil)
      (pss_one (ps_ret (pe_call (G_lowest) (hr.mono (by decide)) (by rfl) T.m_lowest T.F_lowest.kp T.b_lowest .nil pass0 (pa_cons (pe_callB (call_minL (K := K) rfl rfl) (by rfl) T.z_min (by rfl) (pa_cons (pv 0) pa_nil)) (pa_cons pe_int pa_nil))))))), ?_⟩
    obtain ⟨_, a, xs, s, rfl, ha, hl, hb, q⟩ := h
    walk_at "rd"
    rcases hl with hl | hl
    · match xs, hl with
      | [x, y], _ =>
        have hx := hb x (by simp)
        have hy := hb y (by simp)
        refine iteF ?_
        have l2 : ([x, y] : List Int).length = 2 := rfl
        walk_at "rd"
        refine u_agree ?_
        walk_at "rd"
        show if agreeB x y s = true then _ else _
        have em : MarkB [x, y] s = mark2 x y s := rfl
        rw [em] at q
        unfold mark2 at q
        cases eg : agreeB x y s with
        | true =>
          rw [eg] at q
          simp only [if_true] at q ⊢
          walk_at "rd"
          refine leaf_sum ha (fun z hz => ?_) (by simp) ?_
          · have := hb z hz
            omega
          walk_at "rd"
          have es : [x, y].sum = x + y := by simp
          rw [es]
          refine u_lowest (by omega) (by omega) (by omega) (by omega) fun t b hL p H' f s' e => ?_
          rw [low_two hL] at e
          exact q p H' f s' e
        | false =>
          rw [eg] at q
          simp only [Bool.false_eq_true, if_false] at q ⊢
          walk_at "rd"
          refine leaf_minL ha (by simp) fun m hm hle => ?_
          have em : m = min2 x y := by
            have h1 := hle x (by simp)
            have h2 := hle y (by simp)
            have h3 : m = x ∨ m = y := by simpa using hm
            unfold min2
            split <;> omega
          have hmb := hb m hm
          walk_at "rd"
          refine u_lowest (by omega) (by omega) (by omega) (by omega) fun t b hL p H' f s' e => ?_
          obtain ⟨rfl, rfl⟩ := low_one hL
          rw [em] at e
          exact q p H' f s' e
    · match xs, hl with
      | [x, y, z], _ =>
        have hx := hb x (by simp)
        have hy := hb y (by simp)
        have hz := hb z (by simp)
        refine iteT ?_
        walk_at "rd"
        refine u_middle_of ha fun H1 s1 => ?_
        have hm : 0 ≤ mid3 x y z ∧ mid3 x y z ≤ 100 := by rcases mid3_mem x y z with e | e | e <;> rw [e] <;> assumption
        walk_at "rd"
        refine u_lowest (by omega) (by omega) (by omega) (by omega) fun t b hL p H' f s' e => ?_
        obtain ⟨rfl, rfl⟩ := low_one hL
        exact q p H' (s1.free f) (s1.trans s') e
  exact TERM
theorem u_mark_of {H : Hp} {a : Addr} {xs : List Int} {s : Int} {Q : VK} {E : XK} (h1 : SqL K H a (xs.map V.int)) (h2 : xs.length = 2 ∨ xs.length = 3) (h3 : ∀ x ∈ xs, 0 ≤ x ∧ x ≤ 100) (q : ∀ p H', H p = none → Same H H' → H' p = some (.lst ((MarkB xs s).map V.int)) → Q (.ref p) H') : sp_mark_of K [.ref a, .int s] H Q E := ⟨rfl, a, xs, s, rfl, h1, h2, h3, q⟩
/-! def Exam.mark_for -/
def sp_Exam_mark_for (K : PySem.W.Frag) (C : Addr) : Sp := fun vs H Q _ => vs.length = 2 ∧ ∃ (x : Addr) (F : Addr → Prop) (st : ExS) (k : Int), vs = [.ref x, .int k] ∧ ExAt C H x F st ∧ InB st.hs st.rs ∧ 1 ≤ k ∧ k ≤ st.nm.length ∧ (∀ v H', Same H H' → MarkIs H v (markAt st.nm st.en st.step (k - 1).toNat) H' → Q v H')
theorem ok_Exam_mark_for (T : Txt K mg t) : FnOk P w K mg base CX0 4 t.f_Exam_mark_for t.d_Exam_mark_for ["self", "paper"] (sp_Exam_mark_for K t.C_Exam) := by
  have G_Exam_due_readers := ok_Exam_due_readers (P := P) (w := w) (base := base) T
  have G_Exam_points_for := ok_Exam_points_for (P := P) (w := w) (base := base) T
  have G_mark_of := ok_mark_of (P := P) (w := w) (base := base) T
  refine T.F_Exam_mark_for.ok sc_Exam_mark_for (fun vs H Q E h => ?_) (fun cdv A outer s H vs Q E hr h => ?_)
  · exact (by obtain ⟨h, _⟩ := h; exact h)
  have TERM : ∃ t', PSs (cxOf CX0 P w K mg base ["self", "paper", "points", "readings"] "Exam.mark_for" (defScope s_Exam_mark_for) t.f_Exam_mark_for cdv A outer s H E).nox (defBody s_Exam_mark_for) t' ∧ t' ⟨fun _ H' => Q .non H', Q, fun _ _ => False, fun _ _ => False⟩ (start ["self", "paper", "points", "readings"] vs) H := by
    refine ⟨_, (pss_cons (ps_if (pt_cmpR (op_gt) (pe_callB (call_lenK (K := K) rfl) (by rfl) T.z_len (by rfl) (pa_cons (pe_meth (pv 0) T.cl_Exam T.me_Exam_due_readers (G_Exam_due_readers) (hr.mono (by first | decide | exact Nat.le_refl _)) T.b_Exam_due_readers .nil pass0 (pa_cons (pv 1) pa_nil)) pa_nil)) pe_int (nomark _))
      (pss_one (ps_ret pe_non)) pss_nil)
      (pss_cons (ps_set (i := 2) sc_Exam_mark_for.nd rfl (by first | exact Or.inl rfl | exact Or.inr rfl) (pe_meth (pv 0) T.cl_Exam T.me_Exam_points_for (G_Exam_points_for) (hr.mono (by first | decide | exact Nat.le_refl _)) T.b_Exam_points_for .nil pass0 (pa_cons (pv 1) pa_nil)))
      (pss_cons (ps_setComp (i := 3) sc_Exam_mark_for.nd rfl (Or.inl rfl) (by rfl) (compScope_of (sc := defScope s_Exam_mark_for) (XN := ["self", "paper", "points", "readings"]) (N := ["reader", "given"]) (own := 2) (js := []) rfl rfl (by decide +kernel)) rfl (pi_zip2 (K := K) rfl (by rfl) T.z_zip (pa_cons (pe_ix (ix_listK (K := K) rfl) (pe_fldK (K := K) rfl (pv 0)) (pe_op (op_sub) (pv 1) pe_int) (fun _ _ => rfl)) (pa_cons (pv 2) pa_nil))) (fun _ _ _ _ _ => (pg_tupK (K := K) (n := 2) rfl rfl (pgs_cons (pg_name (i := 0) (show List.Nodup [(Str.ofString "reader"), (Str.ofString "given")] by decide +kernel) rfl (by first | exact Or.inl rfl | exact Or.inr rfl)) (pgs_cons (pg_name (i := 1) (show List.Nodup [(Str.ofString "reader"), (Str.ofString "given")] by decide +kernel) rfl (by first | exact Or.inl rfl | exact Or.inr rfl)) pgs_nil)))) (fun _ _ _ _ _ => pts_nil) (fun _ _ _ _ _ => (pe_lst (pa_cons (pv 0) (pa_cons (pv 1) pa_nil)))))
      (pss_one (ps_ret (pe_op (op_addG) (pe_call (G_mark_of) (hr.mono (by decide)) (by rfl) T.m_mark_of T.F_mark_of.kp T.b_mark_of .nil pass0 (pa_cons (pv 2) (pa_cons (pe_fldK (K := K) rfl (pv 0)) pa_nil))) (pe_lst (pa_cons (pv 3) pa_nil)))))))), ?_⟩
    obtain ⟨_, x, F, st, k, rfl, E0, BB, k1, k2, q⟩ := h
    have B1 := BB.lp
    have B2 := BB.lr
    have E0' := E0
    obtain ⟨e, kvs, rfl, hF, I⟩ := E0
    have hcl := T.cl_Exam
    have nA := T.n_Exam_paper_houses
    have nB := T.n_Exam_reader_rows
    have nS := T.n_Exam_widest_step
    have nD := T.n_Exam_is_dealt
    have nC := T.n_Exam_named_readers
    have nE := T.n_Exam_entered_points
    have hob := I.ob
    have fA := @exFs_a (.ref e.a) (.ref e.b) (.int st.step) (.bl st.dl.isSome) (.ref e.c) (.ref e.d)
    have fB := @exFs_b (.ref e.a) (.ref e.b) (.int st.step) (.bl st.dl.isSome) (.ref e.c) (.ref e.d)
    have fS := @exFs_s (.ref e.a) (.ref e.b) (.int st.step) (.bl st.dl.isSome) (.ref e.c) (.ref e.d)
    have fD := @exFs_d (.ref e.a) (.ref e.b) (.int st.step) (.bl st.dl.isSome) (.ref e.c) (.ref e.d)
    have fC := @exFs_c (.ref e.a) (.ref e.b) (.int st.step) (.bl st.dl.isSome) (.ref e.c) (.ref e.d)
    have fE := @exFs_e (.ref e.a) (.ref e.b) (.int st.step) (.bl st.dl.isSome) (.ref e.c) (.ref e.d)
    have hha := I.ha
    have hhb := I.hb
    have hhc := I.hc
    have hhd := I.hd
    have lq := I.lq
    have ld := I.ld
    have l10 := I.wf.n10 BB
    have hk : (k - 1).toNat < st.nm.length := by omega
    have hdic := I.rd _ hk
    have hrow := I.rq _ hk
    have hvk := I.vk _ hk
    have hlr := (I.wf.row _ hk).len
    have hpl := pts_len st.nm st.en (k - 1).toNat
    walk_at "rd"
    refine c_Exam_due_readers E0' BB k1 k2 (fun Q z => r_var (i := 1) rfl z) fun p1 H1 f1 s1 e1 => ?_
    walk_at "rd"
    refine ite_d (fun h0 => ?_) (fun h0 => ?_)
    · walk_at "rd"
      refine q .non H1 s1 ?_
      have hm : markAt st.nm st.en st.step (k - 1).toNat = none := by
        unfold markAt
        rw [if_neg (fun z => by rw [z] at h0; exact absurd h0 (by simp))]
      rw [hm]
      rfl
    · have hw : wantB st.nm st.en (k - 1).toNat = [] := List.eq_nil_of_length_eq_zero (by omega)
      have hm : markAt st.nm st.en st.step (k - 1).toNat = some ((MarkB (ptsOf st.nm st.en (k - 1).toNat) st.step).getD 0 0, (MarkB (ptsOf st.nm st.en (k - 1).toNat) st.step).getD 1 0, ((st.nm.getD (k - 1).toNat []).zip (ptsOf st.nm st.en (k - 1).toNat)).map fun p => [p.1, p.2]) := by
        unfold markAt
        rw [if_pos hw]
      rw [hm] at q
      have E1 := E0'.same s1
      walk_at "rd"
      refine c_Exam_points_for E1 BB k1 k2 hw (fun Q z => r_var (i := 1) rfl z) fun p2 H2 f2 s2 e2 => ?_
      have s02 := s1.trans s2
      have hob := s02 _ _ hob
      have hhc := s02 _ _ hhc
      have hrow := s02 _ _ hrow
      walk_at "rd"
      refine r_zipAt (SqL.of hrow) (SqL.of e2) ?_
      refine comp_rows (Turns.zip (SqL.of hrow) (SqL.of e2) (by rw [List.length_map, List.length_map, hpl])) (by rw [List.length_map]; omega) (fun i => [(st.nm.getD (k - 1).toNat []).getD i 0, (ptsOf st.nm st.en (k - 1).toNat).getD i 0]) (fun i H' Q' hi s q' => ?_) fun p3 H3 R3 => ?_
      · rw [List.length_map] at hi
        have ex : ((st.nm.getD (k - 1).toNat []).map V.int).getD i .non = .int ((st.nm.getD (k - 1).toNat []).getD i 0) := mapI_getD hi
        have ey : ((ptsOf st.nm st.en (k - 1).toNat).map V.int).getD i .non = .int ((ptsOf st.nm st.en (k - 1).toNat).getD i 0) := mapI_getD (by omega)
        rw [ex, ey]
        show (_ : TE) (some (.int _) :: some (.int _) :: _) _ _
        walk_at "rd"
        refine leaf_lst (by simp) fun p4 H4 f4 s4 e4 => ?_
        exact q' p4 H4 f4 s4 e4
      · have er : (List.range ((st.nm.getD (k - 1).toNat []).map V.int).length).map (fun i => [(st.nm.getD (k - 1).toNat []).getD i 0, (ptsOf st.nm st.en (k - 1).toNat).getD i 0]) = ((st.nm.getD (k - 1).toNat []).zip (ptsOf st.nm st.en (k - 1).toNat)).map fun p => [p.1, p.2] := by
          rw [List.length_map]
          exact zip_range hpl
        rw [er] at R3
        have s03 := s02.trans R3.same
        have hob := R3.same _ _ hob
        walk_at "rd"
        refine u_mark_of (SqL.of (R3.same _ _ e2)) (by rw [hpl]; exact hlr) (fun x hx => I.wf.ptsOf hx) fun p4 H4 f4 s4 e4 => ?_
        have s04 := s03.trans s4
        walk_at "rd"
        refine leaf_lst (by simp) fun p5 H5 f5 s5 e5 => ?_
        walk_at "rd"
        obtain ⟨sR, nR, psr, r1, r2, _, r3⟩ := R3
        have ml : MarkB (ptsOf st.nm st.en (k - 1).toNat) st.step = [(MarkB (ptsOf st.nm st.en (k - 1).toNat) st.step).getD 0 0, (MarkB (ptsOf st.nm st.en (k - 1).toNat) st.step).getD 1 0] := by
          unfold MarkB mark2
          split
          · split
            · split <;> rfl
            · rfl
          · rfl
        rw [ml] at e4
        refine leaf_cat (s5 _ _ e4) e5 (by simp) fun p6 H6 f6 s6 e6 => ?_
        have s46 := s5.trans s6
        have s36 := s4.trans s46
        refine q _ H6 (s03.trans s36) ⟨p6, p3, psr, rfl, (s04.trans s5).free f6, s02.free nR, e6, s36 _ _ r1, r2, fun j hj => ⟨s02.free (r3 j hj).2.1, s36 _ _ (r3 j hj).1⟩⟩
  exact TERM
theorem u_Exam_mark_for {K : PySem.W.Frag} {C x : Addr} {H : Hp} {F : Addr → Prop} {st : ExS} {k : Int} {Q : VK} {E : XK} (h : ExAt C H x F st) (B : InB st.hs st.rs) (k1 : 1 ≤ k) (k2 : k ≤ st.nm.length) (q : (∀ v H', Same H H' → MarkIs H v (markAt st.nm st.en st.step (k - 1).toNat) H' → Q v H')) : sp_Exam_mark_for K C [.ref x, .int k] H Q E := ⟨rfl, x, F, st, k, rfl, h, B, k1, k2, q⟩
theorem c_Exam_mark_for {K : PySem.W.Frag} {C x : Addr} {H : Hp} {F : Addr → Prop} {st : ExS} {k : Int} {Q : VK} {E : XK} {σ : L2.St} {tk : TE} (h : ExAt C H x F st) (B : InB st.hs st.rs) (k1 : 1 ≤ k) (k2 : k ≤ st.nm.length) (hk : ∀ Q : VK, Q (.int k) H → tk σ H Q) (q : (∀ v H', Same H H' → MarkIs H v (markAt st.nm st.en st.step (k - 1).toNat) H' → Q v H')) : LeafMeth C "mark_for" (sp_Exam_mark_for K C) E (tCons tk tNil) σ (.ref x) H Q := by
  obtain ⟨dx, fs, e, l⟩ := h.ob
  exact leaf_meth e (l _ (by decide +kernel)) (r_cons (hk _ (r_nil (u_Exam_mark_for h B k1 k2  q))))
/-! def Exam.marks -/
def sp_Exam_marks (K : PySem.W.Frag) (C : Addr) : Sp := fun vs H Q _ => vs.length = 1 ∧ ∃ (x : Addr) (F : Addr → Prop) (st : ExS), vs = [.ref x] ∧ ExAt C H x F st ∧ InB st.hs st.rs ∧ (∀ p H', MarksAt H p (marksS st) H' → Q (.ref p) H')
theorem ok_Exam_marks (T : Txt K mg t) : FnOk P w K mg base CX0 5 t.f_Exam_marks t.d_Exam_marks ["self"] (sp_Exam_marks K t.C_Exam) := by
  have G_Exam_mark_for := ok_Exam_mark_for (P := P) (w := w) (base := base) T
  refine T.F_Exam_marks.ok sc_Exam_marks (fun vs H Q E h => ?_) (fun cdv A outer s H vs Q E hr h => ?_)
  · exact (by obtain ⟨h, _⟩ := h; exact h)
  have TERM : ∃ t', PSs (cxOf CX0 P w K mg base ["self"] "Exam.marks" (defScope s_Exam_marks) t.f_Exam_marks cdv A outer s H E).nox (defBody s_Exam_marks) t' ∧ t' ⟨fun _ H' => Q .non H', Q, fun _ _ => False, fun _ _ => False⟩ (start ["self"] vs) H := by
    refine ⟨_, (pss_cons (ps_if (pt_not (pt_truthK (K := K) rfl (pe_fldK (K := K) rfl (pv 0)) (fun _ => rfl)))
      (pss_one (ps_ret (pe_comp (compScope_of (sc := defScope s_Exam_marks) (XN := ["self"]) (N := ["house"]) (own := 1) (js := []) rfl rfl (by decide +kernel)) rfl (pi_listK (K := K) rfl (pe_fldK (K := K) rfl (pv 0))) (fun _ _ _ _ _ => (pg_name (i := 0) (show List.Nodup [(Str.ofString "house")] by decide +kernel) rfl (by first | exact Or.inl rfl | exact Or.inr rfl))) (fun _ _ _ _ _ => pts_nil) (fun _ _ _ _ _ => pe_non)))) pss_nil)
      (pss_one (ps_ret (pe_comp (compScope_of (sc := defScope s_Exam_marks) (XN := ["self"]) (N := ["paper", "self"]) (own := 1) (js := [0]) rfl rfl (by decide +kernel)) rfl (pi_range2 (by rfl) T.z_range (pa_cons pe_int (pa_cons (pe_op (op_addG) (pe_callB (call_lenK (K := K) rfl) (by rfl) T.z_len (by rfl) (pa_cons (pe_fldK (K := K) rfl (pv 0)) pa_nil)) pe_int) pa_nil))) (fun _ _ _ _ _ => (pg_name (i := 0) (show List.Nodup [(Str.ofString "paper"), (Str.ofString "self")] by decide +kernel) rfl (by first | exact Or.inl rfl | exact Or.inr rfl))) (fun _ _ _ _ _ => pts_nil) (fun _ _ _ _ _ => (pe_meth (pv 1) T.cl_Exam T.me_Exam_mark_for (G_Exam_mark_for) (hr.mono (by first | decide | exact Nat.le_refl _)) T.b_Exam_mark_for .nil pass0 (pa_cons (pv 0) pa_nil))))))), ?_⟩
    obtain ⟨_, x, F, st, rfl, E0, BB, q⟩ := h
    have B1 := BB.lp
    have B2 := BB.lr
    have E0' := E0
    obtain ⟨e, kvs, rfl, hF, I⟩ := E0
    have hcl := T.cl_Exam
    have nA := T.n_Exam_paper_houses
    have nB := T.n_Exam_reader_rows
    have nS := T.n_Exam_widest_step
    have nD := T.n_Exam_is_dealt
    have nC := T.n_Exam_named_readers
    have nE := T.n_Exam_entered_points
    have hob := I.ob
    have fA := @exFs_a (.ref e.a) (.ref e.b) (.int st.step) (.bl st.dl.isSome) (.ref e.c) (.ref e.d)
    have fB := @exFs_b (.ref e.a) (.ref e.b) (.int st.step) (.bl st.dl.isSome) (.ref e.c) (.ref e.d)
    have fS := @exFs_s (.ref e.a) (.ref e.b) (.int st.step) (.bl st.dl.isSome) (.ref e.c) (.ref e.d)
    have fD := @exFs_d (.ref e.a) (.ref e.b) (.int st.step) (.bl st.dl.isSome) (.ref e.c) (.ref e.d)
    have fC := @exFs_c (.ref e.a) (.ref e.b) (.int st.step) (.bl st.dl.isSome) (.ref e.c) (.ref e.d)
    have fE := @exFs_e (.ref e.a) (.ref e.b) (.int st.step) (.bl st.dl.isSome) (.ref e.c) (.ref e.d)
    have hha := I.ha
    have hhb := I.hb
    have hhc := I.hc
    have hhd := I.hd
    have l10 := I.wf.n10 BB
    walk_at "rd"
    cases hdl : st.dl with
    | none =>
      refine iteT ?_
      rw [hdl] at hob
      have fA := @exFs_a (.ref e.a) (.ref e.b) (.int st.step) (.bl (none : Option (List (List Int) × List (List Int))).isSome) (.ref e.c) (.ref e.d)
      walk_at "rd"
      refine r_lstAt (SqL.of hha) ?_
      refine comp_pure (iter_list (SqL.of hha)) (small1000 (by rw [List.length_map]; omega)) (fun _ => true) (fun _ => .non) (fun i H' Q' hi s q' => q') (fun i H' Q' hi s _ q' => q') fun p hp => ?_
      have em : marksS st = (List.range st.hs.length).map fun _ => none := by unfold marksS; rw [hdl]
      rw [List.filter_eq_self.mpr (fun _ _ => rfl), List.length_map]
      refine q p _ ⟨same_new hp, hp, _, upd_same, by rw [em]; simp, fun i hi => ?_⟩
      rw [em] at hi ⊢
      rw [List.length_map, List.length_range] at hi
      rw [getD_map_range hi, getD_map_range hi]
      rfl
    | some d =>
      obtain ⟨nm, en⟩ := d
      refine iteF ?_
      have hln := I.wf.ln (by rw [hdl]; rfl)
      rw [hdl] at hob
      have fA := @exFs_a (.ref e.a) (.ref e.b) (.int st.step) (.bl (some (nm, en)).isSome) (.ref e.c) (.ref e.d)
      have enm : st.nm = nm := by unfold ExS.nm; rw [hdl]; rfl
      have een : st.en = en := by unfold ExS.en; rw [hdl]; rfl
      walk_at "rd"
      refine r_rng2 ⟨by omega, by omega, by omega, by omega⟩ ?_
      have en' : ((st.hs.length : Int) + 1 - 1).toNat = st.hs.length := by omega
      rw [en']
      refine compG_of (comp_gen (Turns.one (iter_range 1 st.hs.length H)) (by omega) (fun p i v H2 => MarkIsN H p v (markAt nm en st.step i) H2) (fun _ _ => True) (fun p i v H1 H2 h k => h.keep k) (fun p ys i H' Q' hi hp s hpp hl hR q' => ?_) fun p vs H2 hp s hpp hl hR _ => ?_)
      · have E' := E0'.same s
        show (_ : TE) (some (.int (1 + (i : Int))) :: _) _ _
        walk_at "rd"
        refine c_Exam_mark_for E' BB (k := 1 + (i : Int)) (by omega) (by omega) (fun Q z => r_var (i := 0) rfl z) fun v H2 s2 M => ?_
        have ek : (1 + (i : Int) - 1).toNat = i := by omega
        rw [ek, enm, een] at M
        exact q' v H2 s2 (M.new s hpp) trivial
      · refine q p H2 ⟨s, hp, vs, hpp, ?_, fun i hi => ?_⟩
        · unfold marksS; rw [hdl]; simpa using hl
        · have em : marksS st = (List.range st.hs.length).map (markAt nm en st.step) := by unfold marksS; rw [hdl]
          rw [em] at hi ⊢
          rw [List.length_map, List.length_range] at hi
          rw [getD_map_range hi]
          exact (hR i hi).is
  exact TERM
theorem u_Exam_marks {K : PySem.W.Frag} {C x : Addr} {H : Hp} {F : Addr → Prop} {st : ExS} {Q : VK} {E : XK} (h : ExAt C H x F st) (B : InB st.hs st.rs) (q : (∀ p H', MarksAt H p (marksS st) H' → Q (.ref p) H')) : sp_Exam_marks K C [.ref x] H Q E := ⟨rfl, x, F, st, rfl, h, B, q⟩
theorem c_Exam_marks {K : PySem.W.Frag} {C x : Addr} {H : Hp} {F : Addr → Prop} {st : ExS} {Q : VK} {E : XK} {σ : L2.St} (h : ExAt C H x F st) (B : InB st.hs st.rs) (q : (∀ p H', MarksAt H p (marksS st) H' → Q (.ref p) H')) : LeafMeth C "marks" (sp_Exam_marks K C) E tNil σ (.ref x) H Q := by
  obtain ⟨dx, fs, e, l⟩ := h.ob
  exact leaf_meth e (l _ (by decide +kernel)) (r_nil (u_Exam_marks h B q))
/-! def _law_truth -/
def sp_law_truth (K : PySem.W.Frag) : Sp := fun vs H Q _ => vs.length = 2 ∧ ∃ b c : Bool, vs = [.bl b, .bl c] ∧ Q (.bl (decide (b = c))) H
theorem ok_law_truth (T : Txt K mg t) : FnOk P w K mg base CX0 1 t.f_law_truth t.d_law_truth ["_law_found", "_law_due"] (sp_law_truth K) := by
  refine T.F_law_truth.ok sc_law_truth (fun vs H Q E h => ?_) (fun cdv A outer s H vs Q E hr h => ?_)
  · exact (by obtain ⟨h, _⟩ := h; exact h)
  have TERM : ∃ t', PSs (cxOf CX0 P w K mg base ["_law_found", "_law_due"] "_law_truth" (defScope s_law_truth) t.f_law_truth cdv A outer s H E).nox (defBody s_law_truth) t' ∧ t' ⟨fun _ H' => Q .non H', Q, fun _ _ => False, fun _ _ => False⟩ (start ["_law_found", "_law_due"] vs) H := by
    refine ⟨_, (pss_one (ps_ret (pe_and (pe_callB (call_isinstanceK (K := K) rfl) (by rfl) T.z_isinstance (by rfl) (pa_cons (pv 0) (pa_cons (pe_bltn (v := .ty "bool") (u := .type "bool") (by rfl) T.z_bool (by rfl) rfl) pa_nil))) (pe_one (pe_cmpR (op_eqGL (K := K) rfl hr.units0) (pv 0) (pv 1) (nomark _)))))), ?_⟩
    obtain ⟨_, b, c, rfl, q⟩ := h
    walk_at "rd"
    refine iteT ?_
    walk_at "rd"
    exact q
  exact TERM
theorem u_law_truth {H : Hp} {b c : Bool} {Q : VK} {E : XK} (q : Q (.bl (decide (b = c))) H) : sp_law_truth K [.bl b, .bl c] H Q E := ⟨rfl, _, _, rfl, q⟩
local macro_rules | `(tactic| walk_at "rd1") => `(tactic| (with_reducible refine u_law_truth ?_))
/-! def Exam.dealt -/
def sp_Exam_dealt (K : PySem.W.Frag) (C : Addr) : Sp := fun vs H Q _ => vs.length = 1 ∧ ∃ (x : Addr) (F : Addr → Prop) (st : ExS), vs = [.ref x] ∧ ExAt C H x F st ∧ InB st.hs st.rs ∧ (∀ H', Same H H' → Q (.bl st.dl.isSome) H')
theorem ok_Exam_dealt (T : Txt K mg t) : FnOk P w K mg base CX0 1 t.f_Exam_dealt t.d_Exam_dealt ["self"] (sp_Exam_dealt K t.C_Exam) := by
  refine T.F_Exam_dealt.ok sc_Exam_dealt (fun vs H Q E h => ?_) (fun cdv A outer s H vs Q E hr h => ?_)
  · exact (by obtain ⟨h, _⟩ := h; exact h)
  have TERM : ∃ t', PSs (cxOf CX0 P w K mg base ["self"] "Exam.dealt" (defScope s_Exam_dealt) t.f_Exam_dealt cdv A outer s H E).nox (defBody s_Exam_dealt) t' ∧ t' ⟨fun _ H' => Q .non H', Q, fun _ _ => False, fun _ _ => False⟩ (start ["self"] vs) H := by
    refine ⟨_, (pss_one (ps_ret (pe_fldK (K := K) rfl (pv 0)))), ?_⟩
    obtain ⟨_, x, F, st, rfl, E0, BB, q⟩ := h
    have B1 := BB.lp
    have B2 := BB.lr
    obtain ⟨e, kvs, rfl, hF, I⟩ := E0
    have hcl := T.cl_Exam
    have nA := T.n_Exam_paper_houses
    have nB := T.n_Exam_reader_rows
    have nS := T.n_Exam_widest_step
    have nD := T.n_Exam_is_dealt
    have nC := T.n_Exam_named_readers
    have nE := T.n_Exam_entered_points
    have hob := I.ob
    have fA := @exFs_a (.ref e.a) (.ref e.b) (.int st.step) (.bl st.dl.isSome) (.ref e.c) (.ref e.d)
    have fB := @exFs_b (.ref e.a) (.ref e.b) (.int st.step) (.bl st.dl.isSome) (.ref e.c) (.ref e.d)
    have fS := @exFs_s (.ref e.a) (.ref e.b) (.int st.step) (.bl st.dl.isSome) (.ref e.c) (.ref e.d)
    have fD := @exFs_d (.ref e.a) (.ref e.b) (.int st.step) (.bl st.dl.isSome) (.ref e.c) (.ref e.d)
    have fC := @exFs_c (.ref e.a) (.ref e.b) (.int st.step) (.bl st.dl.isSome) (.ref e.c) (.ref e.d)
    have fE := @exFs_e (.ref e.a) (.ref e.b) (.int st.step) (.bl st.dl.isSome) (.ref e.c) (.ref e.d)
    have hha := I.ha
    have hhb := I.hb
    have hhc := I.hc
    have hhd := I.hd
    walk_at "rd"
    exact q H (Same.refl H)
  exact TERM
theorem u_Exam_dealt {K : PySem.W.Frag} {C x : Addr} {H : Hp} {F : Addr → Prop} {st : ExS} {Q : VK} {E : XK} (h : ExAt C H x F st) (B : InB st.hs st.rs) (q : (∀ H', Same H H' → Q (.bl st.dl.isSome) H')) : sp_Exam_dealt K C [.ref x] H Q E := ⟨rfl, x, F, st, rfl, h, B, q⟩
theorem c_Exam_dealt {K : PySem.W.Frag} {C x : Addr} {H : Hp} {F : Addr → Prop} {st : ExS} {Q : VK} {E : XK} {σ : L2.St} (h : ExAt C H x F st) (B : InB st.hs st.rs) (q : (∀ H', Same H H' → Q (.bl st.dl.isSome) H')) : LeafMeth C "dealt" (sp_Exam_dealt K C) E tNil σ (.ref x) H Q := by
  obtain ⟨dx, fs, e, l⟩ := h.ob
  exact leaf_meth e (l _ (by decide +kernel)) (r_nil (u_Exam_dealt h B q))
/-! def Exam.dealing -/
def sp_Exam_dealing (K : PySem.W.Frag) (C : Addr) : Sp := fun vs H Q _ => vs.length = 1 ∧ ∃ (x : Addr) (F : Addr → Prop) (st : ExS), vs = [.ref x] ∧ ExAt C H x F st ∧ InB st.hs st.rs ∧ ((st.dl = none → ∀ H', Same H H' → Q .non H') ∧ ∀ nm en, st.dl = some (nm, en) → ∀ p H', RowsAt H p (nm.map (List.take 2)) H' → Q (.ref p) H')
theorem ok_Exam_dealing (T : Txt K mg t) : FnOk P w K mg base CX0 1 t.f_Exam_dealing t.d_Exam_dealing ["self"] (sp_Exam_dealing K t.C_Exam) := by
  refine T.F_Exam_dealing.ok sc_Exam_dealing (fun vs H Q E h => ?_) (fun cdv A outer s H vs Q E hr h => ?_)
  · exact (by obtain ⟨h, _⟩ := h; exact h)
  have TERM : ∃ t', PSs (cxOf CX0 P w K mg base ["self"] "Exam.dealing" (defScope s_Exam_dealing) t.f_Exam_dealing cdv A outer s H E).nox (defBody s_Exam_dealing) t' ∧ t' ⟨fun _ H' => Q .non H', Q, fun _ _ => False, fun _ _ => False⟩ (start ["self"] vs) H := by
    refine ⟨_, (pss_cons (ps_if (pt_not (pt_truthK (K := K) rfl (pe_fldK (K := K) rfl (pv 0)) (fun _ => rfl)))
      (pss_one (ps_ret pe_non)) pss_nil)
      (pss_one (ps_ret (pe_comp (compScope_of (sc := defScope s_Exam_dealing) (XN := ["self"]) (N := ["named"]) (own := 1) (js := []) rfl rfl (by decide +kernel)) rfl (pi_listK (K := K) rfl (pe_fldK (K := K) rfl (pv 0))) (fun _ _ _ _ _ => (pg_name (i := 0) (show List.Nodup [(Str.ofString "named")] by decide +kernel) rfl (by first | exact Or.inl rfl | exact Or.inr rfl))) (fun _ _ _ _ _ => pts_nil) (fun _ _ _ _ _ => (pe_slice (sl_listK (K := K) rfl) (pv 0) po_none (po_some pe_int))))))), ?_⟩
    obtain ⟨_, x, F, st, rfl, E0, BB, q⟩ := h
    have B1 := BB.lp
    have B2 := BB.lr
    obtain ⟨e, kvs, rfl, hF, I⟩ := E0
    have hcl := T.cl_Exam
    have nA := T.n_Exam_paper_houses
    have nB := T.n_Exam_reader_rows
    have nS := T.n_Exam_widest_step
    have nD := T.n_Exam_is_dealt
    have nC := T.n_Exam_named_readers
    have nE := T.n_Exam_entered_points
    have hob := I.ob
    have fA := @exFs_a (.ref e.a) (.ref e.b) (.int st.step) (.bl st.dl.isSome) (.ref e.c) (.ref e.d)
    have fB := @exFs_b (.ref e.a) (.ref e.b) (.int st.step) (.bl st.dl.isSome) (.ref e.c) (.ref e.d)
    have fS := @exFs_s (.ref e.a) (.ref e.b) (.int st.step) (.bl st.dl.isSome) (.ref e.c) (.ref e.d)
    have fD := @exFs_d (.ref e.a) (.ref e.b) (.int st.step) (.bl st.dl.isSome) (.ref e.c) (.ref e.d)
    have fC := @exFs_c (.ref e.a) (.ref e.b) (.int st.step) (.bl st.dl.isSome) (.ref e.c) (.ref e.d)
    have fE := @exFs_e (.ref e.a) (.ref e.b) (.int st.step) (.bl st.dl.isSome) (.ref e.c) (.ref e.d)
    have hha := I.ha
    have hhb := I.hb
    have hhc := I.hc
    have hhd := I.hd
    obtain ⟨q0, q1⟩ := q
    have lq := I.lq
    have l10 := I.wf.n10 BB
    walk_at "rd"
    cases hdl : st.dl with
    | none =>
      refine iteT ?_
      walk_at "rd"
      exact q0 hdl H (Same.refl H)
    | some d =>
      obtain ⟨nm, en⟩ := d
      refine iteF ?_
      rw [hdl] at hob
      have fC := @exFs_c (.ref e.a) (.ref e.b) (.int st.step) (.bl (some (nm, en)).isSome) (.ref e.c) (.ref e.d)
      have enm : st.nm = nm := by unfold ExS.nm; rw [hdl]; rfl
      rw [enm] at lq l10
      have rq := I.rq
      rw [enm] at rq
      walk_at "rd"
      refine r_lstAt (SqL.of hhc) ?_
      have hl := q1
      refine compG_of (comp_rows (Turns.one (iter_list (SqL.of hhc))) (by rw [List.length_map]; omega) (fun i => (nm.getD i []).take 2) (fun i H' Q' hi s q' => ?_) fun p H2 R => ?_)
      · rw [List.length_map, lq] at hi
        have ex : (e.qs.map V.ref).getD i .non = .ref (e.qs.getD i 0) := by
          rw [List.getD_eq_getElem?_getD, List.getElem?_map, List.getElem?_eq_getElem (by omega), List.getD_eq_getElem?_getD, List.getElem?_eq_getElem (by omega)]; rfl
        rw [ex]
        have hrow := s _ _ (rq i hi)
        show (_ : TE) (some (.ref (e.qs.getD i 0)) :: _) _ _
        walk_at "rd"
        refine leaf_slice (SqL.of hrow) fun p2 H2 f2 s2 e2 => ?_
        rw [show cutV ((nm.getD i []).map V.int) none (some 2) = ((nm.getD i []).map V.int).take 2 from cutV_to 2, ← List.map_take] at e2
        exact q' p2 H2 f2 s2 e2
      · rw [List.length_map, lq] at R
        have em : (List.range nm.length).map (fun i => (nm.getD i []).take 2) = nm.map (List.take 2) := by
          refine List.ext_getElem (by simp) fun i h1 h2 => ?_
          simp at h1 ⊢
          rw [List.getElem?_eq_getElem h1]; rfl
        rw [em] at R
        exact q1 nm en hdl p H2 R
  exact TERM
theorem u_Exam_dealing {K : PySem.W.Frag} {C x : Addr} {H : Hp} {F : Addr → Prop} {st : ExS} {Q : VK} {E : XK} (h : ExAt C H x F st) (B : InB st.hs st.rs) (q : ((st.dl = none → ∀ H', Same H H' → Q .non H') ∧ ∀ nm en, st.dl = some (nm, en) → ∀ p H', RowsAt H p (nm.map (List.take 2)) H' → Q (.ref p) H')) : sp_Exam_dealing K C [.ref x] H Q E := ⟨rfl, x, F, st, rfl, h, B, q⟩
theorem c_Exam_dealing {K : PySem.W.Frag} {C x : Addr} {H : Hp} {F : Addr → Prop} {st : ExS} {Q : VK} {E : XK} {σ : L2.St} (h : ExAt C H x F st) (B : InB st.hs st.rs) (q : ((st.dl = none → ∀ H', Same H H' → Q .non H') ∧ ∀ nm en, st.dl = some (nm, en) → ∀ p H', RowsAt H p (nm.map (List.take 2)) H' → Q (.ref p) H')) : LeafMeth C "dealing" (sp_Exam_dealing K C) E tNil σ (.ref x) H Q := by
  obtain ⟨dx, fs, e, l⟩ := h.ob
  exact leaf_meth e (l _ (by decide +kernel)) (r_nil (u_Exam_dealing h B q))
/-! def _law_open -/
def sp_law_open (K : PySem.W.Frag) (C : Addr) : Sp := fun vs H Q _ => vs.length = 4 ∧ ∃ (x a b : Addr) (F : Addr → Prop) (st : ExS) (ps : List Addr), vs = [.ref x, .ref a, .ref b, .int st.step] ∧ ExAt C H x F st ∧ InB st.hs st.rs ∧ st.dl = none ∧ IntsO H F a st.hs ∧ RowsO H F b ps st.rs ∧ ∀ H', Same H H' → Q (.bl true) H'
theorem ok_law_open (T : Txt K mg t) : FnOk P w K mg base CX0 6 t.f_law_open t.d_law_open ["_law_exam", "_law_homes", "_law_staff", "_law_step"] (sp_law_open K t.C_Exam) := by
  have G_law_rows := ok_law_rows (P := P) (w := w) (base := base) T
  have G_Exam_readers := ok_Exam_readers (P := P) (w := w) (base := base) T
  have G_law_row := ok_law_row (P := P) (w := w) (base := base) T
  have G_Exam_papers := ok_Exam_papers (P := P) (w := w) (base := base) T
  have G_Exam_due := ok_Exam_due (P := P) (w := w) (base := base) T
  have G_Exam_left := ok_Exam_left (P := P) (w := w) (base := base) T
  have G_law_whole := ok_law_whole (P := P) (w := w) (base := base) T
  have G_Exam_step := ok_Exam_step (P := P) (w := w) (base := base) T
  have G_law_none := ok_law_none (P := P) (w := w) (base := base) T
  have G_Exam_marks := ok_Exam_marks (P := P) (w := w) (base := base) T
  have G_law_truth := ok_law_truth (P := P) (w := w) (base := base) T
  have G_Exam_dealt := ok_Exam_dealt (P := P) (w := w) (base := base) T
  have G_Exam_dealing := ok_Exam_dealing (P := P) (w := w) (base := base) T
  refine T.F_law_open.ok sc_law_open (fun vs H Q E h => ?_) (fun cdv A outer s H vs Q E hr h => ?_)
  · exact (by obtain ⟨h, _⟩ := h; exact h)
  have TERM : ∃ t', PSs (cxOf CX0 P w K mg base ["_law_exam", "_law_homes", "_law_staff", "_law_step"] "_law_open" (defScope s_law_open) t.f_law_open cdv A outer s H E).nox (defBody s_law_open) t' ∧ t' ⟨fun _ H' => Q .non H', Q, fun _ _ => False, fun _ _ => False⟩ (start ["_law_exam", "_law_homes", "_law_staff", "_law_step"] vs) H := by
    refine ⟨_, (pss_cons (ps_if (pw_or (pt_not (pt_truthK (K := K) rfl (pe_call (G_law_row) (hr.mono (by decide)) (by rfl) T.m_law_row T.F_law_row.kp T.b_law_row .nil pass0 (pa_cons (pe_meth0 (pv 0) T.cl_Exam T.me_Exam_papers (G_Exam_papers) (hr.mono (by first | decide | exact Nat.le_refl _)) T.b_Exam_papers .nil pass0) (pa_cons (pv 1) pa_nil))) (fun _ => rfl))) (pw_or1 (pt_not (pt_truthK (K := K) rfl (pe_call (G_law_rows) (hr.mono (by decide)) (by rfl) T.m_law_rows T.F_law_rows.kp T.b_law_rows .nil pass0 (pa_cons (pe_meth0 (pv 0) T.cl_Exam T.me_Exam_readers (G_Exam_readers) (hr.mono (by first | decide | exact Nat.le_refl _)) T.b_Exam_readers .nil pass0) (pa_cons (pv 2) pa_nil))) (fun _ => rfl))))).pt
      (pss_one (ps_ret pe_bl)) pss_nil)
      (pss_cons (ps_if (pw_or (pt_not (pt_truthK (K := K) rfl (pe_call (G_law_row) (hr.mono (by decide)) (by rfl) T.m_law_row T.F_law_row.kp T.b_law_row .nil pass0 (pa_cons (pe_meth0 (pv 0) T.cl_Exam T.me_Exam_left (G_Exam_left) (hr.mono (by first | decide | exact Nat.le_refl _)) T.b_Exam_left .nil pass0) (pa_cons (pe_comp (compScope_of (sc := defScope s_law_open) (XN := ["_law_exam", "_law_homes", "_law_staff", "_law_step"]) (N := ["_law_one"]) (own := 1) (js := []) rfl rfl (by decide +kernel)) rfl (pi_listK (K := K) rfl (pv 2)) (fun _ _ _ _ _ => (pg_name (i := 0) (show List.Nodup [(Str.ofString "_law_one")] by decide +kernel) rfl (by first | exact Or.inl rfl | exact Or.inr rfl))) (fun _ _ _ _ _ => pts_nil) (fun _ _ _ _ _ => (pe_ix (ix_listK (K := K) rfl) (pv 0) pe_int (fun _ _ => rfl)))) pa_nil))) (fun _ => rfl))) (pw_or1 (pt_not (pt_truthK (K := K) rfl (pe_call (G_law_rows) (hr.mono (by decide)) (by rfl) T.m_law_rows T.F_law_rows.kp T.b_law_rows .nil pass0 (pa_cons (pe_meth0 (pv 0) T.cl_Exam T.me_Exam_due (G_Exam_due) (hr.mono (by first | decide | exact Nat.le_refl _)) T.b_Exam_due .nil pass0) (pa_cons (pe_lst pa_nil) pa_nil))) (fun _ => rfl))))).pt
      (pss_one (ps_ret pe_bl)) pss_nil)
      (pss_cons (ps_if (pw_or (pt_not (pt_truthK (K := K) rfl (pe_call (G_law_none) (hr.mono (by decide)) (by rfl) T.m_law_none T.F_law_none.kp T.b_law_none .nil pass0 (pa_cons (pe_meth0 (pv 0) T.cl_Exam T.me_Exam_marks (G_Exam_marks) (hr.mono (by first | decide | exact Nat.le_refl _)) T.b_Exam_marks .nil pass0) (pa_cons (pe_callB (call_lenK (K := K) rfl) (by rfl) T.z_len (by rfl) (pa_cons (pv 1) pa_nil)) pa_nil))) (fun _ => rfl))) (pw_or1 (pt_not (pt_truthK (K := K) rfl (pe_call (G_law_whole) (hr.mono (by decide)) (by rfl) T.m_law_whole T.F_law_whole.kp T.b_law_whole .nil pass0 (pa_cons (pe_meth0 (pv 0) T.cl_Exam T.me_Exam_step (G_Exam_step) (hr.mono (by first | decide | exact Nat.le_refl _)) T.b_Exam_step .nil pass0) pa_nil)) (fun _ => rfl))))).pt
      (pss_one (ps_ret pe_bl)) pss_nil)
      (pss_one (ps_ret (pe_and (pe_cmpR (op_eqGL (K := K) rfl hr.units0) (pe_meth0 (pv 0) T.cl_Exam T.me_Exam_step (G_Exam_step) (hr.mono (by first | decide | exact Nat.le_refl _)) T.b_Exam_step .nil pass0) (pv 3) (nomark _)) (pe_and (pe_cmpR (op_isNN) (pe_meth0 (pv 0) T.cl_Exam T.me_Exam_dealing (G_Exam_dealing) (hr.mono (by first | decide | exact Nat.le_refl _)) T.b_Exam_dealing .nil pass0) pe_non (nomark _)) (pe_one (pe_call (G_law_truth) (hr.mono (by decide)) (by rfl) T.m_law_truth T.F_law_truth.kp T.b_law_truth .nil pass0 (pa_cons (pe_meth0 (pv 0) T.cl_Exam T.me_Exam_dealt (G_Exam_dealt) (hr.mono (by first | decide | exact Nat.le_refl _)) T.b_Exam_dealt .nil pass0) (pa_cons pe_bl pa_nil))))))))))), ?_⟩
    obtain ⟨_, x, a, b, F, st, psb, rfl, E0, B, hd, ha, hb, q⟩ := h
    have B1 := B.lp
    have B2 := B.lr
    walk_at "rd"
    refine c_Exam_papers E0 B fun p1 H1 f1 s1 e1 => ?_
    have E1 := E0.same s1
    walk_at "rd"
    refine u_law_row e1 (SqL.of (s1 _ _ ha.1)) (by omega) ?_
    walk_at "rd"
    rw [decide_eq_true (rfl : st.hs = st.hs)]
    refine iteF ?_
    walk_at "rd"
    refine c_Exam_readers E1 B fun p2 H2 R2 => ?_
    have s02 := s1.trans R2.same
    have E2 := E1.same R2.same
    have hb2 := hb.same s02
    obtain ⟨zs2, z2, _⟩ := R2.lst
    walk_at "rd"
    refine u_law_rows ⟨_, z2⟩ R2.ll hb2.ll (by omega) (fun i hi => by rw [B.r2 i hi]; decide) ?_
    walk_at "rd"
    rw [decide_eq_true (rfl : st.rs = st.rs)]
    refine iteF ?_
    walk_at "rd"
    refine c_Exam_left E2 B fun p3 H3 f3 s3 e3 => ?_
    have s03 := s02.trans s3
    have E3 := E2.same s3
    have hb3 := hb2.same s3
    have hpb := hb.2.2.1
    have er : (psb.map V.ref).length = st.rs.length := by rw [List.length_map]; exact hpb
    walk_at "rd"
    refine r_lstAt (SqL.of hb3.1) ?_
    refine comp_ints (iter_list (SqL.of hb3.1)) (by omega) (fun i => (st.rs.getD i []).getD 1 0) (fun i H' Q' hi s q' => ?_) fun p4 H4 f4 s4 e4 => ?_
    · have hi' : i < st.rs.length := by omega
      have ex : (psb.map V.ref).getD i .non = .ref (psb.getD i 0) := by
        rw [List.getD_eq_getElem?_getD, List.getElem?_map, List.getElem?_eq_getElem (by omega), List.getD_eq_getElem?_getD, List.getElem?_eq_getElem (by omega)]; rfl
      rw [ex]
      have h2 := B.r2 i hi'
      have hrow := s _ _ (hb3.2.2.2 i hi').1
      walk_at "rd"
      exact q'
    have s04 := s03.trans s4
    have E4 := E3.same s4
    rw [er, ← leftS_open hd] at e4
    have hll : (leftS st).length = st.rs.length := by rw [leftS_open hd, List.length_map, List.length_range]
    walk_at "rd"
    refine u_law_row (s4 _ _ e3) (SqL.of e4) (by omega) ?_
    walk_at "rd"
    rw [decide_eq_true (rfl : leftS st = leftS st)]
    refine iteF ?_
    walk_at "rd"
    refine c_Exam_due E4 B fun p5 H5 R5 => ?_
    have ed : dueS st = [] := by unfold dueS; rw [nm_open hd]; rfl
    rw [ed] at R5
    have s05 := s04.trans R5.same
    have E5 := E4.same R5.same
    obtain ⟨zs5, z5, _⟩ := R5.lst
    walk_at "rd"
    refine leaf_lst (by decide) fun p6 H6 f6 s6 e6 => ?_
    have s06 := s05.trans s6
    have E6 := E5.same s6
    walk_at "rd"
    refine u_law_rows (ys := []) ⟨_, s6 _ _ z5⟩ (R5.ll.same s6) ⟨[], SqL.of e6, rfl, fun i hi => absurd hi (by simp)⟩ (by simp) (fun i hi => absurd hi (by simp)) ?_
    walk_at "rd"
    refine iteF ?_
    walk_at "rd"
    refine c_Exam_marks E6 B fun p7 H7 M7 => ?_
    have e7 := marks_open M7 hd
    have s07 := s06.trans M7.same
    have E7 := E6.same M7.same
    have ha7 := s07 _ _ ha.1
    walk_at "rd"
    refine u_law_none e7 (by omega) ?_
    walk_at "rd"
    refine iteF ?_
    walk_at "rd"
    refine c_Exam_step E7 B fun H8 s8 => ?_
    have E8 := E7.same s8
    walk_at "rd"
    refine iteF ?_
    walk_at "rd"
    refine c_Exam_step E8 B fun H9 s9 => ?_
    have E9 := E8.same s9
    walk_at "rd"
    rw [decide_eq_true (rfl : st.step = st.step)]
    refine iteT ?_
    walk_at "rd"
    refine c_Exam_dealing E9 B ⟨fun _ H10 s10 => ?_, fun nm en z => absurd z (by rw [hd]; simp)⟩
    have E10 := E9.same s10
    walk_at "rd"
    rw [decide_eq_true (rfl : V.non = V.non)]
    refine iteT ?_
    walk_at "rd"
    refine c_Exam_dealt E10 B fun H11 s11 => ?_
    walk_at "rd"
    rw [hd]
    exact q _ ((((s07.trans s8).trans s9).trans s10).trans s11)
  exact TERM
theorem u_law_open {C : Addr} {H : Hp} {x a b : Addr} {F : Addr → Prop} {st : ExS} {ps : List Addr} {s : Int} {Q : VK} {E : XK} (h : ExAt C H x F st) (B : InB st.hs st.rs) (hd : st.dl = none) (ha : IntsO H F a st.hs) (hb : RowsO H F b ps st.rs) (hs : s = st.step) (q : ∀ H', Same H H' → Q (.bl true) H') : sp_law_open K C [.ref x, .ref a, .ref b, .int s] H Q E := by
  subst hs
  exact ⟨rfl, x, a, b, F, st, ps, rfl, h, B, hd, ha, hb, q⟩
/-! def _law_at -/
def sp_law_at (K : PySem.W.Frag) : Sp := fun vs H Q _ => vs.length = 2 ∧ ∃ (a : Addr) (ns : List Int) (k : Int), vs = [.ref a, .int k] ∧ SqL K H a (ns.map V.int) ∧ ns.length ≤ 63 ∧ Q (.int (lawAt ns k)) H
theorem ok_law_at (T : Txt K mg t) : FnOk P w K mg base CX0 1 t.f_law_at t.d_law_at ["_law_script", "_law_k"] (sp_law_at K) := by
  refine T.F_law_at.ok sc_law_at (fun vs H Q E h => ?_) (fun cdv A outer s H vs Q E hr h => ?_)
  · exact (by obtain ⟨h, _⟩ := h; exact h)
  have TERM : ∃ t', PSs (cxOf CX0 P w K mg base ["_law_script", "_law_k"] "_law_at" (defScope s_law_at) t.f_law_at cdv A outer s H E).nox (defBody s_law_at) t' ∧ t' ⟨fun _ H' => Q .non H', Q, fun _ _ => False, fun _ _ => False⟩ (start ["_law_script", "_law_k"] vs) H := by
    refine ⟨_, (pss_cons (ps_if (pt_cmpR (op_eqGL (K := K) rfl hr.units0) (pe_callB (call_lenK (K := K) rfl) (by rfl) T.z_len (by rfl) (pa_cons (pv 0) pa_nil)) pe_int (nomark _))
      (pss_one (ps_ret pe_int)) pss_nil)
      (pss_one (ps_ret (pe_op (op_addG) (pe_ix (ix_listK (K := K) rfl) (pv 0) (pe_op (op_mod) (pv 1) (pe_callB (call_lenK (K := K) rfl) (by rfl) T.z_len (by rfl) (pa_cons (pv 0) pa_nil))) (fun _ _ => rfl)) (pe_op (op_fdivB) (pv 1) (pe_callB (call_lenK (K := K) rfl) (by rfl) T.z_len (by rfl) (pa_cons (pv 0) pa_nil))))))), ?_⟩
    obtain ⟨_, a, ns, k, rfl, hS, hl, q⟩ := h
    walk_at "rd"
    unfold lawAt at q
    refine ite_d (fun h0 => ?_) (fun h0 => ?_)
    · rw [if_pos h0] at q
      walk_at "rd"
      exact q
    · rw [if_neg h0] at q
      have h3 : (0 : Int) < ns.length := by omega
      walk_at "rd"
      refine r_ixL hS (atI_ints (Int.emod_nonneg _ h0) (Int.emod_lt_of_pos _ h3)) ?_
      walk_at "rd"
      exact q
  exact TERM
theorem u_law_at {H : Hp} {a : Addr} {ns : List Int} {k : Int} {Q : VK} {E : XK} (h : SqL K H a (ns.map V.int)) (hl : ns.length ≤ 63) (q : Q (.int (lawAt ns k)) H) : sp_law_at K [.ref a, .int k] H Q E := ⟨rfl, a, ns, k, rfl, h, hl, q⟩
local macro_rules | `(tactic| walk_at "rd1") => `(tactic| ((with_reducible refine' u_law_at ?h1 ?h2 ?_); (case h1 => walk_at "hp"); (case h2 => omega)))
/-! def Exam.refuse_behind_dealing -/
def sp_Exam_refuse_behind_dealing (K : PySem.W.Frag) (C : Addr) : Sp := fun vs H Q _ => vs.length = 1 ∧ ∃ (x : Addr) (F : Addr → Prop) (st : ExS), vs = [.ref x] ∧ ExAt C H x F st ∧ st.dl = none ∧ Q .non H
theorem ok_Exam_refuse_behind_dealing (T : Txt K mg t) : FnOk P w K mg base CX0 1 t.f_Exam_refuse_behind_dealing t.d_Exam_refuse_behind_dealing ["self"] (sp_Exam_refuse_behind_dealing K t.C_Exam) := by
  refine T.F_Exam_refuse_behind_dealing.ok sc_Exam_refuse_behind_dealing (fun vs H Q E h => ?_) (fun cdv A outer s H vs Q E hr h => ?_)
  · exact (by obtain ⟨h, _⟩ := h; exact h)
  have TERM : ∃ t', PSs (cxOf CX0 P w K mg base ["self"] "Exam.refuse_behind_dealing" (defScope s_Exam_refuse_behind_dealing) t.f_Exam_refuse_behind_dealing cdv A outer s H E).nox (defBody s_Exam_refuse_behind_dealing) t' ∧ t' ⟨fun _ H' => Q .non H', Q, fun _ _ => False, fun _ _ => False⟩ (start ["self"] vs) H := by
    refine ⟨_, (pss_one (ps_if (pt_truthK (K := K) rfl (pe_fldK (K := K) rfl (pv 0)) (fun _ => rfl))
      (pss_one ps_never) pss_nil)), ?_⟩
    obtain ⟨_, x, F, st, rfl, E0, hd, q⟩ := h
    obtain ⟨e, kvs, rfl, hF, I⟩ := E0
    have hcl := T.cl_Exam
    have nA := T.n_Exam_paper_houses
    have nB := T.n_Exam_reader_rows
    have nS := T.n_Exam_widest_step
    have nD := T.n_Exam_is_dealt
    have nC := T.n_Exam_named_readers
    have nE := T.n_Exam_entered_points
    have hob := I.ob
    have fA := @exFs_a (.ref e.a) (.ref e.b) (.int st.step) (.bl st.dl.isSome) (.ref e.c) (.ref e.d)
    have fB := @exFs_b (.ref e.a) (.ref e.b) (.int st.step) (.bl st.dl.isSome) (.ref e.c) (.ref e.d)
    have fS := @exFs_s (.ref e.a) (.ref e.b) (.int st.step) (.bl st.dl.isSome) (.ref e.c) (.ref e.d)
    have fD := @exFs_d (.ref e.a) (.ref e.b) (.int st.step) (.bl st.dl.isSome) (.ref e.c) (.ref e.d)
    have fC := @exFs_c (.ref e.a) (.ref e.b) (.int st.step) (.bl st.dl.isSome) (.ref e.c) (.ref e.d)
    have fE := @exFs_e (.ref e.a) (.ref e.b) (.int st.step) (.bl st.dl.isSome) (.ref e.c) (.ref e.d)
    have hha := I.ha
    have hhb := I.hb
    have hhc := I.hc
    have hhd := I.hd
    walk_at "rd"
    rw [hd]
    refine iteF ?_
    walk_at "rd"
    exact q
  exact TERM
theorem c_Exam_refuse_behind {K : PySem.W.Frag} {C x : Addr} {H : Hp} {F : Addr → Prop} {st : ExS} {Q : VK} {E : XK} {σ : L2.St} (h : ExAt C H x F st) (hd : st.dl = none) (q : Q .non H) : LeafMeth C "refuse_behind_dealing" (sp_Exam_refuse_behind_dealing K C) E tNil σ (.ref x) H Q := by
  obtain ⟨dx, fs, e, l⟩ := h.ob
  exact leaf_meth e (l _ (by decide +kernel)) (r_nil ⟨rfl, x, F, st, rfl, h, hd, q⟩)
/-! def refuse_unknown -/
def sp_refuse_unknown (K : PySem.W.Frag) : Sp := fun vs H Q _ => vs.length = 3 ∧ ∃ n l m : Int, vs = [.int n, .int l, .int m] ∧ l ≤ n ∧ n ≤ m ∧ Q .non H
theorem ok_refuse_unknown (T : Txt K mg t) : FnOk P w K mg base CX0 1 t.f_refuse_unknown t.d_refuse_unknown ["number", "least", "most"] (sp_refuse_unknown K) := by
  refine T.F_refuse_unknown.ok sc_refuse_unknown (fun vs H Q E h => ?_) (fun cdv A outer s H vs Q E hr h => ?_)
  · exact (by obtain ⟨h, _⟩ := h; exact h)
  have TERM : ∃ t', PSs (cxOf CX0 P w K mg base ["number", "least", "most"] "refuse_unknown" (defScope s_refuse_unknown) t.f_refuse_unknown cdv A outer s H E).nox (defBody s_refuse_unknown) t' ∧ t' ⟨fun _ H' => Q .non H', Q, fun _ _ => False, fun _ _ => False⟩ (start ["number", "least", "most"] vs) H := by
    refine ⟨_, (pss_one (ps_if (pw_or (pt_cmpR (op_lt) (pv 0) (pv 1) (nomark _)) (pw_or1 (pt_cmpR (op_gt) (pv 0) (pv 2) (nomark _)))).pt
      (pss_one ps_never) pss_nil)), ?_⟩
    obtain ⟨_, n, l, m, rfl, h1, h2, q⟩ := h
    walk_at "rdk"
    exact q
  exact TERM
theorem u_refuse_unknown {H : Hp} {n l m : Int} {Q : VK} {E : XK} (h1 : l ≤ n) (h2 : n ≤ m) (q : Q .non H) : sp_refuse_unknown K [.int n, .int l, .int m] H Q E := ⟨rfl, n, l, m, rfl, h1, h2, q⟩
/-! def refuse_full -/
def sp_refuse_full (K : PySem.W.Frag) : Sp := fun vs H Q _ => vs.length = 2 ∧ ∃ n m : Int, vs = [.int n, .int m] ∧ n < m ∧ Q .non H
theorem ok_refuse_full (T : Txt K mg t) : FnOk P w K mg base CX0 1 t.f_refuse_full t.d_refuse_full ["many", "most"] (sp_refuse_full K) := by
  refine T.F_refuse_full.ok sc_refuse_full (fun vs H Q E h => ?_) (fun cdv A outer s H vs Q E hr h => ?_)
  · exact (by obtain ⟨h, _⟩ := h; exact h)
  have TERM : ∃ t', PSs (cxOf CX0 P w K mg base ["many", "most"] "refuse_full" (defScope s_refuse_full) t.f_refuse_full cdv A outer s H E).nox (defBody s_refuse_full) t' ∧ t' ⟨fun _ H' => Q .non H', Q, fun _ _ => False, fun _ _ => False⟩ (start ["many", "most"] vs) H := by
    refine ⟨_, (pss_one (ps_if (pt_cmpR (op_ge) (pv 0) (pv 1) (nomark _))
      (pss_one ps_never) pss_nil)), ?_⟩
    obtain ⟨_, n, m, rfl, h1, q⟩ := h
    walk_at "rdk"
    exact q
  exact TERM
theorem u_refuse_full {H : Hp} {n m : Int} {Q : VK} {E : XK} (h1 : n < m) (q : Q .non H) : sp_refuse_full K [.int n, .int m] H Q E := ⟨rfl, n, m, rfl, h1, q⟩
/-! def Exam.bring_paper -/
def sp_Exam_bring_paper (K : PySem.W.Frag) (C : Addr) : Sp := fun vs H Q _ => vs.length = 2 ∧ ∃ (x : Addr) (F : Addr → Prop) (st : ExS) (h : Int), vs = [.ref x, .int h] ∧ ExAt C H x F st ∧ InB st.hs st.rs ∧ st.dl = none ∧ (1 ≤ h ∧ h ≤ 6 ∧ st.hs.length < 10) ∧ ∀ H' F', ExFr H H' F F' → ExAt C H' x F' { st with hs := st.hs ++ [h] } → Q (.int ((st.hs.length : Int) + 1)) H'
theorem ok_Exam_bring_paper (T : Txt K mg t) : FnOk P w K mg base CX0 2 t.f_Exam_bring_paper t.d_Exam_bring_paper ["self", "house"] (sp_Exam_bring_paper K t.C_Exam) := by
  have G_Exam_refuse_behind_dealing := ok_Exam_refuse_behind_dealing (P := P) (w := w) (base := base) T
  have G_refuse_unknown := ok_refuse_unknown (P := P) (w := w) (base := base) T
  have G_refuse_full := ok_refuse_full (P := P) (w := w) (base := base) T
  refine T.F_Exam_bring_paper.ok sc_Exam_bring_paper (fun vs H Q E h => ?_) (fun cdv A outer s H vs Q E hr h => ?_)
  · exact (by obtain ⟨h, _⟩ := h; exact h)
  have TERM : ∃ t', PSs (cxOf CX0 P w K mg base ["self", "house"] "Exam.bring_paper" (defScope s_Exam_bring_paper) t.f_Exam_bring_paper cdv A outer s H E).nox (defBody s_Exam_bring_paper) t' ∧ t' ⟨fun _ H' => Q .non H', Q, fun _ _ => False, fun _ _ => False⟩ (start ["self", "house"] vs) H := by
    refine ⟨_, (pss_cons (ps_expr (pe_meth0 (pv 0) T.cl_Exam T.me_Exam_refuse_behind_dealing (G_Exam_refuse_behind_dealing) (hr.mono (by first | decide | exact Nat.le_refl _)) T.b_Exam_refuse_behind_dealing .nil pass0))
      (pss_cons (ps_expr (pe_call (G_refuse_unknown) (hr.mono (by decide)) (by rfl) T.m_refuse_unknown T.F_refuse_unknown.kp T.b_refuse_unknown .nil pass0 (pa_cons (pv 1) (pa_cons pe_int (pa_cons (pe_glob (v := .int 6) (by rfl) T.v_MOST_HOUSES T.w_MOST_HOUSES) pa_nil)))))
      (pss_cons (ps_expr (pe_call (G_refuse_full) (hr.mono (by decide)) (by rfl) T.m_refuse_full T.F_refuse_full.kp T.b_refuse_full .nil pass0 (pa_cons (pe_callB (call_lenK (K := K) rfl) (by rfl) T.z_len (by rfl) (pa_cons (pe_fldK (K := K) rfl (pv 0)) pa_nil)) (pa_cons (pe_glob (v := .int 10) (by rfl) T.v_MOST_PAPERS T.w_MOST_PAPERS) pa_nil))))
      (pss_cons (ps_expr (pe_bmK (K := K) rfl PySem.F.plainAttrs_list PySem.F.slot_list_append PySem.F.type_list_append mt_append (pe_fldK (K := K) rfl (pv 0)) (pa_cons (pv 1) pa_nil)))
      (pss_one (ps_ret (pe_callB (call_lenK (K := K) rfl) (by rfl) T.z_len (by rfl) (pa_cons (pe_fldK (K := K) rfl (pv 0)) pa_nil)))))))), ?_⟩
    obtain ⟨_, x, F, st, h, rfl, E0, BB, hd, hp, q⟩ := h
    have E0' := E0
    obtain ⟨e, kvs, rfl, hF, I⟩ := E0
    have hcl := T.cl_Exam
    have nA := T.n_Exam_paper_houses
    have nB := T.n_Exam_reader_rows
    have nS := T.n_Exam_widest_step
    have nD := T.n_Exam_is_dealt
    have nC := T.n_Exam_named_readers
    have nE := T.n_Exam_entered_points
    have hob := I.ob
    have fA := @exFs_a (.ref e.a) (.ref e.b) (.int st.step) (.bl st.dl.isSome) (.ref e.c) (.ref e.d)
    have fB := @exFs_b (.ref e.a) (.ref e.b) (.int st.step) (.bl st.dl.isSome) (.ref e.c) (.ref e.d)
    have fS := @exFs_s (.ref e.a) (.ref e.b) (.int st.step) (.bl st.dl.isSome) (.ref e.c) (.ref e.d)
    have fD := @exFs_d (.ref e.a) (.ref e.b) (.int st.step) (.bl st.dl.isSome) (.ref e.c) (.ref e.d)
    have fC := @exFs_c (.ref e.a) (.ref e.b) (.int st.step) (.bl st.dl.isSome) (.ref e.c) (.ref e.d)
    have fE := @exFs_e (.ref e.a) (.ref e.b) (.int st.step) (.bl st.dl.isSome) (.ref e.c) (.ref e.d)
    have hha := I.ha
    have hhb := I.hb
    have hhc := I.hc
    have hhd := I.hd
    walk_at "rd"
    refine c_Exam_refuse_behind E0' hd ?_
    walk_at "rd"
    refine u_refuse_unknown (by omega) (by omega) ?_
    walk_at "rd"
    refine u_refuse_full (by omega) ?_
    walk_at "rd"
    refine leaf_append hha (by rw [List.length_map]; omega) fun H1 b1 e1 => ?_
    have I1 := I.paper hd b1 e1
    have hob := I1.ob
    have e1' := I1.ha
    walk_at "rd"
    have el : ((st.hs ++ [h]).length : Int) = (st.hs.length : Int) + 1 := by rw [List.length_append, List.length_singleton]; omega
    rw [el]
    exact q H1 F (ExFr.but b1 ((hF _).mpr own_a) fun b z => .inl z) ⟨e, kvs, rfl, hF, I1⟩
  exact TERM
theorem u_Exam_bring_paper {K : PySem.W.Frag} {C x : Addr} {H : Hp} {F : Addr → Prop} {st : ExS} {h : Int} {Q : VK} {E : XK} (hE : ExAt C H x F st) (B : InB st.hs st.rs) (hd : st.dl = none) (hp : (1 ≤ h ∧ h ≤ 6 ∧ st.hs.length < 10)) (q : ∀ H' F', ExFr H H' F F' → ExAt C H' x F' { st with hs := st.hs ++ [h] } → Q (.int ((st.hs.length : Int) + 1)) H') : sp_Exam_bring_paper K C [.ref x, .int h] H Q E := ⟨rfl, x, F, st, h, rfl, hE, B, hd, hp, q⟩
/-! def refuse_out_of_bounds -/
def sp_refuse_out_of_bounds (K : PySem.W.Frag) : Sp := fun vs H Q _ => vs.length = 2 ∧ ∃ n m : Int, vs = [.int n, .int m] ∧ 0 ≤ n ∧ n ≤ m ∧ Q .non H
theorem ok_refuse_out_of_bounds (T : Txt K mg t) : FnOk P w K mg base CX0 1 t.f_refuse_out_of_bounds t.d_refuse_out_of_bounds ["number", "most"] (sp_refuse_out_of_bounds K) := by
  refine T.F_refuse_out_of_bounds.ok sc_refuse_out_of_bounds (fun vs H Q E h => ?_) (fun cdv A outer s H vs Q E hr h => ?_)
  · exact (by obtain ⟨h, _⟩ := h; exact h)
  have TERM : ∃ t', PSs (cxOf CX0 P w K mg base ["number", "most"] "refuse_out_of_bounds" (defScope s_refuse_out_of_bounds) t.f_refuse_out_of_bounds cdv A outer s H E).nox (defBody s_refuse_out_of_bounds) t' ∧ t' ⟨fun _ H' => Q .non H', Q, fun _ _ => False, fun _ _ => False⟩ (start ["number", "most"] vs) H := by
    refine ⟨_, (pss_one (ps_if (pw_or (pt_cmpR (op_lt) (pv 0) pe_int (nomark _)) (pw_or1 (pt_cmpR (op_gt) (pv 0) (pv 1) (nomark _)))).pt
      (pss_one ps_never) pss_nil)), ?_⟩
    obtain ⟨_, n, m, rfl, h1, h2, q⟩ := h
    walk_at "rdk"
    exact q
  exact TERM
theorem u_refuse_out_of_bounds {H : Hp} {n m : Int} {Q : VK} {E : XK} (h1 : 0 ≤ n) (h2 : n ≤ m) (q : Q .non H) : sp_refuse_out_of_bounds K [.int n, .int m] H Q E := ⟨rfl, n, m, rfl, h1, h2, q⟩
/-! def Exam.bring_reader -/
def sp_Exam_bring_reader (K : PySem.W.Frag) (C : Addr) : Sp := fun vs H Q _ => vs.length = 3 ∧ ∃ (x : Addr) (F : Addr → Prop) (st : ExS) (h : Int) (l : Int), vs = [.ref x, .int h, .int l] ∧ ExAt C H x F st ∧ InB st.hs st.rs ∧ st.dl = none ∧ (0 ≤ h ∧ h ≤ 6 ∧ 0 ≤ l ∧ l ≤ 30 ∧ st.rs.length < 8) ∧ ∀ H' F', ExFr H H' F F' → ExAt C H' x F' { st with rs := st.rs ++ [[h, l]] } → Q (.int ((st.rs.length : Int) + 1)) H'
theorem ok_Exam_bring_reader (T : Txt K mg t) : FnOk P w K mg base CX0 2 t.f_Exam_bring_reader t.d_Exam_bring_reader ["self", "house", "limit"] (sp_Exam_bring_reader K t.C_Exam) := by
  have G_Exam_refuse_behind_dealing := ok_Exam_refuse_behind_dealing (P := P) (w := w) (base := base) T
  have G_refuse_unknown := ok_refuse_unknown (P := P) (w := w) (base := base) T
  have G_refuse_out_of_bounds := ok_refuse_out_of_bounds (P := P) (w := w) (base := base) T
  have G_refuse_full := ok_refuse_full (P := P) (w := w) (base := base) T
  refine T.F_Exam_bring_reader.ok sc_Exam_bring_reader (fun vs H Q E h => ?_) (fun cdv A outer s H vs Q E hr h => ?_)
  · exact (by obtain ⟨h, _⟩ := h; exact h)
  have TERM : ∃ t', PSs (cxOf CX0 P w K mg base ["self", "house", "limit"] "Exam.bring_reader" (defScope s_Exam_bring_reader) t.f_Exam_bring_reader cdv A outer s H E).nox (defBody s_Exam_bring_reader) t' ∧ t' ⟨fun _ H' => Q .non H', Q, fun _ _ => False, fun _ _ => False⟩ (start ["self", "house", "limit"] vs) H := by
    refine ⟨_, (pss_cons (ps_expr (pe_meth0 (pv 0) T.cl_Exam T.me_Exam_refuse_behind_dealing (G_Exam_refuse_behind_dealing) (hr.mono (by first | decide | exact Nat.le_refl _)) T.b_Exam_refuse_behind_dealing .nil pass0))
      (pss_cons (ps_expr (pe_call (G_refuse_unknown) (hr.mono (by decide)) (by rfl) T.m_refuse_unknown T.F_refuse_unknown.kp T.b_refuse_unknown .nil pass0 (pa_cons (pv 1) (pa_cons pe_int (pa_cons (pe_glob (v := .int 6) (by rfl) T.v_MOST_HOUSES T.w_MOST_HOUSES) pa_nil)))))
      (pss_cons (ps_expr (pe_call (G_refuse_out_of_bounds) (hr.mono (by decide)) (by rfl) T.m_refuse_out_of_bounds T.F_refuse_out_of_bounds.kp T.b_refuse_out_of_bounds .nil pass0 (pa_cons (pv 2) (pa_cons (pe_glob (v := .int 30) (by rfl) T.v_MOST_LIMIT T.w_MOST_LIMIT) pa_nil))))
      (pss_cons (ps_expr (pe_call (G_refuse_full) (hr.mono (by decide)) (by rfl) T.m_refuse_full T.F_refuse_full.kp T.b_refuse_full .nil pass0 (pa_cons (pe_callB (call_lenK (K := K) rfl) (by rfl) T.z_len (by rfl) (pa_cons (pe_fldK (K := K) rfl (pv 0)) pa_nil)) (pa_cons (pe_glob (v := .int 8) (by rfl) T.v_MOST_READERS T.w_MOST_READERS) pa_nil))))
      (pss_cons (ps_expr (pe_bmK (K := K) rfl PySem.F.plainAttrs_list PySem.F.slot_list_append PySem.F.type_list_append mt_append (pe_fldK (K := K) rfl (pv 0)) (pa_cons (pe_lst (pa_cons (pv 1) (pa_cons (pv 2) pa_nil))) pa_nil)))
      (pss_one (ps_ret (pe_callB (call_lenK (K := K) rfl) (by rfl) T.z_len (by rfl) (pa_cons (pe_fldK (K := K) rfl (pv 0)) pa_nil))))))))), ?_⟩
    obtain ⟨_, x, F, st, h, l, rfl, E0, BB, hd, hp, q⟩ := h
    have E0' := E0
    obtain ⟨e, kvs, rfl, hF, I⟩ := E0
    have hcl := T.cl_Exam
    have nA := T.n_Exam_paper_houses
    have nB := T.n_Exam_reader_rows
    have nS := T.n_Exam_widest_step
    have nD := T.n_Exam_is_dealt
    have nC := T.n_Exam_named_readers
    have nE := T.n_Exam_entered_points
    have hob := I.ob
    have fA := @exFs_a (.ref e.a) (.ref e.b) (.int st.step) (.bl st.dl.isSome) (.ref e.c) (.ref e.d)
    have fB := @exFs_b (.ref e.a) (.ref e.b) (.int st.step) (.bl st.dl.isSome) (.ref e.c) (.ref e.d)
    have fS := @exFs_s (.ref e.a) (.ref e.b) (.int st.step) (.bl st.dl.isSome) (.ref e.c) (.ref e.d)
    have fD := @exFs_d (.ref e.a) (.ref e.b) (.int st.step) (.bl st.dl.isSome) (.ref e.c) (.ref e.d)
    have fC := @exFs_c (.ref e.a) (.ref e.b) (.int st.step) (.bl st.dl.isSome) (.ref e.c) (.ref e.d)
    have fE := @exFs_e (.ref e.a) (.ref e.b) (.int st.step) (.bl st.dl.isSome) (.ref e.c) (.ref e.d)
    have hha := I.ha
    have hhb := I.hb
    have hhc := I.hc
    have hhd := I.hd
    have lp := I.lp
    walk_at "rd"
    refine c_Exam_refuse_behind E0' hd ?_
    walk_at "rd"
    refine u_refuse_unknown (by omega) (by omega) ?_
    walk_at "rd"
    refine u_refuse_out_of_bounds (by omega) (by omega) ?_
    walk_at "rd"
    refine u_refuse_full (by omega) ?_
    walk_at "rd"
    refine leaf_lst (by simp) fun r H1 f1 s1 e1 => ?_
    walk_at "rd"
    refine leaf_append (s1 _ _ hhb) (by rw [List.length_map]; omega) fun H2 b2 e2 => ?_
    have I1 : ExIn t.C_Exam H1 e st kvs := I.keep fun b o _ z => s1 b o z
    have I2 := I1.reader (row := [h, l]) (I.new f1) e1 b2 e2
    have hob := I2.ob
    have e1' := I2.hb
    walk_at "rd"
    have el : ((e.ps ++ [r]).length : Int) = (st.rs.length : Int) + 1 := by rw [List.length_append, List.length_singleton]; omega
    rw [el]
    refine q H2 _ ⟨fun b o eb nb => ?_, fun b z => ?_⟩ I2.at
    · rw [b2 _ (fun z => nb ((hF _).mpr (by rw [z]; exact own_b)))]
      exact s1 _ _ eb
    · rcases own_reader z with z | z
      · exact .inl ((hF b).mpr z)
      · exact .inr (z ▸ f1)
  exact TERM
theorem u_Exam_bring_reader {K : PySem.W.Frag} {C x : Addr} {H : Hp} {F : Addr → Prop} {st : ExS} {h : Int} {l : Int} {Q : VK} {E : XK} (hE : ExAt C H x F st) (B : InB st.hs st.rs) (hd : st.dl = none) (hp : (0 ≤ h ∧ h ≤ 6 ∧ 0 ≤ l ∧ l ≤ 30 ∧ st.rs.length < 8)) (q : ∀ H' F', ExFr H H' F F' → ExAt C H' x F' { st with rs := st.rs ++ [[h, l]] } → Q (.int ((st.rs.length : Int) + 1)) H') : sp_Exam_bring_reader K C [.ref x, .int h, .int l] H Q E := ⟨rfl, x, F, st, h, l, rfl, hE, B, hd, hp, q⟩
/-! def law -/
def sp_law (K : PySem.W.Frag) : Sp := fun vs H Q _ => vs.length = 1 ∧ ∃ (a : Addr) (ns : List Int), vs = [.ref a] ∧ SqL K H a (ns.map V.int) ∧ ns.length ≤ 63 ∧ ∀ H', Q (.bl true) H'
theorem ok_law (T : Txt K mg t) : FnOk P w K mg base CX0 7 t.f_law t.d_law ["_law_script"] (sp_law K) := by
  have G_Exam___init__ := ok_Exam___init__ (P := P) (w := w) (base := base) T
  have G_law_open := ok_law_open (P := P) (w := w) (base := base) T
  have G_law_at := ok_law_at (P := P) (w := w) (base := base) T
  have G_Exam_bring_paper := ok_Exam_bring_paper (P := P) (w := w) (base := base) T
  have G_Exam_bring_reader := ok_Exam_bring_reader (P := P) (w := w) (base := base) T
  have G_law_whole := ok_law_whole (P := P) (w := w) (base := base) T
  refine T.F_law.ok sc_law (fun vs H Q E h => ?_) (fun cdv A outer s H vs Q E hr h => ?_)
  · exact (by obtain ⟨h, _⟩ := h; exact h)
  have TERM : ∃ t', PSs (cxOf CX0 P w K mg base ["_law_script", "_law_exam", "_law_homes", "_law_staff", "_law_k", "_law_cell", "_law_found", "_law_due"] "law" (defScope s_law) t.f_law cdv A outer s H E).nox (defBody s_law) t' ∧ t' ⟨fun _ H' => Q .non H', Q, fun _ _ => False, fun _ _ => False⟩ (start ["_law_script", "_law_exam", "_law_homes", "_law_staff", "_law_k", "_law_cell", "_law_found", "_law_due"] vs) H := by
    refine ⟨_, (pss_cons (ps_set (i := 1) sc_law.nd rfl (by first | exact Or.inl rfl | exact Or.inr rfl) (pe_make0 T.mk_Exam (G_Exam___init__) (hr.mono (by decide)) (by rfl) T.mg_Exam T.b_Exam___init__ .nil pass0))
      (pss_cons (ps_set (i := 2) sc_law.nd rfl (by first | exact Or.inl rfl | exact Or.inr rfl) (pe_lst pa_nil))
      (pss_cons (ps_set (i := 3) sc_law.nd rfl (by first | exact Or.inl rfl | exact Or.inr rfl) (pe_lst pa_nil))
      (pss_cons (ps_if (pt_not (pt_truthK (K := K) rfl (pe_call (G_law_open) (hr.mono (by decide)) (by rfl) T.m_law_open T.F_law_open.kp T.b_law_open .nil pass0 (pa_cons (pv 1) (pa_cons (pv 2) (pa_cons (pv 3) (pa_cons pe_int pa_nil))))) (fun _ => rfl)))
      (pss_one (ps_ret pe_bl)) pss_nil)
      (pss_cons (ps_for PassesOwn.never rfl (pi_range1 (by rfl) T.z_range (pa_cons (pe_op (op_mod) (pe_call (G_law_at) (hr.mono (by decide)) (by rfl) T.m_law_at T.F_law_at.kp T.b_law_at .nil pass0 (pa_cons (pv 0) (pa_cons pe_int pa_nil))) pe_int) pa_nil)) (pg_name (i := 4) sc_law.nd rfl (by first | exact Or.inl rfl | exact Or.inr rfl))
      (pss_cons (ps_set (i := 5) sc_law.nd rfl (by first | exact Or.inl rfl | exact Or.inr rfl) (pe_call (G_law_at) (hr.mono (by decide)) (by rfl) T.m_law_at T.F_law_at.kp T.b_law_at .nil pass0 (pa_cons (pv 0) (pa_cons (pe_op (op_addG) pe_int (pv 4)) pa_nil))))
      (pss_cons (ps_set (i := 6) sc_law.nd rfl (by first | exact Or.inl rfl | exact Or.inr rfl) pe_int)
      (pss_cons (ps_set (i := 7) sc_law.nd rfl (by first | exact Or.inl rfl | exact Or.inr rfl) pe_int)
      (pss_cons (ps_if (pw_and (pt_cmpR (op_eqGL (K := K) rfl hr.units0) (pe_op (op_mod) (pv 5) pe_int) pe_int (nomark _)) (pw_and1 (pt_cmpR (op_lt) (pe_callB (call_lenK (K := K) rfl) (by rfl) T.z_len (by rfl) (pa_cons (pv 2) pa_nil)) pe_int (nomark _)))).pt
      (pss_cons (ps_expr (pe_bmK (K := K) rfl PySem.F.plainAttrs_list PySem.F.slot_list_append PySem.F.type_list_append mt_append (pv 2) (pa_cons (pe_op (op_addG) pe_int (pe_op (op_mod) (pe_op (op_fdivB) (pv 5) pe_int) pe_int)) pa_nil)))
      (pss_cons (ps_set (i := 6) sc_law.nd rfl (by first | exact Or.inl rfl | exact Or.inr rfl) (pe_meth (pv 1) T.cl_Exam T.me_Exam_bring_paper (G_Exam_bring_paper) (hr.mono (by first | decide | exact Nat.le_refl _)) T.b_Exam_bring_paper .nil pass0 (pa_cons (pe_ix (ix_listK (K := K) rfl) (pv 2) (pe_un un_neg pe_int) (fun _ _ => rfl)) pa_nil)))
      (pss_one (ps_set (i := 7) sc_law.nd rfl (by first | exact Or.inl rfl | exact Or.inr rfl) (pe_callB (call_lenK (K := K) rfl) (by rfl) T.z_len (by rfl) (pa_cons (pv 2) pa_nil)))))) (pss_one (ps_if (pt_cmpR (op_lt) (pe_callB (call_lenK (K := K) rfl) (by rfl) T.z_len (by rfl) (pa_cons (pv 3) pa_nil)) pe_int (nomark _))
      (pss_cons (ps_expr (pe_bmK (K := K) rfl PySem.F.plainAttrs_list PySem.F.slot_list_append PySem.F.type_list_append mt_append (pv 3) (pa_cons (pe_lst (pa_cons (pe_op (op_mod) (pe_op (op_fdivB) (pv 5) pe_int) pe_int) (pa_cons (pe_op (op_mod) (pe_op (op_fdivB) (pv 5) pe_int) pe_int) pa_nil))) pa_nil)))
      (pss_cons (ps_set (i := 6) sc_law.nd rfl (by first | exact Or.inl rfl | exact Or.inr rfl) (pe_meth (pv 1) T.cl_Exam T.me_Exam_bring_reader (G_Exam_bring_reader) (hr.mono (by first | decide | exact Nat.le_refl _)) T.b_Exam_bring_reader .nil pass0 (pa_cons (pe_ix (ix_listK (K := K) rfl) (pe_ix (ix_listK (K := K) rfl) (pv 3) (pe_un un_neg pe_int) (fun _ _ => rfl)) pe_int (fun _ _ => rfl)) (pa_cons (pe_ix (ix_listK (K := K) rfl) (pe_ix (ix_listK (K := K) rfl) (pv 3) (pe_un un_neg pe_int) (fun _ _ => rfl)) pe_int (fun _ _ => rfl)) pa_nil))))
      (pss_one (ps_set (i := 7) sc_law.nd rfl (by first | exact Or.inl rfl | exact Or.inr rfl) (pe_callB (call_lenK (K := K) rfl) (by rfl) T.z_len (by rfl) (pa_cons (pv 3) pa_nil)))))) pss_nil)))
      (pss_cons (ps_if (pw_or (pt_not (pt_truthK (K := K) rfl (pe_call (G_law_whole) (hr.mono (by decide)) (by rfl) T.m_law_whole T.F_law_whole.kp T.b_law_whole .nil pass0 (pa_cons (pv 6) pa_nil)) (fun _ => rfl))) (pw_or1 (pt_cmpR (op_neG (K := K) rfl) (pv 6) (pv 7) (nomark _)))).pt
      (pss_one (ps_ret pe_bl)) pss_nil)
      (pss_one (ps_if (pt_not (pt_truthK (K := K) rfl (pe_call (G_law_open) (hr.mono (by decide)) (by rfl) T.m_law_open T.F_law_open.kp T.b_law_open .nil pass0 (pa_cons (pv 1) (pa_cons (pv 2) (pa_cons (pv 3) (pa_cons pe_int pa_nil))))) (fun _ => rfl)))
      (pss_one (ps_ret pe_bl)) pss_nil))))))))
      (pss_one (ps_ret pe_bl))))))), ?_⟩
    obtain ⟨_, a, ns, rfl, hS, hl, q⟩ := h
    walk_at "rd"
    refine leaf_make fun x dx H1 fx fdx ne s1 ex => ?_
    refine u_Exam_init ex fun H2 F k2 fF E2 => ⟨rfl, ?_⟩
    have S2 : Same H H2 := fun b o e => k2 b o (s1 b o e) (fun z => by rw [z, fx] at e; cases e) (fun z => by rw [z, fdx] at e; cases e)
    have nF : ∀ b o, H b = some o → ¬ F b := fun b o e z => by
      rcases fF b z with z | z | z
      · rw [z, fx] at e; cases e
      · rw [z, fdx] at e; cases e
      · rw [s1 b o e] at z; cases z
    have hS2 : SqO K H2 F a (ns.map V.int) := (SqO.of hS nF).same S2
    walk_at "rd"
    refine leaf_lst (by decide) fun p3 H3 f3 s3 e3 => ?_
    have E3 := E2.same s3
    have hS3 := hS2.same s3
    have o3 : ¬ F p3 := E2.new f3
    walk_at "rd"
    refine leaf_lst (by decide) fun p4 H4 f4 s4 e4 => ?_
    have E4 := E3.same s4
    have hS4 := hS3.same s4
    have o4 : ¬ F p4 := E3.new f4
    have hne : p3 ≠ p4 := ne_of_none e3 f4
    walk_at "rd"
    have B0 : InB ([] : List Int) [] := ⟨by decide, by decide, fun i hi => absurd hi (by simp), fun i hi => absurd hi (by simp), fun i hi => absurd hi (by simp), fun i hi => absurd hi (by simp)⟩
    have I3 : IntsO H4 F p3 [] := ⟨s4 _ _ e3, o3⟩
    have I4 : RowsO H4 F p4 [] [] := ⟨e4, o4, rfl, fun i hi => absurd hi (by simp)⟩
    have T4 : Brt t.C_Exam H H4 x p3 p4 F ⟨[], [], 0, none⟩ [] := ⟨(S2.trans s3).trans s4, nF, E4, B0, rfl, I3, I4, S2.free f3, S2.free (s3.free f4), hne, fun i hi => absurd hi (by simp), fun i hi => absurd hi (by simp)⟩
    refine u_law_open (st := ⟨[], [], 0, none⟩) E4 B0 rfl I3 I4 rfl fun H5 s5 => ?_
    have T5 := T4.grow s5
    have hSl5 := T5.same.seq hS
    walk_at "rd"
    refine iteF ?_
    walk_at "rd"
    have hm : 0 ≤ lawAt ns 0 % 25 ∧ lawAt ns 0 % 25 < 25 := by omega
    refine r_rng1 (by omega) (by omega) ?_
    refine r_forR (fun i σ H' => ∃ F st ps v4 v5 v6 v7, σ = [some (.ref a), some (.ref x), some (.ref p3), some (.ref p4), v4, v5, v6, v7] ∧ Brt t.C_Exam H H' x p3 p4 F st ps ∧ st.step = 0) ⟨F, _, [], none, none, none, none, rfl, T5, rfl⟩ ?_ ?_
    · rintro i σ H' hi ⟨F', st, ps, v4, v5, v6, v7, rfl, T', hst⟩
      have hS' := T'.same.seq hS
      have BB := T'.inb
      have B1 := BB.lp
      have B2 := BB.lr
      have eh := T'.ih.1
      obtain ⟨er, _, lps, _⟩ := T'.ir
      have hcl := T.cl_Exam
      obtain ⟨dx', fs', hob', hlk'⟩ := T'.ex.ob
      walk_at "st"
      refine r_seq ?_
      walk_at "st"
      refine r_seq ?_
      walk_at "st"
      refine r_seq ?_
      walk_at "st"
      generalize hc : lawAt ns (1 + (0 + (i : Int))) = c at *
      refine seq_cut (fun σ H' => ∃ (F : Addr → Prop) (st : ExS) (ps : List Addr) (n : Int), σ = [some (.ref a), some (.ref x), some (.ref p3), some (.ref p4), some (.int (0 + (i : Int))), some (.int c), some (.int n), some (.int n)] ∧ Brt t.C_Exam H H' x p3 p4 F st ps ∧ st.step = 0) ?_ ?_
      · intro nx' hnx
        walk_at "rd"
        by_cases hg : c % 2 = 0 ∧ (st.hs.length : Int) < 10
        · rw [decide_eq_true hg.1]
          refine iteT ?_
          walk_at "rd"
          rw [decide_eq_true hg.2]
          refine iteT ?_
          walk_at "rd"
          refine leaf_append eh (by rw [List.length_map]; omega) fun H1 b1 e1 => ?_
          generalize hh : 1 + c / 2 % 6 = h at *
          have hhr : 1 ≤ h ∧ h ≤ 6 := by omega
          have e1' : H1 p3 = some (.lst ((st.hs ++ [h]).map V.int)) := by rw [e1, List.map_append]; rfl
          have E1 := (T'.paper (H2 := H1) (F' := F') b1 e1' (by omega) hhr).1
          obtain ⟨dx1, fs1, hob1, hlk1⟩ := E1.ob
          walk_at "rd"
          refine leaf_meth hob1 (hlk1 _ (by decide +kernel)) ?_
          walk_at "rd"
          refine r_ixL (SqL.of e1) atI_last ?_
          walk_at "rd"
          refine u_Exam_bring_paper E1 BB T'.op ⟨hhr.1, hhr.2, by omega⟩ fun H2 F2 f2 E2 => ?_
          have T2 := (T'.paper b1 e1' (by omega) hhr).2 f2 E2
          have eh2 : H2 p3 = some (.lst ((st.hs ++ [h]).map V.int)) := T2.ih.1
          have hlen : ((st.hs ++ [h]).length : Int) = (st.hs.length : Int) + 1 := by rw [List.length_append, List.length_singleton]; omega
          walk_at "rd"
          rw [hlen]
          exact hnx _ _ ⟨F2, _, ps, _, rfl, T2, hst⟩
        · refine ite_d (fun h1 => ?_) (fun h1 => ?_)
          · walk_at "rd"
            rw [decide_eq_false (show ¬ (st.hs.length : Int) < 10 from fun z => hg ⟨h1, z⟩)]
            refine iteF ?_
            walk_at "rd"
            refine ite_d (fun h2 => ?_) (fun h2 => ?_)
            · walk_at "rd"
              refine leaf_lst (by simp) fun r1 H1 f1 s1 e1 => ?_
              walk_at "rd"
              refine leaf_append (s1 _ _ er) (by rw [List.length_map]; omega) fun H2 b2 e2 => ?_
              have h7 : 0 ≤ c / 2 % 7 ∧ c / 2 % 7 ≤ 6 := by omega
              have h31 : 0 ≤ c / 14 % 31 ∧ c / 14 % 31 ≤ 30 := by omega
              generalize c / 2 % 7 = h at *
              generalize c / 14 % 31 = l at *
              obtain ⟨E2, er2, _⟩ := T'.reader (H3 := H2) (F' := F') f1 s1 e1 b2 e2 (by omega) h7 h31
              obtain ⟨dx1, fs1, hob1, hlk1⟩ := E2.ob
              walk_at "rd"
              refine leaf_meth hob1 (hlk1 _ (by decide +kernel)) ?_
              walk_at "rd"
              refine r_ixL (SqL.of e2) atI_last ?_
              walk_at "rd"
              refine r_ixL (SqL.of e2) atI_last ?_
              walk_at "rd"
              refine u_Exam_bring_reader E2 BB T'.op ⟨h7.1, h7.2, h31.1, h31.2, by omega⟩ fun H3 F3 f3 E3 => ?_
              have T3 := (T'.reader f1 s1 e1 b2 e2 (by omega) h7 h31).2.2 f3 E3
              have er3 := T3.ir.1
              have hlen : ((ps ++ [r1]).length : Int) = (st.rs.length : Int) + 1 := by rw [List.length_append, List.length_singleton]; omega
              walk_at "rd"
              rw [hlen]
              exact hnx _ _ ⟨F3, _, _, _, rfl, T3, hst⟩
            · walk_at "rd"
              exact hnx _ _ ⟨F', st, ps, 0, rfl, T', hst⟩
          · refine iteF ?_
            walk_at "rd"
            refine ite_d (fun h2 => ?_) (fun h2 => ?_)
            · walk_at "rd"
              refine leaf_lst (by simp) fun r1 H1 f1 s1 e1 => ?_
              walk_at "rd"
              refine leaf_append (s1 _ _ er) (by rw [List.length_map]; omega) fun H2 b2 e2 => ?_
              have h7 : 0 ≤ c / 2 % 7 ∧ c / 2 % 7 ≤ 6 := by omega
              have h31 : 0 ≤ c / 14 % 31 ∧ c / 14 % 31 ≤ 30 := by omega
              generalize c / 2 % 7 = h at *
              generalize c / 14 % 31 = l at *
              obtain ⟨E2, er2, _⟩ := T'.reader (H3 := H2) (F' := F') f1 s1 e1 b2 e2 (by omega) h7 h31
              obtain ⟨dx1, fs1, hob1, hlk1⟩ := E2.ob
              walk_at "rd"
              refine leaf_meth hob1 (hlk1 _ (by decide +kernel)) ?_
              walk_at "rd"
              refine r_ixL (SqL.of e2) atI_last ?_
              walk_at "rd"
              refine r_ixL (SqL.of e2) atI_last ?_
              walk_at "rd"
              refine u_Exam_bring_reader E2 BB T'.op ⟨h7.1, h7.2, h31.1, h31.2, by omega⟩ fun H3 F3 f3 E3 => ?_
              have T3 := (T'.reader f1 s1 e1 b2 e2 (by omega) h7 h31).2.2 f3 E3
              have er3 := T3.ir.1
              have hlen : ((ps ++ [r1]).length : Int) = (st.rs.length : Int) + 1 := by rw [List.length_append, List.length_singleton]; omega
              walk_at "rd"
              rw [hlen]
              exact hnx _ _ ⟨F3, _, _, _, rfl, T3, hst⟩
            · walk_at "rd"
              exact hnx _ _ ⟨F', st, ps, 0, rfl, T', hst⟩
      · rintro σ H2 ⟨F2, st2, ps2, n, rfl, T2, hst2⟩
        walk_at "rd"
        refine iteF ?_
        walk_at "rd"
        rw [decide_eq_true (rfl : n = n)]
        refine iteF ?_
        walk_at "rd"
        refine u_law_open T2.ex T2.inb T2.op T2.ih T2.ir hst2.symm fun H3 s3 => ?_
        walk_at "rd"
        refine iteF ?_
        walk_at "rd"
        exact ⟨F2, st2, ps2, _, _, _, _, rfl, T2.grow s3, hst2⟩
    · rintro σ H' ⟨F', st, ps, v4, v5, v6, v7, rfl, T', hst⟩
      walk_at "rd"
      exact q _
  exact TERM
theorem law_start {a : Addr} {ns : List Int} {H : Hp} (hl : ns.length ≤ 63) (hS : SqL K H a (ns.map V.int)) : sp_law K [.ref a] H (fun v _ => v = .bl true) fun _ _ _ => False := ⟨rfl, a, ns, rfl, hS, hl, fun _ => rfl⟩
end
theorem all_mk {l : PySem.W.OpenLaw} {w : World} {K : PySem.W.Frag} {h : Heap} {mg : Str → Option Value} {fa : Addr} (X : K.In h) (G : h.Ns mainGlobals mg) (hfa : mg "law" = some (.ref fa))
    {C_Exam : Addr} (aC_Exam : PySem.W.nsIn K mainGlobals "Exam" = some (some (.ref C_Exam)))
    {f0 : Addr} {od0 an0 : Option Addr} {sl0 : Array (Option Value)} {oc0 kV0 dc0 pm0 cd0 ct0 : Value}
    {f1 : Addr} {od1 an1 : Option Addr} {sl1 : Array (Option Value)} {oc1 kV1 dc1 pm1 cd1 ct1 : Value}
    {f2 : Addr} {od2 an2 : Option Addr} {sl2 : Array (Option Value)} {oc2 kV2 dc2 pm2 cd2 ct2 : Value}
    {f3 : Addr} {od3 an3 : Option Addr} {sl3 : Array (Option Value)} {oc3 kV3 dc3 pm3 cd3 ct3 : Value}
    {f4 : Addr} {od4 an4 : Option Addr} {sl4 : Array (Option Value)} {oc4 kV4 dc4 pm4 cd4 ct4 : Value}
    {f5 : Addr} {od5 an5 : Option Addr} {sl5 : Array (Option Value)} {oc5 kV5 dc5 pm5 cd5 ct5 : Value}
    {f6 : Addr} {od6 an6 : Option Addr} {sl6 : Array (Option Value)} {oc6 kV6 dc6 pm6 cd6 ct6 : Value}
    {f7 : Addr} {od7 an7 : Option Addr} {sl7 : Array (Option Value)} {oc7 kV7 dc7 pm7 cd7 ct7 : Value}
    {f8 : Addr} {od8 an8 : Option Addr} {sl8 : Array (Option Value)} {oc8 kV8 dc8 pm8 cd8 ct8 : Value}
    {f9 : Addr} {od9 an9 : Option Addr} {sl9 : Array (Option Value)} {oc9 kV9 dc9 pm9 cd9 ct9 : Value}
    {f10 : Addr} {od10 an10 : Option Addr} {sl10 : Array (Option Value)} {oc10 kV10 dc10 pm10 cd10 ct10 : Value}
    {f11 : Addr} {od11 an11 : Option Addr} {sl11 : Array (Option Value)} {oc11 kV11 dc11 pm11 cd11 ct11 : Value}
    {f12 : Addr} {od12 an12 : Option Addr} {sl12 : Array (Option Value)} {oc12 kV12 dc12 pm12 cd12 ct12 : Value}
    {f13 : Addr} {od13 an13 : Option Addr} {sl13 : Array (Option Value)} {oc13 kV13 dc13 pm13 cd13 ct13 : Value}
    {f14 : Addr} {od14 an14 : Option Addr} {sl14 : Array (Option Value)} {oc14 kV14 dc14 pm14 cd14 ct14 : Value}
    {f15 : Addr} {od15 an15 : Option Addr} {sl15 : Array (Option Value)} {oc15 kV15 dc15 pm15 cd15 ct15 : Value}
    {f16 : Addr} {od16 an16 : Option Addr} {sl16 : Array (Option Value)} {oc16 kV16 dc16 pm16 cd16 ct16 : Value}
    {f17 : Addr} {od17 an17 : Option Addr} {sl17 : Array (Option Value)} {oc17 kV17 dc17 pm17 cd17 ct17 : Value}
    {f18 : Addr} {od18 an18 : Option Addr} {sl18 : Array (Option Value)} {oc18 kV18 dc18 pm18 cd18 ct18 : Value}
    {f19 : Addr} {od19 an19 : Option Addr} {sl19 : Array (Option Value)} {oc19 kV19 dc19 pm19 cd19 ct19 : Value}
    {f20 : Addr} {od20 an20 : Option Addr} {sl20 : Array (Option Value)} {oc20 kV20 dc20 pm20 cd20 ct20 : Value}
    {f21 : Addr} {od21 an21 : Option Addr} {sl21 : Array (Option Value)} {oc21 kV21 dc21 pm21 cd21 ct21 : Value}
    {f22 : Addr} {od22 an22 : Option Addr} {sl22 : Array (Option Value)} {oc22 kV22 dc22 pm22 cd22 ct22 : Value}
    {f23 : Addr} {od23 an23 : Option Addr} {sl23 : Array (Option Value)} {oc23 kV23 dc23 pm23 cd23 ct23 : Value}
    {f24 : Addr} {od24 an24 : Option Addr} {sl24 : Array (Option Value)} {oc24 kV24 dc24 pm24 cd24 ct24 : Value}
    {f25 : Addr} {od25 an25 : Option Addr} {sl25 : Array (Option Value)} {oc25 kV25 dc25 pm25 cd25 ct25 : Value}
    {f26 : Addr} {od26 an26 : Option Addr} {sl26 : Array (Option Value)} {oc26 kV26 dc26 pm26 cd26 ct26 : Value}
    {f27 : Addr} {od27 an27 : Option Addr} {sl27 : Array (Option Value)} {oc27 kV27 dc27 pm27 cd27 ct27 : Value}
    {f28 : Addr} {od28 an28 : Option Addr} {sl28 : Array (Option Value)} {oc28 kV28 dc28 pm28 cd28 ct28 : Value}
    {f29 : Addr} {od29 an29 : Option Addr} {sl29 : Array (Option Value)} {oc29 kV29 dc29 pm29 cd29 ct29 : Value}
    {f30 : Addr} {od30 an30 : Option Addr} {sl30 : Array (Option Value)} {oc30 kV30 dc30 pm30 cd30 ct30 : Value}
    {f31 : Addr} {od31 an31 : Option Addr} {sl31 : Array (Option Value)} {oc31 kV31 dc31 pm31 cd31 ct31 : Value}
    {f32 : Addr} {od32 an32 : Option Addr} {sl32 : Array (Option Value)} {oc32 kV32 dc32 pm32 cd32 ct32 : Value}
    {tk_MOST_HOUSES : Tok}
    {tk_MOST_PAPERS : Tok}
    {tk_MOST_LIMIT : Tok}
    {tk_MOST_READERS : Tok}
    (a0 : PySem.W.findIn K (.ref C_Exam) "__init__" = some (some (.ref f0))) (i0 : PySem.W.isFn K (.ref f0) = true) (l0 : K.lookup f0 = some ⟨oc0, od0, .func (PySem.W.fnOf "__init__" "Exam.__init__" (defArgs s_Exam___init__) (defBody s_Exam___init__) (defScope s_Exam___init__) .none kV0 dc0 pm0 an0 cd0 ct0), sl0⟩) (c0 : PySem.W.codeIn K cd0 "Exam.__init__" = true) (k0 : PySem.W.keepIn K (.ref f0) = true)
    (a1 : PySem.W.nsIn K mainGlobals "_law_whole" = some (some (.ref f1))) (l1 : K.lookup f1 = some ⟨oc1, od1, .func (PySem.W.fnOf "_law_whole" "_law_whole" (defArgs s_law_whole) (defBody s_law_whole) (defScope s_law_whole) .none kV1 dc1 pm1 an1 cd1 ct1), sl1⟩) (c1 : PySem.W.codeIn K cd1 "_law_whole" = true) (k1 : PySem.W.keepIn K (.ref f1) = true)
    (a2 : PySem.W.nsIn K mainGlobals "_law_row" = some (some (.ref f2))) (l2 : K.lookup f2 = some ⟨oc2, od2, .func (PySem.W.fnOf "_law_row" "_law_row" (defArgs s_law_row) (defBody s_law_row) (defScope s_law_row) .none kV2 dc2 pm2 an2 cd2 ct2), sl2⟩) (c2 : PySem.W.codeIn K cd2 "_law_row" = true) (k2 : PySem.W.keepIn K (.ref f2) = true)
    (a3 : PySem.W.nsIn K mainGlobals "_law_rows" = some (some (.ref f3))) (l3 : K.lookup f3 = some ⟨oc3, od3, .func (PySem.W.fnOf "_law_rows" "_law_rows" (defArgs s_law_rows) (defBody s_law_rows) (defScope s_law_rows) .none kV3 dc3 pm3 an3 cd3 ct3), sl3⟩) (c3 : PySem.W.codeIn K cd3 "_law_rows" = true) (k3 : PySem.W.keepIn K (.ref f3) = true)
    (a4 : PySem.W.findIn K (.ref C_Exam) "readers" = some (some (.ref f4))) (i4 : PySem.W.isFn K (.ref f4) = true) (l4 : K.lookup f4 = some ⟨oc4, od4, .func (PySem.W.fnOf "readers" "Exam.readers" (defArgs s_Exam_readers) (defBody s_Exam_readers) (defScope s_Exam_readers) .none kV4 dc4 pm4 an4 cd4 ct4), sl4⟩) (c4 : PySem.W.codeIn K cd4 "Exam.readers" = true) (k4 : PySem.W.keepIn K (.ref f4) = true)
    (a5 : PySem.W.findIn K (.ref C_Exam) "papers" = some (some (.ref f5))) (i5 : PySem.W.isFn K (.ref f5) = true) (l5 : K.lookup f5 = some ⟨oc5, od5, .func (PySem.W.fnOf "papers" "Exam.papers" (defArgs s_Exam_papers) (defBody s_Exam_papers) (defScope s_Exam_papers) .none kV5 dc5 pm5 an5 cd5 ct5), sl5⟩) (c5 : PySem.W.codeIn K cd5 "Exam.papers" = true) (k5 : PySem.W.keepIn K (.ref f5) = true)
    (a6 : PySem.W.findIn K (.ref C_Exam) "due_readers" = some (some (.ref f6))) (i6 : PySem.W.isFn K (.ref f6) = true) (l6 : K.lookup f6 = some ⟨oc6, od6, .func (PySem.W.fnOf "due_readers" "Exam.due_readers" (defArgs s_Exam_due_readers) (defBody s_Exam_due_readers) (defScope s_Exam_due_readers) .none kV6 dc6 pm6 an6 cd6 ct6), sl6⟩) (c6 : PySem.W.codeIn K cd6 "Exam.due_readers" = true) (k6 : PySem.W.keepIn K (.ref f6) = true)
    (a7 : PySem.W.findIn K (.ref C_Exam) "due" = some (some (.ref f7))) (i7 : PySem.W.isFn K (.ref f7) = true) (l7 : K.lookup f7 = some ⟨oc7, od7, .func (PySem.W.fnOf "due" "Exam.due" (defArgs s_Exam_due) (defBody s_Exam_due) (defScope s_Exam_due) .none kV7 dc7 pm7 an7 cd7 ct7), sl7⟩) (c7 : PySem.W.codeIn K cd7 "Exam.due" = true) (k7 : PySem.W.keepIn K (.ref f7) = true)
    (a8 : PySem.W.nsIn K mainGlobals "times_in" = some (some (.ref f8))) (l8 : K.lookup f8 = some ⟨oc8, od8, .func (PySem.W.fnOf "times_in" "times_in" (defArgs s_times_in) (defBody s_times_in) (defScope s_times_in) .none kV8 dc8 pm8 an8 cd8 ct8), sl8⟩) (c8 : PySem.W.codeIn K cd8 "times_in" = true) (k8 : PySem.W.keepIn K (.ref f8) = true)
    (a9 : PySem.W.nsIn K mainGlobals "left_after" = some (some (.ref f9))) (l9 : K.lookup f9 = some ⟨oc9, od9, .func (PySem.W.fnOf "left_after" "left_after" (defArgs s_left_after) (defBody s_left_after) (defScope s_left_after) .none kV9 dc9 pm9 an9 cd9 ct9), sl9⟩) (c9 : PySem.W.codeIn K cd9 "left_after" = true) (k9 : PySem.W.keepIn K (.ref f9) = true)
    (a10 : PySem.W.findIn K (.ref C_Exam) "left" = some (some (.ref f10))) (i10 : PySem.W.isFn K (.ref f10) = true) (l10 : K.lookup f10 = some ⟨oc10, od10, .func (PySem.W.fnOf "left" "Exam.left" (defArgs s_Exam_left) (defBody s_Exam_left) (defScope s_Exam_left) .none kV10 dc10 pm10 an10 cd10 ct10), sl10⟩) (c10 : PySem.W.codeIn K cd10 "Exam.left" = true) (k10 : PySem.W.keepIn K (.ref f10) = true)
    (a11 : PySem.W.findIn K (.ref C_Exam) "step" = some (some (.ref f11))) (i11 : PySem.W.isFn K (.ref f11) = true) (l11 : K.lookup f11 = some ⟨oc11, od11, .func (PySem.W.fnOf "step" "Exam.step" (defArgs s_Exam_step) (defBody s_Exam_step) (defScope s_Exam_step) .none kV11 dc11 pm11 an11 cd11 ct11), sl11⟩) (c11 : PySem.W.codeIn K cd11 "Exam.step" = true) (k11 : PySem.W.keepIn K (.ref f11) = true)
    (a12 : PySem.W.nsIn K mainGlobals "_law_none" = some (some (.ref f12))) (l12 : K.lookup f12 = some ⟨oc12, od12, .func (PySem.W.fnOf "_law_none" "_law_none" (defArgs s_law_none) (defBody s_law_none) (defScope s_law_none) .none kV12 dc12 pm12 an12 cd12 ct12), sl12⟩) (c12 : PySem.W.codeIn K cd12 "_law_none" = true) (k12 : PySem.W.keepIn K (.ref f12) = true)
    (a13 : PySem.W.findIn K (.ref C_Exam) "points_for" = some (some (.ref f13))) (i13 : PySem.W.isFn K (.ref f13) = true) (l13 : K.lookup f13 = some ⟨oc13, od13, .func (PySem.W.fnOf "points_for" "Exam.points_for" (defArgs s_Exam_points_for) (defBody s_Exam_points_for) (defScope s_Exam_points_for) .none kV13 dc13 pm13 an13 cd13 ct13), sl13⟩) (c13 : PySem.W.codeIn K cd13 "Exam.points_for" = true) (k13 : PySem.W.keepIn K (.ref f13) = true)
    (a14 : PySem.W.nsIn K mainGlobals "greatest_divisor" = some (some (.ref f14))) (l14 : K.lookup f14 = some ⟨oc14, od14, .func (PySem.W.fnOf "greatest_divisor" "greatest_divisor" (defArgs s_greatest_divisor) (defBody s_greatest_divisor) (defScope s_greatest_divisor) .none kV14 dc14 pm14 an14 cd14 ct14), sl14⟩) (c14 : PySem.W.codeIn K cd14 "greatest_divisor" = true) (k14 : PySem.W.keepIn K (.ref f14) = true)
    (a15 : PySem.W.nsIn K mainGlobals "lowest" = some (some (.ref f15))) (l15 : K.lookup f15 = some ⟨oc15, od15, .func (PySem.W.fnOf "lowest" "lowest" (defArgs s_lowest) (defBody s_lowest) (defScope s_lowest) .none kV15 dc15 pm15 an15 cd15 ct15), sl15⟩) (c15 : PySem.W.codeIn K cd15 "lowest" = true) (k15 : PySem.W.keepIn K (.ref f15) = true)
    (a16 : PySem.W.nsIn K mainGlobals "middle_of" = some (some (.ref f16))) (l16 : K.lookup f16 = some ⟨oc16, od16, .func (PySem.W.fnOf "middle_of" "middle_of" (defArgs s_middle_of) (defBody s_middle_of) (defScope s_middle_of) .none kV16 dc16 pm16 an16 cd16 ct16), sl16⟩) (c16 : PySem.W.codeIn K cd16 "middle_of" = true) (k16 : PySem.W.keepIn K (.ref f16) = true)
    (a17 : PySem.W.nsIn K mainGlobals "agree" = some (some (.ref f17))) (l17 : K.lookup f17 = some ⟨oc17, od17, .func (PySem.W.fnOf "agree" "agree" (defArgs s_agree) (defBody s_agree) (defScope s_agree) .none kV17 dc17 pm17 an17 cd17 ct17), sl17⟩) (c17 : PySem.W.codeIn K cd17 "agree" = true) (k17 : PySem.W.keepIn K (.ref f17) = true)
    (a18 : PySem.W.nsIn K mainGlobals "mark_of" = some (some (.ref f18))) (l18 : K.lookup f18 = some ⟨oc18, od18, .func (PySem.W.fnOf "mark_of" "mark_of" (defArgs s_mark_of) (defBody s_mark_of) (defScope s_mark_of) .none kV18 dc18 pm18 an18 cd18 ct18), sl18⟩) (c18 : PySem.W.codeIn K cd18 "mark_of" = true) (k18 : PySem.W.keepIn K (.ref f18) = true)
    (a19 : PySem.W.findIn K (.ref C_Exam) "mark_for" = some (some (.ref f19))) (i19 : PySem.W.isFn K (.ref f19) = true) (l19 : K.lookup f19 = some ⟨oc19, od19, .func (PySem.W.fnOf "mark_for" "Exam.mark_for" (defArgs s_Exam_mark_for) (defBody s_Exam_mark_for) (defScope s_Exam_mark_for) .none kV19 dc19 pm19 an19 cd19 ct19), sl19⟩) (c19 : PySem.W.codeIn K cd19 "Exam.mark_for" = true) (k19 : PySem.W.keepIn K (.ref f19) = true)
    (a20 : PySem.W.findIn K (.ref C_Exam) "marks" = some (some (.ref f20))) (i20 : PySem.W.isFn K (.ref f20) = true) (l20 : K.lookup f20 = some ⟨oc20, od20, .func (PySem.W.fnOf "marks" "Exam.marks" (defArgs s_Exam_marks) (defBody s_Exam_marks) (defScope s_Exam_marks) .none kV20 dc20 pm20 an20 cd20 ct20), sl20⟩) (c20 : PySem.W.codeIn K cd20 "Exam.marks" = true) (k20 : PySem.W.keepIn K (.ref f20) = true)
    (a21 : PySem.W.nsIn K mainGlobals "_law_truth" = some (some (.ref f21))) (l21 : K.lookup f21 = some ⟨oc21, od21, .func (PySem.W.fnOf "_law_truth" "_law_truth" (defArgs s_law_truth) (defBody s_law_truth) (defScope s_law_truth) .none kV21 dc21 pm21 an21 cd21 ct21), sl21⟩) (c21 : PySem.W.codeIn K cd21 "_law_truth" = true) (k21 : PySem.W.keepIn K (.ref f21) = true)
    (a22 : PySem.W.findIn K (.ref C_Exam) "dealt" = some (some (.ref f22))) (i22 : PySem.W.isFn K (.ref f22) = true) (l22 : K.lookup f22 = some ⟨oc22, od22, .func (PySem.W.fnOf "dealt" "Exam.dealt" (defArgs s_Exam_dealt) (defBody s_Exam_dealt) (defScope s_Exam_dealt) .none kV22 dc22 pm22 an22 cd22 ct22), sl22⟩) (c22 : PySem.W.codeIn K cd22 "Exam.dealt" = true) (k22 : PySem.W.keepIn K (.ref f22) = true)
    (a23 : PySem.W.findIn K (.ref C_Exam) "dealing" = some (some (.ref f23))) (i23 : PySem.W.isFn K (.ref f23) = true) (l23 : K.lookup f23 = some ⟨oc23, od23, .func (PySem.W.fnOf "dealing" "Exam.dealing" (defArgs s_Exam_dealing) (defBody s_Exam_dealing) (defScope s_Exam_dealing) .none kV23 dc23 pm23 an23 cd23 ct23), sl23⟩) (c23 : PySem.W.codeIn K cd23 "Exam.dealing" = true) (k23 : PySem.W.keepIn K (.ref f23) = true)
    (a24 : PySem.W.nsIn K mainGlobals "_law_open" = some (some (.ref f24))) (l24 : K.lookup f24 = some ⟨oc24, od24, .func (PySem.W.fnOf "_law_open" "_law_open" (defArgs s_law_open) (defBody s_law_open) (defScope s_law_open) .none kV24 dc24 pm24 an24 cd24 ct24), sl24⟩) (c24 : PySem.W.codeIn K cd24 "_law_open" = true) (k24 : PySem.W.keepIn K (.ref f24) = true)
    (a25 : PySem.W.nsIn K mainGlobals "_law_at" = some (some (.ref f25))) (l25 : K.lookup f25 = some ⟨oc25, od25, .func (PySem.W.fnOf "_law_at" "_law_at" (defArgs s_law_at) (defBody s_law_at) (defScope s_law_at) .none kV25 dc25 pm25 an25 cd25 ct25), sl25⟩) (c25 : PySem.W.codeIn K cd25 "_law_at" = true) (k25 : PySem.W.keepIn K (.ref f25) = true)
    (a26 : PySem.W.findIn K (.ref C_Exam) "refuse_behind_dealing" = some (some (.ref f26))) (i26 : PySem.W.isFn K (.ref f26) = true) (l26 : K.lookup f26 = some ⟨oc26, od26, .func (PySem.W.fnOf "refuse_behind_dealing" "Exam.refuse_behind_dealing" (defArgs s_Exam_refuse_behind_dealing) (defBody s_Exam_refuse_behind_dealing) (defScope s_Exam_refuse_behind_dealing) .none kV26 dc26 pm26 an26 cd26 ct26), sl26⟩) (c26 : PySem.W.codeIn K cd26 "Exam.refuse_behind_dealing" = true) (k26 : PySem.W.keepIn K (.ref f26) = true)
    (a27 : PySem.W.nsIn K mainGlobals "refuse_unknown" = some (some (.ref f27))) (l27 : K.lookup f27 = some ⟨oc27, od27, .func (PySem.W.fnOf "refuse_unknown" "refuse_unknown" (defArgs s_refuse_unknown) (defBody s_refuse_unknown) (defScope s_refuse_unknown) .none kV27 dc27 pm27 an27 cd27 ct27), sl27⟩) (c27 : PySem.W.codeIn K cd27 "refuse_unknown" = true) (k27 : PySem.W.keepIn K (.ref f27) = true)
    (a28 : PySem.W.nsIn K mainGlobals "refuse_full" = some (some (.ref f28))) (l28 : K.lookup f28 = some ⟨oc28, od28, .func (PySem.W.fnOf "refuse_full" "refuse_full" (defArgs s_refuse_full) (defBody s_refuse_full) (defScope s_refuse_full) .none kV28 dc28 pm28 an28 cd28 ct28), sl28⟩) (c28 : PySem.W.codeIn K cd28 "refuse_full" = true) (k28 : PySem.W.keepIn K (.ref f28) = true)
    (a29 : PySem.W.findIn K (.ref C_Exam) "bring_paper" = some (some (.ref f29))) (i29 : PySem.W.isFn K (.ref f29) = true) (l29 : K.lookup f29 = some ⟨oc29, od29, .func (PySem.W.fnOf "bring_paper" "Exam.bring_paper" (defArgs s_Exam_bring_paper) (defBody s_Exam_bring_paper) (defScope s_Exam_bring_paper) .none kV29 dc29 pm29 an29 cd29 ct29), sl29⟩) (c29 : PySem.W.codeIn K cd29 "Exam.bring_paper" = true) (k29 : PySem.W.keepIn K (.ref f29) = true)
    (a30 : PySem.W.nsIn K mainGlobals "refuse_out_of_bounds" = some (some (.ref f30))) (l30 : K.lookup f30 = some ⟨oc30, od30, .func (PySem.W.fnOf "refuse_out_of_bounds" "refuse_out_of_bounds" (defArgs s_refuse_out_of_bounds) (defBody s_refuse_out_of_bounds) (defScope s_refuse_out_of_bounds) .none kV30 dc30 pm30 an30 cd30 ct30), sl30⟩) (c30 : PySem.W.codeIn K cd30 "refuse_out_of_bounds" = true) (k30 : PySem.W.keepIn K (.ref f30) = true)
    (a31 : PySem.W.findIn K (.ref C_Exam) "bring_reader" = some (some (.ref f31))) (i31 : PySem.W.isFn K (.ref f31) = true) (l31 : K.lookup f31 = some ⟨oc31, od31, .func (PySem.W.fnOf "bring_reader" "Exam.bring_reader" (defArgs s_Exam_bring_reader) (defBody s_Exam_bring_reader) (defScope s_Exam_bring_reader) .none kV31 dc31 pm31 an31 cd31 ct31), sl31⟩) (c31 : PySem.W.codeIn K cd31 "Exam.bring_reader" = true) (k31 : PySem.W.keepIn K (.ref f31) = true)
    (a32 : PySem.W.nsIn K mainGlobals "law" = some (some (.ref f32))) (l32 : K.lookup f32 = some ⟨oc32, od32, .func (PySem.W.fnOf "law" "law" (defArgs s_law) (defBody s_law) (defScope s_law) .none kV32 dc32 pm32 an32 cd32 ct32), sl32⟩) (c32 : PySem.W.codeIn K cd32 "law" = true) (k32 : PySem.W.keepIn K (.ref f32) = true)
    (z_abs : PySem.W.nsIn K mainGlobals "abs" = some none)
    (z_bool : PySem.W.nsIn K mainGlobals "bool" = some none)
    (z_enumerate : PySem.W.nsIn K mainGlobals "enumerate" = some none)
    (z_int : PySem.W.nsIn K mainGlobals "int" = some none)
    (z_isinstance : PySem.W.nsIn K mainGlobals "isinstance" = some none)
    (z_len : PySem.W.nsIn K mainGlobals "len" = some none)
    (z_list : PySem.W.nsIn K mainGlobals "list" = some none)
    (z_min : PySem.W.nsIn K mainGlobals "min" = some none)
    (z_range : PySem.W.nsIn K mainGlobals "range" = some none)
    (z_sorted : PySem.W.nsIn K mainGlobals "sorted" = some none)
    (z_sum : PySem.W.nsIn K mainGlobals "sum" = some none)
    (z_zip : PySem.W.nsIn K mainGlobals "zip" = some none)
    (pg_Exam : PySem.W.plainGet K C_Exam Str.empty = true) (hd_Exam : PySem.W.hasDictIn K C_Exam = true) (po_Exam : PySem.W.plainOver K C_Exam = true) (sa_Exam : PySem.W.findIn K (.ref C_Exam) "__setattr__" = some (some (.builtin "object.__setattr__"))) (mk_Exam : PySem.W.makesIn K C_Exam = true) (kc_Exam : PySem.W.keepIn K (.ref C_Exam) = true)
    (n_Exam_paper_houses : PySem.W.findIn K (.ref C_Exam) "paper_houses" = some none)
    (n_Exam_reader_rows : PySem.W.findIn K (.ref C_Exam) "reader_rows" = some none)
    (n_Exam_widest_step : PySem.W.findIn K (.ref C_Exam) "widest_step" = some none)
    (n_Exam_is_dealt : PySem.W.findIn K (.ref C_Exam) "is_dealt" = some none)
    (n_Exam_named_readers : PySem.W.findIn K (.ref C_Exam) "named_readers" = some none)
    (n_Exam_entered_points : PySem.W.findIn K (.ref C_Exam) "entered_points" = some none)
    (v_MOST_HOUSES : PySem.W.nsIn K mainGlobals "MOST_HOUSES" = some (some (.int 6 tk_MOST_HOUSES)))
    (v_MOST_PAPERS : PySem.W.nsIn K mainGlobals "MOST_PAPERS" = some (some (.int 10 tk_MOST_PAPERS)))
    (v_MOST_LIMIT : PySem.W.nsIn K mainGlobals "MOST_LIMIT" = some (some (.int 30 tk_MOST_LIMIT)))
    (v_MOST_READERS : PySem.W.nsIn K mainGlobals "MOST_READERS" = some (some (.int 8 tk_MOST_READERS)))
    : ∃ fd : FuncData, (∀ (s : Shared) (v : Value), BindsTo s fd ⟨[v], []⟩ [("_law_script", v)]) ∧ ∀ base : Heap, K.In base → base.Ns mainGlobals mg → FnOk l.prog w K mg base CX0 7 fa fd ["_law_script"] (sp_law K) := by
  have e := hfa.symm.trans (PySem.W.mg_of X G a32)
  cases e
  have F0 := fun_mk (st := s_Exam___init__) l0 c0 k0
  have F1 := fun_mk (st := s_law_whole) l1 c1 k1
  have F2 := fun_mk (st := s_law_row) l2 c2 k2
  have F3 := fun_mk (st := s_law_rows) l3 c3 k3
  have F4 := fun_mk (st := s_Exam_readers) l4 c4 k4
  have F5 := fun_mk (st := s_Exam_papers) l5 c5 k5
  have F6 := fun_mk (st := s_Exam_due_readers) l6 c6 k6
  have F7 := fun_mk (st := s_Exam_due) l7 c7 k7
  have F8 := fun_mk (st := s_times_in) l8 c8 k8
  have F9 := fun_mk (st := s_left_after) l9 c9 k9
  have F10 := fun_mk (st := s_Exam_left) l10 c10 k10
  have F11 := fun_mk (st := s_Exam_step) l11 c11 k11
  have F12 := fun_mk (st := s_law_none) l12 c12 k12
  have F13 := fun_mk (st := s_Exam_points_for) l13 c13 k13
  have F14 := fun_mk (st := s_greatest_divisor) l14 c14 k14
  have F15 := fun_mk (st := s_lowest) l15 c15 k15
  have F16 := fun_mk (st := s_middle_of) l16 c16 k16
  have F17 := fun_mk (st := s_agree) l17 c17 k17
  have F18 := fun_mk (st := s_mark_of) l18 c18 k18
  have F19 := fun_mk (st := s_Exam_mark_for) l19 c19 k19
  have F20 := fun_mk (st := s_Exam_marks) l20 c20 k20
  have F21 := fun_mk (st := s_law_truth) l21 c21 k21
  have F22 := fun_mk (st := s_Exam_dealt) l22 c22 k22
  have F23 := fun_mk (st := s_Exam_dealing) l23 c23 k23
  have F24 := fun_mk (st := s_law_open) l24 c24 k24
  have F25 := fun_mk (st := s_law_at) l25 c25 k25
  have F26 := fun_mk (st := s_Exam_refuse_behind_dealing) l26 c26 k26
  have F27 := fun_mk (st := s_refuse_unknown) l27 c27 k27
  have F28 := fun_mk (st := s_refuse_full) l28 c28 k28
  have F29 := fun_mk (st := s_Exam_bring_paper) l29 c29 k29
  have F30 := fun_mk (st := s_refuse_out_of_bounds) l30 c30 k30
  have F31 := fun_mk (st := s_Exam_bring_reader) l31 c31 k31
  have F32 := fun_mk (st := s_law) l32 c32 k32
  have T : Txt K mg ⟨_, _, _, _, _, _, _, _, _, _, _, _, _, _, _, _, _, _, _, _, _, _, _, _, _, _, _, _, _, _, _, _, _, _, _, _, _, _, _, _, _, _, _, _, _, _, _, _, _, _, _, _, _, _, _, _, _, _, _, _, _, _, _, _, _, _, _, _, _, _, _⟩ := ⟨F0, F0.binds (ps := ["self"]) (fun _ _ _ _ _ _ us hl => match us, hl with | [_], _ => rfl), ⟨mk_Exam, a0, i0, kc_Exam⟩, F1, F1.binds (ps := ["_law_found"]) (fun _ _ _ _ _ _ us hl => match us, hl with | [_], _ => rfl), PySem.W.mg_of X G a1, F2, F2.binds (ps := ["_law_found", "_law_due"]) (fun _ _ _ _ _ _ us hl => match us, hl with | [_, _], _ => rfl), PySem.W.mg_of X G a2, F3, F3.binds (ps := ["_law_found", "_law_due"]) (fun _ _ _ _ _ _ us hl => match us, hl with | [_, _], _ => rfl), PySem.W.mg_of X G a3, F4, F4.binds (ps := ["self"]) (fun _ _ _ _ _ _ us hl => match us, hl with | [_], _ => rfl), ⟨a4, i4, k4⟩, F5, F5.binds (ps := ["self"]) (fun _ _ _ _ _ _ us hl => match us, hl with | [_], _ => rfl), ⟨a5, i5, k5⟩, F6, F6.binds (ps := ["self", "paper"]) (fun _ _ _ _ _ _ us hl => match us, hl with | [_, _], _ => rfl), ⟨a6, i6, k6⟩, F7, F7.binds (ps := ["self"]) (fun _ _ _ _ _ _ us hl => match us, hl with | [_], _ => rfl), ⟨a7, i7, k7⟩, F8, F8.binds (ps := ["rows", "reader"]) (fun _ _ _ _ _ _ us hl => match us, hl with | [_, _], _ => rfl), PySem.W.mg_of X G a8, F9, F9.binds (ps := ["readers", "rows"]) (fun _ _ _ _ _ _ us hl => match us, hl with | [_, _], _ => rfl), PySem.W.mg_of X G a9, F10, F10.binds (ps := ["self"]) (fun _ _ _ _ _ _ us hl => match us, hl with | [_], _ => rfl), ⟨a10, i10, k10⟩, F11, F11.binds (ps := ["self"]) (fun _ _ _ _ _ _ us hl => match us, hl with | [_], _ => rfl), ⟨a11, i11, k11⟩, F12, F12.binds (ps := ["_law_found", "_law_many"]) (fun _ _ _ _ _ _ us hl => match us, hl with | [_, _], _ => rfl), PySem.W.mg_of X G a12, F13, F13.binds (ps := ["self", "paper"]) (fun _ _ _ _ _ _ us hl => match us, hl with | [_, _], _ => rfl), ⟨a13, i13, k13⟩, F14, F14.binds (ps := ["one", "other"]) (fun _ _ _ _ _ _ us hl => match us, hl with | [_, _], _ => rfl), PySem.W.mg_of X G a14, F15, F15.binds (ps := ["top", "bottom"]) (fun _ _ _ _ _ _ us hl => match us, hl with | [_, _], _ => rfl), PySem.W.mg_of X G a15, F16, F16.binds (ps := ["points"]) (fun _ _ _ _ _ _ us hl => match us, hl with | [_], _ => rfl), PySem.W.mg_of X G a16, F17, F17.binds (ps := ["one", "other", "step"]) (fun _ _ _ _ _ _ us hl => match us, hl with | [_, _, _], _ => rfl), PySem.W.mg_of X G a17, F18, F18.binds (ps := ["points", "step"]) (fun _ _ _ _ _ _ us hl => match us, hl with | [_, _], _ => rfl), PySem.W.mg_of X G a18, F19, F19.binds (ps := ["self", "paper"]) (fun _ _ _ _ _ _ us hl => match us, hl with | [_, _], _ => rfl), ⟨a19, i19, k19⟩, F20, F20.binds (ps := ["self"]) (fun _ _ _ _ _ _ us hl => match us, hl with | [_], _ => rfl), ⟨a20, i20, k20⟩, F21, F21.binds (ps := ["_law_found", "_law_due"]) (fun _ _ _ _ _ _ us hl => match us, hl with | [_, _], _ => rfl), PySem.W.mg_of X G a21, F22, F22.binds (ps := ["self"]) (fun _ _ _ _ _ _ us hl => match us, hl with | [_], _ => rfl), ⟨a22, i22, k22⟩, F23, F23.binds (ps := ["self"]) (fun _ _ _ _ _ _ us hl => match us, hl with | [_], _ => rfl), ⟨a23, i23, k23⟩, F24, F24.binds (ps := ["_law_exam", "_law_homes", "_law_staff", "_law_step"]) (fun _ _ _ _ _ _ us hl => match us, hl with | [_, _, _, _], _ => rfl), PySem.W.mg_of X G a24, F25, F25.binds (ps := ["_law_script", "_law_k"]) (fun _ _ _ _ _ _ us hl => match us, hl with | [_, _], _ => rfl), PySem.W.mg_of X G a25, F26, F26.binds (ps := ["self"]) (fun _ _ _ _ _ _ us hl => match us, hl with | [_], _ => rfl), ⟨a26, i26, k26⟩, F27, F27.binds (ps := ["number", "least", "most"]) (fun _ _ _ _ _ _ us hl => match us, hl with | [_, _, _], _ => rfl), PySem.W.mg_of X G a27, F28, F28.binds (ps := ["many", "most"]) (fun _ _ _ _ _ _ us hl => match us, hl with | [_, _], _ => rfl), PySem.W.mg_of X G a28, F29, F29.binds (ps := ["self", "house"]) (fun _ _ _ _ _ _ us hl => match us, hl with | [_, _], _ => rfl), ⟨a29, i29, k29⟩, F30, F30.binds (ps := ["number", "most"]) (fun _ _ _ _ _ _ us hl => match us, hl with | [_, _], _ => rfl), PySem.W.mg_of X G a30, F31, F31.binds (ps := ["self", "house", "limit"]) (fun _ _ _ _ _ _ us hl => match us, hl with | [_, _, _], _ => rfl), ⟨a31, i31, k31⟩, F32, F32.binds (ps := ["_law_script"]) (fun _ _ _ _ _ _ us hl => match us, hl with | [_], _ => rfl), PySem.W.mg_of X G a32, ⟨pg_Exam, hd_Exam, po_Exam, sa_Exam⟩, PySem.W.mg_of X G aC_Exam, n_Exam_paper_houses, n_Exam_reader_rows, n_Exam_widest_step, n_Exam_is_dealt, n_Exam_named_readers, n_Exam_entered_points, PySem.W.mg_of X G v_MOST_HOUSES, ⟨_, rfl⟩, PySem.W.mg_of X G v_MOST_PAPERS, ⟨_, rfl⟩, PySem.W.mg_of X G v_MOST_LIMIT, ⟨_, rfl⟩, PySem.W.mg_of X G v_MOST_READERS, ⟨_, rfl⟩, PySem.W.mg_none_of X G z_abs, PySem.W.mg_none_of X G z_bool, PySem.W.mg_none_of X G z_enumerate, PySem.W.mg_none_of X G z_int, PySem.W.mg_none_of X G z_isinstance, PySem.W.mg_none_of X G z_len, PySem.W.mg_none_of X G z_list, PySem.W.mg_none_of X G z_min, PySem.W.mg_none_of X G z_range, PySem.W.mg_none_of X G z_sorted, PySem.W.mg_none_of X G z_sum, PySem.W.mg_none_of X G z_zip⟩
  exact ⟨_, fun s v => .of_eq rfl, fun base _ _ => ok_law T⟩
theorem walk {l : PySem.W.OpenLaw} {q : Program} {loose : List Str} {XP : (Str → Option Value) → Heap → Prop} {YP : World → Heap → Prop} {d : DefRec} {K : Params → PySem.W.Frag} (hn : l.most = some 63) (hdf : d.params.defaults = [])
    (hY : ∀ (w : World) (h : Heap), YP w h → (K w.params).In h)
    (F : ∀ (w : World) (mg : Str → Option Value) (fa : Addr) (h : Heap), (K w.params).In h → h.Ns mainGlobals mg → mg d.name = some (.ref fa) →
      ∃ fd : FuncData, (∀ (s : Shared) (u : Value), BindsTo s fd ⟨[u], []⟩ [("_law_script", u)]) ∧ ∀ base : Heap, (K w.params).In base → base.Ns mainGlobals mg → FnOk l.prog w (K w.params) mg base CX0 7 fa fd ["_law_script"] (sp_law (K w.params))) :
    PySem.W.WalkO q loose XP YP l.row.toRowW d [] (fun f vs => PySem.call f vs) :=
  L2.walk_of (n := 63) (k := 7) (x := "_law_script") (CX := fun _ => CX0) (sp := fun w => sp_law (K w.params)) hn (by decide) hdf ⟨rfl, by decide, by decide⟩ hY F (fun _ H a ns hl hO hS => law_start hl hS) fun _ _ _ _ _ z => z
end Prf
namespace PySem.W.Fast
theorem tw7660521876204598090 : True := trivial
theorem tw3259889282737078629 : True := trivial
theorem tw15920209071798357534 : True := trivial
theorem tw13196403717886564449 : True := trivial
theorem tw17192052814854042941 : True := trivial
theorem tw9621307368056600231 : True := trivial
theorem tw12690487586055060057 : True := trivial
theorem tw1104967424699212028 : True := trivial
theorem tw16004414181761412237 : True := trivial
theorem tw13618951511132957202 : True := trivial
theorem tw17396381524118963193 : True := trivial
theorem tw11281767760218044958 : True := trivial
theorem tw11131147594345050516 : True := trivial
theorem tw8425111113821132001 : True := trivial
theorem tw2850364002496041444 : True := trivial
theorem tw1073908584274251234 : True := trivial
theorem tw10503071470403443233 : True := trivial
theorem tw4234165880877247683 : True := trivial
theorem tw4392081882316887291 : True := trivial
theorem tw17817057742501380114 : True := trivial
theorem tw8139495703974131520 : True := trivial
theorem tw3376747569674599292 : True := trivial
theorem tw3142475089512684141 : True := trivial
theorem tw139377864600758287 : True := trivial
theorem tw1456048528033106815 : True := trivial
theorem tw15699869192068770965 : True := trivial
theorem tw4924460928138945996 : True := trivial
theorem tw6574601021635840686 : True := trivial
theorem tw1468164169446823715 : True := trivial
theorem tw1860703470280618932 : True := trivial
theorem tw6059599971920219794 : True := trivial
theorem tw3269319677811444776 : True := trivial
theorem tw13376239268729353543 : True := trivial
theorem tw10055961866265971169 : True := trivial
theorem tw7420452481908923282 : True := trivial
theorem tw17767932899567886629 : True := trivial
theorem tw12702949485358065856 : True := trivial
theorem tw14214458367320205122 : True := trivial
theorem tw7822322210011728455 : True := trivial
theorem tw5815625517813168505 : True := trivial
theorem tw11885231020830330664 : True := trivial
theorem tw8426910852862274765 : True := trivial
theorem tw17833196374860863988 : True := trivial
theorem tw7533025238483166476 : True := trivial
theorem tw14622941576330955218 : True := trivial
theorem tw15671075510672028389 : True := trivial
theorem tw2925011524824347685 : True := trivial
theorem tw5129712902907941783 : True := trivial
theorem tw12507925363346685421 : True := trivial
theorem tw4220096013808924324 : True := trivial
theorem tw12446761386411763794 : True := trivial
theorem tw6456417334003112784 : True := trivial
theorem tw3179601365696416276 : True := trivial
theorem tw3529120841442658029 : True := trivial
theorem tw1170727121447954929 : True := trivial
theorem tw7305170992935785176 : True := trivial
theorem tw7846223883257584079 : True := trivial
theorem tw14114902345536455557 : True := trivial
theorem tw12351189560725320106 : True := trivial
theorem tw11437596225730184499 : True := trivial
theorem tw1490584643342081234 : True := trivial
theorem tw13665854305311951761 : True := trivial
theorem tw2969493776972754997 : True := trivial
theorem tw14399986182227903212 : True := trivial
theorem tw9993882667281746174 : True := trivial
theorem tw12774796346542460501 : True := trivial
theorem tw519984826690629975 : True := trivial
theorem tw8685588156481163962 : True := trivial
theorem tw10276792845329764877 : True := trivial
theorem tw17679670898569288541 : True := trivial
theorem tw8738913674082871601 : True := trivial
theorem tw12196602999903174238 : True := trivial
theorem tw14812804668384786671 : True := trivial
theorem tw10483398660333265401 : True := trivial
theorem tw7896053452569121732 : True := trivial
theorem tw5505391747091595813 : True := trivial
theorem tw17441848012489518444 : True := trivial
theorem tw1815541493285471540 : True := trivial
theorem tw10990343144580110466 : True := trivial
theorem tw514133982160825812 : True := trivial
theorem tw12046440342562284937 : True := trivial
theorem tw5135447987764027794 : True := trivial
theorem tw9127372800873428580 : True := trivial
theorem tw10845360736094211523 : True := trivial
theorem tw17203050274969611767 : True := trivial
theorem tw13731443509883250220 : True := trivial
theorem tw12369510059737294382 : True := trivial
theorem tw5183798221518452753 : True := trivial
theorem tw6966460723933224335 : True := trivial
theorem tw2672028104053658276 : True := trivial
theorem tw10955539869433072817 : True := trivial
theorem tw17597504901890178988 : True := trivial
theorem tw2469262612441171063 : True := trivial
theorem tw12998816420873750195 : True := trivial
theorem tw9440014941117983939 : True := trivial
theorem tw5661523505932903300 : True := trivial
theorem tw13163953301385209254 : True := trivial
theorem tw18246208221286018233 : True := trivial
theorem tw2887383114381489158 : True := trivial
theorem tw940632310190069726 : True := trivial
theorem tw6882352590732728625 : True := trivial
theorem tw15367081505017849945 : True := trivial
theorem tw7204414476650182281 : True := trivial
theorem tw9170723216130258965 : True := trivial
theorem tw11351332019621480489 : True := trivial
theorem tw7600510840490102444 : True := trivial
theorem tw6894099098845673756 : True := trivial
theorem tw6881200045594024489 : True := trivial
theorem tw9226577473945969124 : True := trivial
theorem tw8127864609768513827 : True := trivial
theorem tw2712447971397172663 : True := trivial
theorem tw9498459621664782708 : True := trivial
theorem tw34802926666342096 : True := trivial
theorem tw2130686110328816231 : True := trivial
theorem tw15640712451700327732 : True := trivial
theorem tw15125011395747617753 : True := trivial
theorem tw17567243821842202405 : True := trivial
theorem tw7688520917748237122 : True := trivial
theorem tw14555938003456774055 : True := trivial
theorem tw11766721960974554768 : True := trivial
theorem tw8151348525736793307 : True := trivial
theorem tw8974187730464002268 : True := trivial
theorem tw11615650309094970682 : True := trivial
theorem tw7705000582055296128 : True := trivial
theorem tw6372377513577392510 : True := trivial
theorem tw3737025948259448883 : True := trivial
theorem tw1662902666643807010 : True := trivial
theorem tw289892882386368399 : True := trivial
theorem tw18265378414078279594 : True := trivial
theorem tw483569632151396966 : True := trivial
theorem tw11984072064559806642 : True := trivial
theorem tw18446020135129070952 : True := trivial
theorem tw5603979325906246449 : True := trivial
theorem tw6260237856926588362 : True := trivial
theorem tw8911669681825819160 : True := trivial
theorem tw16453149448681448179 : True := trivial
theorem tw7577566146716385487 : True := trivial
theorem tw8836001352790844115 : True := trivial
theorem tw260566523775263176 : True := trivial
theorem tw4552541618049131000 : True := trivial
theorem tw799860079396000437 : True := trivial
theorem tw3114081373649187147 : True := trivial
theorem tw12314348280972916408 : True := trivial
theorem tw15766994497915213829 : True := trivial
theorem tw4625095544836496834 : True := trivial
theorem tw7759975693748006902 : True := trivial
theorem tw6430537486656674167 : True := trivial
theorem tw14356378230711775223 : True := trivial
theorem tw4897969605884939322 : True := trivial
theorem tw2662913372843037697 : True := trivial
theorem tw6227932307376667590 : True := trivial
theorem tw9175318723797302850 : True := trivial
theorem tw14577690739502203625 : True := trivial
theorem tw12452190842102157226 : True := trivial
theorem tw9828610521050118297 : True := trivial
theorem tw6885953173305186520 : True := trivial
theorem tw17591737040654975700 : True := trivial
theorem tw7528894823661346264 : True := trivial
theorem tw13761901684664527062 : True := trivial
theorem tw15920418858357842766 : True := trivial
theorem tw13651113830830258711 : True := trivial
theorem tw17779658620847112271 : True := trivial
theorem tw10734415261832411223 : True := trivial
theorem tw16240932061097557338 : True := trivial
theorem tw3185680038450891325 : True := trivial
theorem tw3106555815854023684 : True := trivial
theorem tw13304402465931353345 : True := trivial
theorem tw16801196348095209984 : True := trivial
theorem tw15150918733995429102 : True := trivial
theorem tw9455496372939004802 : True := trivial
theorem tw11015813812803568659 : True := trivial
theorem tw9778295537513096779 : True := trivial
theorem tw17695346002850075386 : True := trivial
theorem tw10978830289576989148 : True := trivial
theorem tw17536024502962289186 : True := trivial
theorem tw5095122441009412158 : True := trivial
theorem tw4509712115216107355 : True := trivial
theorem tw1487320619202056324 : True := trivial
theorem tw15911299323021056571 : True := trivial
theorem tw912129562062431085 : True := trivial
theorem tw16283032539955076523 : True := trivial
theorem tw12441044026650313400 : True := trivial
theorem tw16863582179439123558 : True := trivial
theorem tw5546694409787246654 : True := trivial
theorem tw1443764751658968145 : True := trivial
theorem tw3800360988395345201 : True := trivial
theorem tw8554345461074987031 : True := trivial
theorem tw1629442119185184573 : True := trivial
theorem tw1640105675279553126 : True := trivial
theorem tw14496198002551078255 : True := trivial
theorem tw2624951069032052486 : True := trivial
theorem tw13521014188130539831 : True := trivial
theorem tw14924011880012625704 : True := trivial
theorem tw10132599060667727436 : True := trivial
theorem tw2222702986605065388 : True := trivial
theorem tw16626730509804215091 : True := trivial
theorem tw5374335100841767477 : True := trivial
theorem tw12566645201235740862 : True := trivial
theorem tw5534678825783301582 : True := trivial
theorem tw7232057892294203437 : True := trivial
theorem tw3157059085356132949 : True := trivial
theorem tw11556560702130979269 : True := trivial
theorem tw16071257292724936947 : True := trivial
theorem tw4689907826694610380 : True := trivial
theorem tw12189695096555406747 : True := trivial
theorem tw3490340999727211743 : True := trivial
theorem tw4801940376885915189 : True := trivial
theorem tw17627783530658549055 : True := trivial
theorem tw13163878947911460855 : True := trivial
theorem tw14693226658924386905 : True := trivial
theorem tw10436821681676832108 : True := trivial
theorem tw14554000307883683762 : True := trivial
theorem tw17285002101937368088 : True := trivial
theorem tw8911032437557486284 : True := trivial
theorem tw7608560154906030915 : True := trivial
theorem tw13754014521816368759 : True := trivial
theorem tw13793561337824154860 : True := trivial
theorem tw836472377630333983 : True := trivial
theorem tw12681010124798363307 : True := trivial
theorem tw5967492904670449531 : True := trivial
theorem tw2649291933873410636 : True := trivial
theorem tw3282271894596194511 : True := trivial
theorem tw4359454896871901662 : True := trivial
theorem tw12491236579917616059 : True := trivial
theorem tw10780996230671741397 : True := trivial
theorem tw7001307581650988589 : True := trivial
theorem tw8587201901281885825 : True := trivial
theorem tw10565129940705432523 : True := trivial
theorem tw841466000677554373 : True := trivial
theorem tw3299392079879961534 : True := trivial
theorem tw12240207544075068549 : True := trivial
theorem tw511904586978706478 : True := trivial
theorem tw12139275176335207020 : True := trivial
theorem tw16348920843739153622 : True := trivial
theorem tw4067680941826477874 : True := trivial
theorem tw7668590489887729637 : True := trivial
theorem tw15692731226785511057 : True := trivial
theorem tw10038616868874164280 : True := trivial
theorem tw6611929465877672786 : True := trivial
theorem tw13661622571515743485 : True := trivial
theorem tw11752838565453026866 : True := trivial
theorem tw2528595015981950030 : True := trivial
theorem tw5632125416405081976 : True := trivial
theorem tw14125331485523215373 : True := trivial
theorem tw8540287143078715329 : True := trivial
theorem tw16642222312831527175 : True := trivial
theorem tw5345568707058405184 : True := trivial
theorem tw8294631911194784042 : True := trivial
theorem tw2894603050061718885 : True := trivial
theorem tw13422249841727415980 : True := trivial
theorem tw5685377143102896758 : True := trivial
theorem tw9313310302039345354 : True := trivial
theorem tw18388558395782833907 : True := trivial
theorem tw7308789864152236235 : True := trivial
theorem tw5690703885570862301 : True := trivial
theorem tw16135910320488699547 : True := trivial
theorem tw3974644846303881862 : True := trivial
theorem tw16468588841189045105 : True := trivial
theorem tw3725273140409729976 : True := trivial
theorem tw3105097034324970159 : True := trivial
theorem tw1215891263081003431 : True := trivial
theorem tw16376862940673928681 : True := trivial
theorem tw12236668394249336885 : True := trivial
theorem tw14481273630883078244 : True := trivial
theorem tw7651016362484333516 : True := trivial
theorem tw13549630582124211916 : True := trivial
theorem tw3066826282440045286 : True := trivial
theorem tw14620250198965966570 : True := trivial
theorem tw1751613537209745194 : True := trivial
theorem tw3774794797718682284 : True := trivial
theorem tw15112347955533958272 : True := trivial
theorem tw13990049572079117786 : True := trivial
theorem tw15177592101476542753 : True := trivial
theorem tw6631697846854953175 : True := trivial
theorem tw2496889947505855925 : True := trivial
theorem tw8244451849627666221 : True := trivial
theorem tw1419336148165932429 : True := trivial
theorem tw8755348361105304466 : True := trivial
theorem tw3130771505361536733 : True := trivial
theorem tw3258970634823607250 : True := trivial
theorem tw11417407089982750486 : True := trivial
theorem tw6539232830435300765 : True := trivial
theorem tw2216648852296937779 : True := trivial
theorem tw13306276629728781172 : True := trivial
theorem tw7985134589865682879 : True := trivial
theorem tw8832687086660046673 : True := trivial
theorem tw17187532325129333432 : True := trivial
theorem tw1807015159629359182 : True := trivial
theorem tw4731914706936122477 : True := trivial
theorem tw14270218807011354423 : True := trivial
theorem tw16982020446735960248 : True := trivial
theorem tw17501073314268399278 : True := trivial
theorem tw13229880709272375328 : True := trivial
theorem tw6819662966662776481 : True := trivial
theorem tw13223282564710281185 : True := trivial
theorem tw14123708702122939004 : True := trivial
theorem tw7964285237845134261 : True := trivial
theorem tw2954226438760128606 : True := trivial
theorem tw3525036886819740199 : True := trivial
theorem tw2070079407545791826 : True := trivial
theorem tw15996252280243578469 : True := trivial
theorem tw15321189469923502077 : True := trivial
theorem tw6895946367117595704 : True := trivial
theorem tw12249975038277735742 : True := trivial
theorem tw4518743288531640701 : True := trivial
theorem tw11404757037895276093 : True := trivial
theorem tw15242089160203941138 : True := trivial
theorem tw5081682221962004143 : True := trivial
theorem tw15457383023370653382 : True := trivial
theorem tw7802196705605809230 : True := trivial
theorem tw7982256516512838948 : True := trivial
theorem tw9523920141683988252 : True := trivial
theorem tw16106684516485216677 : True := trivial
theorem tw16158439166870611692 : True := trivial
theorem tw18357542170751538559 : True := trivial
theorem tw18201042531588724157 : True := trivial
theorem tw13099261853617979048 : True := trivial
theorem tw9765760774572443882 : True := trivial
theorem tw7938990846228843117 : True := trivial
theorem tw2326832367085947929 : True := trivial
theorem tw8789709429264955807 : True := trivial
theorem tw14703292816989564322 : True := trivial
theorem tw7673650106223766588 : True := trivial
theorem tw14407010218184762775 : True := trivial
theorem tw15807575896821922612 : True := trivial
theorem tw3655358406416957386 : True := trivial
theorem tw4198249783578489461 : True := trivial
theorem tw13960151499757230389 : True := trivial
theorem tw17470652123738265860 : True := trivial
theorem tw2594010612706531725 : True := trivial
theorem tw1449809910823275579 : True := trivial
theorem tw14654157470444724248 : True := trivial
theorem tw8520117192095943774 : True := trivial
theorem tw4734265706369013595 : True := trivial
theorem tw208802418614139285 : True := trivial
theorem tw16746845464405693856 : True := trivial
theorem tw2396319455669743926 : True := trivial
theorem tw2531429665565768938 : True := trivial
theorem tw12771445770230627705 : True := trivial
theorem tw16130044444858278985 : True := trivial
theorem tw12730625983773358108 : True := trivial
theorem tw3161831794602757768 : True := trivial
theorem tw16527898822586383264 : True := trivial
theorem tw4102394375276740258 : True := trivial
theorem tw9747780911017867703 : True := trivial
theorem tw8997292693950816018 : True := trivial
theorem tw2497544407435734409 : True := trivial
theorem tw655772142219060208 : True := trivial
theorem tw12598335183851105691 : True := trivial
theorem tw7081809967900259693 : True := trivial
theorem tw3083244366943962168 : True := trivial
theorem tw12197304814554261530 : True := trivial
theorem tw16134487162219020626 : True := trivial
theorem tw14498866326926300368 : True := trivial
theorem tw5774189655118060061 : True := trivial
theorem tw13072337874674907553 : True := trivial
theorem tw7489932110966754131 : True := trivial
theorem tw10630780504776593155 : True := trivial
theorem tw3538459664186599582 : True := trivial
theorem tw13275376056011801684 : True := trivial
theorem tw17813553385248370658 : True := trivial
theorem tw15904942774543848024 : True := trivial
theorem tw13316074465511981633 : True := trivial
theorem tw9749526579002782228 : True := trivial
theorem tw13736044123721868 : True := trivial
theorem tw7094477244072031931 : True := trivial
theorem tw3392898983359636663 : True := trivial
theorem tw8206326520528297798 : True := trivial
theorem tw5291385282671132355 : True := trivial
theorem tw643987206062319060 : True := trivial
theorem tw18433688179137961354 : True := trivial
theorem tw14207662642187928716 : True := trivial
theorem tw12855813279531251540 : True := trivial
theorem tw3880624467174772289 : True := trivial
theorem tw5207874383216199301 : True := trivial
theorem tw5925402058478621305 : True := trivial
theorem tw17883981594764642380 : True := trivial
theorem tw5739664771418266836 : True := trivial
theorem tw17672611371195600580 : True := trivial
theorem tw14573747507144270396 : True := trivial
theorem tw7390180898913979571 : True := trivial
theorem tw10709146683539415199 : True := trivial
theorem tw9718087720274961548 : True := trivial
theorem tw10169640197880989913 : True := trivial
theorem tw8204621835654409870 : True := trivial
theorem tw97813622940630753 : True := trivial
theorem tw14448557677788213033 : True := trivial
theorem tw17453776549046216515 : True := trivial
theorem tw6272530288968575779 : True := trivial
theorem tw1703334110919258147 : True := trivial
theorem tw10909542256530687058 : True := trivial
theorem tw8274390078719715020 : True := trivial
theorem tw3777072829798356264 : True := trivial
theorem tw15435100907180130832 : True := trivial
theorem tw2437432808586580556 : True := trivial
theorem tw2958599261121851568 : True := trivial
theorem tw1275366082914859934 : True := trivial
theorem tw17603647606775960257 : True := trivial
theorem tw15638138960705343967 : True := trivial
theorem tw2168833793609928287 : True := trivial
theorem tw654311926740702675 : True := trivial
theorem tw8761566202738812514 : True := trivial
theorem tw18345092174878912828 : True := trivial
theorem tw9497778139778527427 : True := trivial
theorem tw4129797595927621191 : True := trivial
theorem tw5680935588161494619 : True := trivial
theorem tw13223759347760428183 : True := trivial
theorem tw15080298151183476920 : True := trivial
theorem tw6366063685055667969 : True := trivial
theorem tw12728818362824901955 : True := trivial
theorem tw5619118220828402492 : True := trivial
theorem tw28544447335623941 : True := trivial
theorem tw13978191482073205232 : True := trivial
theorem tw14408414328821172586 : True := trivial
theorem tw389057206731681769 : True := trivial
theorem tw5930913173296484924 : True := trivial
theorem tw9393667413870640279 : True := trivial
theorem tw2475661521039169282 : True := trivial
theorem tw10525019224708796463 : True := trivial
theorem tw12690828948825754394 : True := trivial
theorem tw5451652719965544630 : True := trivial
theorem tw17339997185119121297 : True := trivial
theorem tw2602305527561764625 : True := trivial
theorem tw12923772533350611505 : True := trivial
theorem tw13084449731763847465 : True := trivial
theorem tw4638416766748571977 : True := trivial
theorem tw14819264718830233628 : True := trivial
theorem tw1390595798742274997 : True := trivial
theorem tw9377531945765429494 : True := trivial
theorem tw18431156134688886092 : True := trivial
theorem tw11130483487148652356 : True := trivial
theorem tw16274835098242636551 : True := trivial
theorem tw18118949648248902192 : True := trivial
theorem tw11478949737313292826 : True := trivial
theorem tw5994927297130647099 : True := trivial
theorem tw10137838164872222129 : True := trivial
theorem tw12119661138232648475 : True := trivial
theorem tw16838112953585717868 : True := trivial
theorem tw432092135734510682 : True := trivial
theorem tw6599493196020539687 : True := trivial
theorem tw4489005368083488469 : True := trivial
theorem tw9442128041523070372 : True := trivial
theorem tw11749729732606249166 : True := trivial
theorem tw15461861684189330625 : True := trivial
theorem tw17929408884575867933 : True := trivial
theorem tw7776109558165252161 : True := trivial
theorem tw4479585780362951569 : True := trivial
theorem tw15017214997384979379 : True := trivial
theorem tw15702508130345491935 : True := trivial
theorem tw640610583679383717 : True := trivial
theorem tw4705288524120901683 : True := trivial
theorem tw7031404001140754513 : True := trivial
theorem tw7192940225358475652 : True := trivial
theorem tw5822836809313310785 : True := trivial
theorem tw15505540029254945861 : True := trivial
theorem tw4892531679742369750 : True := trivial
theorem tw10785401941593204999 : True := trivial
theorem tw11780894300817746667 : True := trivial
theorem tw13497279771614915208 : True := trivial
theorem tw13176828569178036321 : True := trivial
theorem tw12632952764854356623 : True := trivial
theorem tw6803805141309285471 : True := trivial
theorem tw2251120309967381999 : True := trivial
theorem tw180547490035048251 : True := trivial
theorem tw15563097759762020262 : True := trivial
theorem tw7861824375112911891 : True := trivial
theorem tw1412622873497442521 : True := trivial
theorem tw17261908699595247201 : True := trivial
theorem tw17355580240278943657 : True := trivial
theorem tw3579752089718661159 : True := trivial
end PySem.W.Fast
open PySem PySem.W PyProof.Rows
set_option maxRecDepth 100000 in
set_option maxHeartbeats 0 in
theorem PySem.Challenge.cw_secondread_k20_brought_holds : PySem.Challenge.rw_secondread_k20_brought.Holds := by
  w_on; o_law; k_head; (case hw => w_witness2)
  k_fill
  refine Prf.walk (l := PySem.Challenge.rw_secondread_k20_brought) rfl rfl (fun w h Y => PySem.W.kIn_of Y) ?F
  case F =>
    intro w mg fa h KX G hmg
    refine' Prf.all_mk KX G hmg ?aC_Exam ?a0 ?i0 ?l0 ?c0 ?k0 ?a1 ?l1 ?c1 ?k1 ?a2 ?l2 ?c2 ?k2 ?a3 ?l3 ?c3 ?k3 ?a4 ?i4 ?l4 ?c4 ?k4 ?a5 ?i5 ?l5 ?c5 ?k5 ?a6 ?i6 ?l6 ?c6 ?k6 ?a7 ?i7 ?l7 ?c7 ?k7 ?a8 ?l8 ?c8 ?k8 ?a9 ?l9 ?c9 ?k9 ?a10 ?i10 ?l10 ?c10 ?k10 ?a11 ?i11 ?l11 ?c11 ?k11 ?a12 ?l12 ?c12 ?k12 ?a13 ?i13 ?l13 ?c13 ?k13 ?a14 ?l14 ?c14 ?k14 ?a15 ?l15 ?c15 ?k15 ?a16 ?l16 ?c16 ?k16 ?a17 ?l17 ?c17 ?k17 ?a18 ?l18 ?c18 ?k18 ?a19 ?i19 ?l19 ?c19 ?k19 ?a20 ?i20 ?l20 ?c20 ?k20 ?a21 ?l21 ?c21 ?k21 ?a22 ?i22 ?l22 ?c22 ?k22 ?a23 ?i23 ?l23 ?c23 ?k23 ?a24 ?l24 ?c24 ?k24 ?a25 ?l25 ?c25 ?k25 ?a26 ?i26 ?l26 ?c26 ?k26 ?a27 ?l27 ?c27 ?k27 ?a28 ?l28 ?c28 ?k28 ?a29 ?i29 ?l29 ?c29 ?k29 ?a30 ?l30 ?c30 ?k30 ?a31 ?i31 ?l31 ?c31 ?k31 ?a32 ?l32 ?c32 ?k32 ?pg_Exam ?hd_Exam ?po_Exam ?sa_Exam ?mk_Exam ?kc_Exam ?n_Exam_paper_houses ?n_Exam_reader_rows ?n_Exam_widest_step ?n_Exam_is_dealt ?n_Exam_named_readers ?n_Exam_entered_points ?v_MOST_HOUSES ?v_MOST_PAPERS ?v_MOST_LIMIT ?v_MOST_READERS ?z_abs ?z_bool ?z_enumerate ?z_int ?z_isinstance ?z_len ?z_list ?z_min ?z_range ?z_sorted ?z_sum ?z_zip
    (case aC_Exam => k_is)
    (case a0 => k_is)
    (case i0 => k_is)
    (case l0 => k_is)
    (case c0 => k_is)
    (case k0 => k_is)
    (case a1 => k_is)
    (case l1 => k_is)
    (case c1 => k_is)
    (case k1 => k_is)
    (case a2 => k_is)
    (case l2 => k_is)
    (case c2 => k_is)
    (case k2 => k_is)
    (case a3 => k_is)
    (case l3 => k_is)
    (case c3 => k_is)
    (case k3 => k_is)
    (case a4 => k_is)
    (case i4 => k_is)
    (case l4 => k_is)
    (case c4 => k_is)
    (case k4 => k_is)
    (case a5 => k_is)
    (case i5 => k_is)
    (case l5 => k_is)
    (case c5 => k_is)
    (case k5 => k_is)
    (case a6 => k_is)
    (case i6 => k_is)
    (case l6 => k_is)
    (case c6 => k_is)
    (case k6 => k_is)
    (case a7 => k_is)
    (case i7 => k_is)
    (case l7 => k_is)
    (case c7 => k_is)
    (case k7 => k_is)
    (case a8 => k_is)
    (case l8 => k_is)
    (case c8 => k_is)
    (case k8 => k_is)
    (case a9 => k_is)
    (case l9 => k_is)
    (case c9 => k_is)
    (case k9 => k_is)
    (case a10 => k_is)
    (case i10 => k_is)
    (case l10 => k_is)
    (case c10 => k_is)
    (case k10 => k_is)
    (case a11 => k_is)
    (case i11 => k_is)
    (case l11 => k_is)
    (case c11 => k_is)
    (case k11 => k_is)
    (case a12 => k_is)
    (case l12 => k_is)
    (case c12 => k_is)
    (case k12 => k_is)
    (case a13 => k_is)
    (case i13 => k_is)
    (case l13 => k_is)
    (case c13 => k_is)
    (case k13 => k_is)
    (case a14 => k_is)
    (case l14 => k_is)
    (case c14 => k_is)
    (case k14 => k_is)
    (case a15 => k_is)
    (case l15 => k_is)
    (case c15 => k_is)
    (case k15 => k_is)
    (case a16 => k_is)
    (case l16 => k_is)
    (case c16 => k_is)
    (case k16 => k_is)
    (case a17 => k_is)
    (case l17 => k_is)
    (case c17 => k_is)
    (case k17 => k_is)
    (case a18 => k_is)
    (case l18 => k_is)
    (case c18 => k_is)
    (case k18 => k_is)
    (case a19 => k_is)
    (case i19 => k_is)
    (case l19 => k_is)
    (case c19 => k_is)
    (case k19 => k_is)
    (case a20 => k_is)
    (case i20 => k_is)
    (case l20 => k_is)
    (case c20 => k_is)
    (case k20 => k_is)
    (case a21 => k_is)
    (case l21 => k_is)
    (case c21 => k_is)
    (case k21 => k_is)
    (case a22 => k_is)
    (case i22 => k_is)
    (case l22 => k_is)
    (case c22 => k_is)
    (case k22 => k_is)
    (case a23 => k_is)
    (case i23 => k_is)
    (case l23 => k_is)
    (case c23 => k_is)
    (case k23 => k_is)
    (case a24 => k_is)
    (case l24 => k_is)
    (case c24 => k_is)
    (case k24 => k_is)
    (case a25 => k_is)
    (case l25 => k_is)
    (case c25 => k_is)
    (case k25 => k_is)
    (case a26 => k_is)
    (case i26 => k_is)
    (case l26 => k_is)
    (case c26 => k_is)
    (case k26 => k_is)
    (case a27 => k_is)
    (case l27 => k_is)
    (case c27 => k_is)
    (case k27 => k_is)
    (case a28 => k_is)
    (case l28 => k_is)
    (case c28 => k_is)
    (case k28 => k_is)
    (case a29 => k_is)
    (case i29 => k_is)
    (case l29 => k_is)
    (case c29 => k_is)
    (case k29 => k_is)
    (case a30 => k_is)
    (case l30 => k_is)
    (case c30 => k_is)
    (case k30 => k_is)
    (case a31 => k_is)
    (case i31 => k_is)
    (case l31 => k_is)
    (case c31 => k_is)
    (case k31 => k_is)
    (case a32 => k_is)
    (case l32 => k_is)
    (case c32 => k_is)
    (case k32 => k_is)
    (case pg_Exam => k_is)
    (case hd_Exam => k_is)
    (case po_Exam => k_is)
    (case sa_Exam => k_is)
    (case mk_Exam => k_is)
    (case kc_Exam => k_is)
    (case n_Exam_paper_houses => k_is)
    (case n_Exam_reader_rows => k_is)
    (case n_Exam_widest_step => k_is)
    (case n_Exam_is_dealt => k_is)
    (case n_Exam_named_readers => k_is)
    (case n_Exam_entered_points => k_is)
    (case v_MOST_HOUSES => k_is)
    (case v_MOST_PAPERS => k_is)
    (case v_MOST_LIMIT => k_is)
    (case v_MOST_READERS => k_is)
    (case z_abs => k_is)
    (case z_bool => k_is)
    (case z_enumerate => k_is)
    (case z_int => k_is)
    (case z_isinstance => k_is)
    (case z_len => k_is)
    (case z_list => k_is)
    (case z_min => k_is)
    (case z_range => k_is)
    (case z_sorted => k_is)
    (case z_sum => k_is)
    (case z_zip => k_is)
