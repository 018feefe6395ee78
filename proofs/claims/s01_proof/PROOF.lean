import PyProof.Rows.All
import Wide.All
import OpenK.AllK
import Wide.FinOn
import PyProof.EqAt
import PyProof.EqKinds
import PyProof.TupleCall
import KE.BitLaws
import KE.OsGo
import PySem.Challenge.RW_fivestages_s01_answers
set_option Elab.async false
set_option linter.all false
set_option maxRecDepth 100000
namespace L2
open PySem PySem.Spec PyProof.Rows

/-- a key: an int or a str -/
abbrev Key := Sum Int Str
def keyIs : Key → Value → Bool
  | .inl k, v => Value.isInt k v
  | .inr x, v => Value.isStrOf x v
def keyH (w : World) : Key → Int
  | .inl k => hashInt k
  | .inr x => hashStr w x
theorem keyIs_shape : ∀ {k : Key} {v : Value}, keyIs k v = true → (∃ i t, k = Sum.inl i ∧ v = Value.int i t) ∨ (∃ x t, k = Sum.inr x ∧ v = Value.str x t)
  | .inl i, v, h => by
    obtain ⟨t, e⟩ := Value.isInt_shape (k := i) (v := v) h
    exact .inl ⟨i, t, rfl, e⟩
  | .inr x, v, h => by
    obtain ⟨t, e⟩ := Value.isStrOf_shape (x := x) (v := v) h
    exact .inr ⟨x, t, rfl, e⟩
theorem keyIs_int (i : Int) (t : Tok) : keyIs (.inl i) (.int i t) = true := by simp [keyIs, Value.isInt]
theorem keyIs_str (x : Str) (t : Tok) : keyIs (.inr x) (.str x t) = true := by simp [keyIs, Value.isStrOf]
theorem key_ll (a b : Int) : decide ((Sum.inl a : Key) = Sum.inl b) = (a == b) := by
  by_cases e : a = b
  · subst e; simp
  · have h : ¬ (Sum.inl a : Key) = Sum.inl b := fun q => e (Sum.inl.inj q)
    rw [decide_eq_false h]
    exact (beq_eq_false_iff_ne.mpr e).symm
theorem key_rr (a b : Str) : decide ((Sum.inr a : Key) = Sum.inr b) = decide (a = b) := by
  by_cases e : a = b
  · subst e; simp
  · have h : ¬ (Sum.inr a : Key) = Sum.inr b := fun q => e (Sum.inr.inj q)
    rw [decide_eq_false h, decide_eq_false e]
theorem key_lr (a : Int) (b : Str) : decide ((Sum.inl a : Key) = Sum.inr b) = false := decide_eq_false (fun q => nomatch q)
theorem key_rl (a : Str) (b : Int) : decide ((Sum.inr a : Key) = Sum.inl b) = false := decide_eq_false (fun q => nomatch q)

def mixKind (prog : Program) (w : World) : PySem.KeyKind prog w Key where
  is := keyIs
  hash := keyH w
  inj := fun v a b ha hb => by
    rcases keyIs_shape ha with ⟨i, t, rfl, rfl⟩ | ⟨x, t, rfl, rfl⟩
    · rcases keyIs_shape hb with ⟨j, u, rfl, e⟩ | ⟨y, u, rfl, e⟩
      · injection e with e1 _; rw [e1]
      · exact nomatch e
    · rcases keyIs_shape hb with ⟨j, u, rfl, e⟩ | ⟨y, u, rfl, e⟩
      · exact nomatch e
      · injection e with e1 _; rw [e1]
  byValue := fun k v h => by
    rcases keyIs_shape h with ⟨i, t, rfl, rfl⟩ | ⟨x, t, rfl, rfl⟩ <;> rfl
  pyHash := fun hv h => by
    rcases keyIs_shape hv with ⟨i, t, rfl, rfl⟩ | ⟨x, t, rfl, rfl⟩
    · exact wpAny_pyHash_int h
    · exact wpAny_pyHash_str h
  eqBool := fun hu hv h => by
    rcases keyIs_shape hu with ⟨i, t, rfl, rfl⟩ | ⟨x, t, rfl, rfl⟩
    · rcases keyIs_shape hv with ⟨j, u, rfl, rfl⟩ | ⟨y, u, rfl, rfl⟩
      · rw [key_ll] at h; exact wpAny_eqBool_int h
      · rw [key_lr] at h; exact SeqAt.EqAt.int_str i t y u _ _ _ _ h
    · rcases keyIs_shape hv with ⟨j, u, rfl, rfl⟩ | ⟨y, u, rfl, rfl⟩
      · rw [key_rl] at h; exact SeqAt.EqAt.str_int x t j u _ _ _ _ h
      · rw [key_rr] at h; exact wpAny_eqBool_str h
  «strs» := fun k x t v h => by
    rcases keyIs_shape h with ⟨i, u, rfl, e⟩ | ⟨y, u, rfl, e⟩
    · exact nomatch e
    · injection e with e1 _
      subst e1
      cases v <;> rfl
theorem mixKind_int (prog : Program) (w : World) (i : Int) (t : Tok) : (mixKind prog w).is (.inl i) (.int i t) = true := keyIs_int i t
theorem mixKind_str (prog : Program) (w : World) (x : Str) (t : Tok) : (mixKind prog w).is (.inr x) (.str x t) = true := keyIs_str x t
end L2

namespace L2
open PySem PySem.Spec PyProof.Rows

/-- a value, without the heap -/
inductive V where
  | non | bl (b : Bool) | int (i : Int) | str (x : Str) | byt (b : Array UInt8) | flt (b : UInt64) | ref (a : Addr) | ty (n : String)
  deriving DecidableEq

def RelV : V → Value → Prop
  | .non, u => u = Value.none
  | .bl b, u => u = Value.bool b
  | .int i, u => ∃ t, u = Value.int i t
  | .str x, u => ∃ t, u = Value.str x t
  | .byt b, u => ∃ t, u = Value.bytes b t
  | .flt b, u => ∃ t, u = Value.float b t
  | .ref a, u => u = Value.ref a
  | .ty n, u => u = Value.type n

abbrev Vals : List V → List Value → Prop := Paired RelV
theorem Vals.length {xs : List V} {us : List Value} (r : Vals xs us) : xs.length = us.length := Paired.length r
theorem Vals.get : ∀ {xs : List V} {us : List Value} {i : Nat} {x : V}, Vals xs us → xs[i]? = some x → ∃ u, us[i]? = some u ∧ RelV x u
  | _, _, _, _, .nil, e => by simp at e
  | _, _, 0, _, .cons r _, e => by simp at e; subst e; exact ⟨_, rfl, r⟩
  | _, _, i + 1, x, .cons _ t, e => by
    obtain ⟨u, h1, h2⟩ := Vals.get (i := i) (x := x) t (by simpa using e)
    exact ⟨u, by simpa using h1, h2⟩
theorem Vals.set {x : V} {u : Value} (r : RelV x u) : ∀ {xs : List V} {us : List Value} (i : Nat), Vals xs us → Vals (xs.set i x) (us.set i u)
  | _, _, _, .nil => .nil
  | _, _, 0, .cons _ t => .cons r t
  | _, _, i + 1, .cons q t => .cons q (Vals.set r i t)
theorem Vals.append : ∀ {xs ys : List V} {us ws : List Value}, Vals xs us → Vals ys ws → Vals (xs ++ ys) (us ++ ws)
  | _, _, _, _, .nil, s => s
  | _, _, _, _, .cons r t, s => .cons r (Vals.append t s)
theorem Vals.take : ∀ {xs : List V} {us : List Value} (n : Nat), Vals xs us → Vals (xs.take n) (us.take n)
  | _, _, 0, _ => .nil
  | _, _, _ + 1, .nil => .nil
  | _, _, n + 1, .cons r t => .cons r (Vals.take n t)
theorem Vals.drop : ∀ {xs : List V} {us : List Value} (n : Nat), Vals xs us → Vals (xs.drop n) (us.drop n)
  | _, _, 0, r => r
  | _, _, _ + 1, .nil => .nil
  | _, _, n + 1, .cons _ t => Vals.drop n t

def RelO : Option V → Option Value → Prop
  | some v, some u => RelV v u
  | none, none => True
  | _, _ => False
def KV {κ : Type} : List (κ × V) → List (κ × Value) → Prop := Paired fun (p : κ × V) (q : κ × Value) => p.1 = q.1 ∧ RelV p.2 q.2

/-- a key of a dict (00_mix): an int or a text -/
def kV : Key → V
  | .inl i => .int i
  | .inr x => .str x

/-- what stands at a tracked address -/
inductive HO where
  /-- a list -/
  | lst (xs : List V)
  /-- a tuple (never changes) -/
  | tup (xs : List V)
  /-- a dict whose keys are ints and texts; one whose keys are tuples of ints and texts (the empty one is both) -/
  | dK (kvs : List (Key × V)) | dT (kvs : List (List Key × V))
  /-- a set of ints: its members, its size -/
  | set (S : Int → Bool) (n : Nat)
  /-- an instance of the class at C, its dict at dx, its attributes -/
  | ins (C dx : Addr) (fs : List (Str × V))
  /-- the dict of the instance at x -/
  | own (x : Addr)
  /-- the dict of an exception -/
  | xd (fs : List (Str × V))
  /-- a bound method, f of x -/
  | met (f x : Addr)
  /-- a range object lo, lo + 1, .. below hi -/
  | rng (lo hi : Int)
  /-- a thing that is known to the object (the script; a dict while a loop walks it): read, never written while it is so -/
  | frz (o : Obj) (u : HO)
  /-- a code object's table -/
  | tbl (ps : Array Value)
  /-- any other thing, by what is true of its one object (a def of one's own: SetO a S n := HO.ext fun h => ..) -/
  | ext (φ : Heap → Prop)

abbrev Hp := Addr → Option HO
def upd (H : Hp) (a : Addr) (o : HO) : Hp := fun b => if b = a then some o else H b
theorem upd_same {H : Hp} {a : Addr} {o : HO} : upd H a o a = some o := by unfold upd; rw [if_pos rfl]
theorem upd_ne {H : Hp} {a b : Addr} {o : HO} (h : b ≠ a) : upd H a o b = H b := by unfold upd; rw [if_neg h]
theorem upd_upd {H : Hp} {a : Addr} {o u : HO} : upd (upd H a o) a u = upd H a u := by
  funext b; unfold upd; split <;> rfl
/-- two objects of different content stand apart -/
theorem ne_of {H : Hp} {a b : Addr} {o u : HO} (h : H a = some o) (h' : H b = some u) (d : o ≠ u) : a ≠ b := by
  intro e; subst e; rw [h] at h'; exact d (Option.some.inj h')
theorem ne_of_none {H : Hp} {a b : Addr} {o : HO} (h : H a = some o) (h' : H b = none) : a ≠ b := by
  intro e; subst e; rw [h] at h'; cases h'

section
variable (P : Program) (w : World)
def ObjOk (H : Hp) (h : Heap) (a : Addr) : HO → Prop
  | .lst xs => xs.length ≤ sizeLine ∧ ∃ (its : List Value) (n : Nat), Vals xs its ∧ h.get? a = some { cls := .type "list", data := .seq its.toArray n }
  | .tup xs => xs.length ≤ sizeLine ∧ ∃ its : List Value, Vals xs its ∧ IsTup h a its.toArray
  | .dK kvs => kvs.length ≤ sizeLine ∧ (a == sysModules) = false ∧ ∃ vs, KV kvs vs ∧ h.DictOf (mixKind P w) a vs
  | .dT kvs => kvs.length ≤ sizeLine ∧ (a == sysModules) = false ∧ ∃ xs : List (List Key × Addr × Value),
      Paired (fun (p : List Key × V) (q : List Key × Addr × Value) => p.1 = q.1 ∧ H q.2.1 = some (.tup (p.1.map kV)) ∧ RelV p.2 q.2.2) kvs xs ∧
      ∃ o es ep, h.get? a = some o ∧ o.ExactDict ∧ o.data = .dict es ep ∧ es.toList = xs.map (entryOfKey (tupleKind (mixKind P w))) ∧ (xs.map (·.1)).Nodup
  | .set S n => h.SetOf (intKind P w) a S n
  | .ins C dx fs => H dx = some (.own a) ∧ fs.length ≤ 1000 ∧ dx ≠ a ∧ h.get? a = some (PySem.W.instObj C dx) ∧
      ∃ mA, h.Ns1 dx mA ∧ (∀ f, RelO (fs.lookup f) (mA f)) ∧ PySem.Within mA (fs.map (·.1))
  | .own _ => ∃ o, h.get? a = some o
  | .xd fs => ∃ mA, h.Ns1 a mA ∧ ∀ f, RelO (fs.lookup f) (mA f)
  | .rng lo hi => ∃ t u v, h.get? a = some { cls := .type "range", data := .fields #[.int lo t, .int hi u, .int 1 v] }
  | .frz o u => h.get? a = some o ∧ ObjOk H h a u
  | .tbl ps => h.get? a = some { cls := .none, data := .fields ps }
  | .met f x => h.get? a = some (PySem.W.methodObj (.ref f) (.ref x))
  | .ext φ => φ h ∧ (∃ o, h.get? a = some o) ∧ ∀ h1 h2 : Heap, φ h1 → (∀ o, h1.get? a = some o → h2.get? a = some o) → φ h2
/-- the abstract heap is held -/
def HOk (H : Hp) (h : Heap) : Prop := ∀ a o, H a = some o → ObjOk P w H h a o
end

section
variable {P : Program} {w : World} {H H' : Hp} {h h' : Heap} {a : Addr} {o : HO}
theorem ObjOk.lt (x : ObjOk P w H h a o) : a < h.objs.size := by
  cases o with
  | lst xs => obtain ⟨_, _, _, _, e⟩ := x; exact Heap.lt_size e
  | tup xs => obtain ⟨_, _, _, p⟩ := x; exact p.lt
  | dK kvs => obtain ⟨_, _, _, _, o, _, _, e, _⟩ := x; exact Heap.lt_size e
  | dT kvs => obtain ⟨_, _, _, _, o, _, _, e, _⟩ := x; exact Heap.lt_size e
  | set S n => obtain ⟨o, _, _, _, e, _⟩ := x; exact Heap.lt_size e
  | ins C dx fs => obtain ⟨_, _, _, e, _⟩ := x; exact Heap.lt_size e
  | own y => obtain ⟨_, e⟩ := x; exact Heap.lt_size e
  | xd fs => obtain ⟨_, ⟨_, _, _, e, _⟩, _⟩ := x; exact Heap.lt_size e
  | rng lo hi => obtain ⟨_, _, _, e⟩ := x; exact Heap.lt_size e
  | frz ob u => obtain ⟨e, _⟩ := x; exact Heap.lt_size e
  | tbl ps => exact Heap.lt_size (show h.get? a = some _ from x)
  | met f y => exact Heap.lt_size (show h.get? a = some _ from x)
  | ext φ => obtain ⟨_, ⟨_, e⟩, _⟩ := x; exact Heap.lt_size e
theorem Paired.mapP {α β : Type} {F G : α → β → Prop} : ∀ {l₁ : List α} {l₂ : List β}, Paired F l₁ l₂ → (∀ a b, F a b → G a b) → Paired G l₁ l₂
  | _, _, .nil, _ => .nil
  | _, _, .cons r t, f => .cons (f _ _ r) (Paired.mapP t f)
/-- what an object's description leans on: its own object, its own dict, the tuples -/
theorem ObjOk.stay (x : ObjOk P w H h a o) (k : ∀ b u, (b = a ∨ H b = some (.own a)) → h.get? b = some u → h'.get? b = some u)
    (ho : ∀ b, H b = some (.own a) → H' b = some (.own a)) (ht : ∀ b xs, H b = some (.tup xs) → H' b = some (.tup xs)) : ObjOk P w H' h' a o := by
  induction o with
  | lst xs => obtain ⟨z, its, n, r, e⟩ := x; exact ⟨z, its, n, r, k _ _ (.inl rfl) e⟩
  | tup xs => obtain ⟨z, its, r, ob, e, c⟩ := x; exact ⟨z, its, r, ob, k _ _ (.inl rfl) e, c⟩
  | dK kvs => obtain ⟨z, y, vs, r, ob, es, ep, e, c⟩ := x; exact ⟨z, y, vs, r, ob, es, ep, k _ _ (.inl rfl) e, c⟩
  | dT kvs =>
    obtain ⟨z, y, xs, r, ob, es, ep, e, c⟩ := x
    exact ⟨z, y, xs, Paired.mapP r fun p q z => ⟨z.1, ht _ _ z.2.1, z.2.2⟩, ob, es, ep, k _ _ (.inl rfl) e, c⟩
  | set S n => obtain ⟨ob, es, ep, t, e, c⟩ := x; exact ⟨ob, es, ep, t, k _ _ (.inl rfl) e, c⟩
  | ins C dx fs =>
    obtain ⟨d, z, ne, e, mA, ⟨od, es, ep, e2, c⟩, r⟩ := x
    exact ⟨ho _ d, z, ne, k _ _ (.inl rfl) e, mA, ⟨od, es, ep, k _ _ (.inr d) e2, c⟩, r⟩
  | own y => obtain ⟨ob, e⟩ := x; exact ⟨ob, k _ _ (.inl rfl) e⟩
  | xd fs => obtain ⟨mA, ⟨od, es, ep, e, c⟩, r⟩ := x; exact ⟨mA, ⟨od, es, ep, k _ _ (.inl rfl) e, c⟩, r⟩
  | rng lo hi => obtain ⟨t, u, v, e⟩ := x; exact ⟨t, u, v, k _ _ (.inl rfl) e⟩
  | frz ob u ih => obtain ⟨e, q⟩ := x; exact ⟨k _ _ (.inl rfl) e, ih q⟩
  | tbl ps =>
    have e : h.get? a = some { cls := .none, data := .fields ps } := x
    show h'.get? a = some { cls := .none, data := .fields ps }
    exact k a _ (.inl rfl) e
  | met f y =>
    have e : h.get? a = some (PySem.W.methodObj (.ref f) (.ref y)) := x
    show h'.get? a = some (PySem.W.methodObj (.ref f) (.ref y))
    exact k a _ (.inl rfl) e
  | ext φ => obtain ⟨p, ⟨o, e⟩, st⟩ := x; exact ⟨st _ _ p fun o q => k _ _ (.inl rfl) q, ⟨o, k _ _ (.inl rfl) e⟩, st⟩
theorem HOk.lt (x : HOk P w H h) (e : H a = some o) : a < h.objs.size := (x a o e).lt
theorem HOk.fresh (x : HOk P w H h) (e : h.objs.size ≤ a) : H a = none := by
  cases q : H a with
  | none => rfl
  | some u => exact absurd (Nat.lt_of_lt_of_le (x.lt q) e) (Nat.lt_irrefl _)
/-- every object of the heap is kept -/
theorem HOk.kept (x : HOk P w H h) (k : ∀ b u, h.get? b = some u → h'.get? b = some u) : HOk P w H h' := fun a o e =>
  (x a o e).stay (fun b u _ q => k b u q) (fun _ q => q) fun _ _ q => q
/-- a new object is laid and tracked -/
theorem HOk.laid (x : HOk P w H h) (k : ∀ b u, h.get? b = some u → h'.get? b = some u) (hp : h.objs.size ≤ a) (new : ObjOk P w (upd H a o) h' a o) : HOk P w (upd H a o) h' := fun b u e => by
  have hn := x.fresh hp
  by_cases hb : b = a
  · subst hb; rw [upd_same] at e; cases e; exact new
  · rw [upd_ne hb] at e
    exact (x b u e).stay (fun c v _ q => k c v q) (fun c q => by rw [upd_ne (ne_of_none q hn)]; exact q) fun c xs q => by rw [upd_ne (ne_of_none q hn)]; exact q
end

/-- what may be read as u: it is u, or a known u -/
def Rd (H : Hp) (a : Addr) (u : HO) : Prop := H a = some u ∨ ∃ o, H a = some (.frz o u)
theorem Rd.ok {P : Program} {w : World} {H : Hp} {h : Heap} {a : Addr} {u : HO} (r : Rd H a u) (x : HOk P w H h) : ObjOk P w H h a u := by
  rcases r with r | ⟨o, r⟩
  · exact x a u r
  · obtain ⟨_, q⟩ := x a _ r
    exact q
/-- what may be written -/
def Mut : Option HO → Prop
  | some (.lst _) => True
  | some (.dK _) => True
  | some (.dT _) => True
  | some (.set _ _) => True
  | some (.ins _ _ _) => True
  | some (.ext _) => True
  | _ => False
section
variable {P : Program} {w : World} {H : Hp} {h h' : Heap} {x e : Addr} {o' : HO}
/-- the object at e is changed: x itself, or the dict of the instance x -/
theorem HOk.write (ok : HOk P w H h) (mu : Mut (H x)) (he : e = x ∨ H e = some (.own x)) (k : ∀ b u, b ≠ e → h.get? b = some u → h'.get? b = some u) (heo : ∃ u, h'.get? e = some u)
    (new : ObjOk P w (upd H x o') h' x o') : HOk P w (upd H x o') h' := fun b u q => by
  have nown : ∀ c y, H c = some (.own y) → c ≠ x := fun c y r z => by subst z; rw [r] at mu; exact mu
  have ntup : ∀ c xs, H c = some (.tup xs) → c ≠ x := fun c xs r z => by subst z; rw [r] at mu; exact mu
  by_cases hb : b = x
  · subst hb; rw [upd_same] at q; cases q; exact new
  · rw [upd_ne hb] at q
    by_cases hbe : b = e
    · have q' : H b = some (.own x) := by
        rcases he with z | z
        · exact absurd (hbe.trans z) hb
        · rw [hbe]; exact z
      rw [q] at q'; cases q'
      obtain ⟨v, hv⟩ := heo
      exact ⟨v, by rw [hbe]; exact hv⟩
    · refine (ok b u q).stay (fun c v hc r => k c v ?_ r) (fun c r => by rw [upd_ne (nown c b r)]; exact r) fun c xs r => by rw [upd_ne (ntup c xs r)]; exact r
      rcases hc with rfl | hc
      · exact hbe
      · rintro rfl
        rcases he with z | z
        · exact nown c b hc z
        · rw [hc] at z; cases z; exact hb rfl
end

structure Un (fs ex : List Addr) (H H' : Hp) (h h' : Heap) : Prop where
  keep : ∀ b o, h.get? b = some o → H b = none → b ∉ fs → b ∉ ex → h'.get? b = some o
  slot : ∀ b o, h.get? b = some o → H b = none → b ∈ fs → b ∉ ex → ∃ sl, h'.get? b = some { o with slots := sl }
  free : ∀ b o, h.get? b = some o → H b = none → b ∉ ex → H' b = none
  there : ∀ b o, h.get? b = some o → b ∉ ex → ∃ o', h'.get? b = some o'
  tups : ∀ b xs, H b = some (.tup xs) → H' b = some (.tup xs)
  frzs : ∀ b o u, H b = some (.frz o u) → H' b = some (.frz o u)
  tbls : ∀ b ps, H b = some (.tbl ps) → ∃ more, H' b = some (.tbl (ps ++ more))
section
variable {fs fs' ex ex' : List Addr} {H H1 H2 : Hp} {h h1 h2 h' : Heap} {a x e : Addr} {o : HO}
theorem Un.any (u : Un fs ex H H1 h h1) {b : Addr} {ob : Obj} (q : h.get? b = some ob) (n : H b = none) (hx : b ∉ ex) : ∃ sl, h1.get? b = some { ob with slots := sl } := by
  by_cases hb : b ∈ fs
  · exact u.slot b ob q n hb hx
  · exact ⟨ob.slots, u.keep b ob q n hb hx⟩
theorem Un.kept (k : ∀ b u, h.get? b = some u → h'.get? b = some u) : Un fs ex H H h h' :=
  ⟨fun b ob q _ _ _ => k b ob q, fun b ob q _ _ _ => ⟨ob.slots, k b ob q⟩, fun _ _ _ n _ => n, fun b ob q _ => ⟨ob, k b ob q⟩, fun _ _ q => q, fun _ _ _ q => q, fun _ ps q => ⟨#[], by rw [q]; simp⟩⟩
theorem Un.refl : Un fs ex H H h h := Un.kept fun _ _ q => q
theorem Un.laid (k : ∀ b u, h.get? b = some u → h'.get? b = some u) (hp : h.objs.size ≤ a) (hn : H a = none) : Un fs ex H (upd H a o) h h' where
  keep := fun b u q _ _ _ => k b u q
  slot := fun b u q _ _ _ => ⟨u.slots, k b u q⟩
  free := fun b u q n _ => by rw [upd_ne (Nat.ne_of_lt (Nat.lt_of_lt_of_le (Heap.lt_size q) hp))]; exact n
  there := fun b u q _ => ⟨u, k b u q⟩
  tups := fun b xs q => by rw [upd_ne (ne_of_none q hn)]; exact q
  frzs := fun b u xs q => by rw [upd_ne (ne_of_none q hn)]; exact q
  tbls := fun b ps q => ⟨#[], by rw [upd_ne (ne_of_none q hn), q]; simp⟩
theorem Un.write (mu : Mut (H x)) (he : e = x ∨ H e = some (.own x)) (k : ∀ b u, b ≠ e → h.get? b = some u → h'.get? b = some u) (heo : ∃ u, h'.get? e = some u) : Un fs ex H (upd H x o) h h' := by
  have hx : ∀ b, H b = none → b ≠ x := fun b n z => by subst z; rw [n] at mu; exact mu
  have hb : ∀ b, H b = none → b ≠ e := fun b n z => by
    subst z
    rcases he with r | r
    · exact hx b n r
    · rw [n] at r; cases r
  have hm : ∀ b u, H b = some u → ¬ Mut (some u) → b ≠ x := fun b u q nm z => by subst z; rw [q] at mu; exact nm mu
  refine ⟨fun b u q n _ _ => k b u (hb b n) q, fun b u q n _ _ => ⟨u.slots, k b u (hb b n) q⟩, fun b u q n _ => by rw [upd_ne (hx b n)]; exact n, fun b u q _ => ?_,
    fun b xs q => by rw [upd_ne (hm b _ q fun z => z)]; exact q, fun b u xs q => by rw [upd_ne (hm b _ q fun z => z)]; exact q, fun b ps q => ⟨#[], by rw [upd_ne (hm b _ q fun z => z), q]; simp⟩⟩
  by_cases hbe : b = e
  · subst hbe; exact heo
  · exact ⟨u, k b u hbe q⟩
end

def trk (h : Heap) (H : Hp) : List Addr := (List.range h.objs.size).filter fun a => (H a).isSome
def hidT (h : Heap) (H : Hp) : Heap := PySem.W.hideAll h (trk h H)
theorem hidT_size (h : Heap) (H : Hp) : (hidT h H).objs.size = h.objs.size := PySem.W.hideAll_size _ _
theorem hidT_get {h : Heap} {H : Hp} {b : Addr} {o : Obj} (e : h.get? b = some o) (n : H b = none) : (hidT h H).get? b = some o :=
  PySem.W.hideAll_get _ e fun hm => by
    have q : (H b).isSome = true := (List.mem_filter.mp hm).2
    rw [n] at q; simp at q
theorem of_hidT {h : Heap} {H : Hp} {b : Addr} {o : Obj} (e : (hidT h H).get? b = some o) : h.get? b = some o ∧ H b = none := by
  have e' : h.get? b = some o := PySem.W.of_hideAll (trk h H) e
  refine ⟨e', ?_⟩
  cases q : H b with
  | none => rfl
  | some x =>
    have hm : b ∈ trk h H := List.mem_filter.mpr ⟨List.mem_range.mpr (Heap.lt_size e'), by simp [q]⟩
    have z : (hidT h H).get? b = none := PySem.W.hideAll_none (trk h H) hm
    rw [z] at e; cases e
end L2

namespace L2
open PySem PySem.Spec PyProof.Rows

/-- the module's facts, over the base: the heap at the law's entry without what is tracked there -/
structure Mod (K : PySem.W.Frag) (mg : Str → Option Value) (base : Heap) : Prop where
  kin : K.In base
  glob : base.Ns mainGlobals mg
  blt : ∃ mb, base.Ns builtinsNs mb ∧ ∀ x : Str, x ≠ "__name__" → mb x = bootBuiltins x
  nolimit : base.NoLimit

/-- the context: a def's body (or a comprehension's block) running. base: fixed through the whole law; s₀, H₀: the entry; outer: the frames whose slots others may change (a def's callers); stack: all frames that run;
   ex: iterators that were made ahead of the entry and are walked here (a comprehension's); fn: the names whose cells were made at the entry (a def: all; a comprehension's block: its own); calm: not within an except suite; pn: pins that every state bears; xe: what is wanted of an exception that leaves the code -/
structure Cx where
  prog : Program
  w : World
  K : PySem.W.Frag
  mg : Str → Option Value
  base : Heap
  A : Around
  N : List Str
  s_0 : Shared
  H_0 : Hp
  env : Env
  outer : List Env
  stack : List Env
  ex : List Addr
  fn : Str → Bool
  calm : Bool
  pn : List (Addr × Obj)
  xe : Value → Shared → Prop
/-- the callers' frames -/
def frs (l : List Env) : List Addr := l.filterMap (·.frame)
abbrev Cx.fs (X : Cx) : List Addr := frs X.outer

def Vis (sc : Scope) (x : Str) : Prop := sc.names.lookup x = some .local ∨ sc.names.lookup x = some .cell ∨ sc.names.lookup x = some .free
def Loc (sc : Scope) (x : Str) : Prop := sc.names.lookup x = some .local ∨ sc.names.lookup x = some .cell
def Look (env : Env) (h : Heap) (m : Str → Option Value) (x : Str) (u : Value) : Prop :=
  (env.kindOf x = some .local ∧ m x = some u) ∨ ((env.kindOf x = some .cell ∨ env.kindOf x = some .free) ∧ ∃ c, env.cells.lookup x = some c ∧ h.IsCell c (some u))

structure Cx.Ok (X : Cx) : Prop where
  mod : Mod X.K X.mg X.base
  kind : X.env.scope.kind = .function
  glob : X.env.globals = mainGlobals
  blt : X.env.builtins = builtinsNs
  above : X.s_0.heap.objs.size ≤ X.env.locals
  inj : ∀ x y c, X.env.cells.lookup x = some c → X.env.cells.lookup y = some c → x = y
  has : ∀ x, (X.env.kindOf x = some .cell ∨ X.env.kindOf x = some .free) → ∃ c, X.env.cells.lookup x = some c
  cab : ∀ x c, X.fn x = true → X.env.cells.lookup x = some c → X.s_0.heap.objs.size ≤ c
  hd : X.calm = true → X.A.handled = none
  frames : X.A.frames = some X.stack
  stk : X.stack = X.outer ∨ (X.stack = X.env :: X.outer ∧ X.env.frame = some X.env.locals)
  exf : ∀ b ∈ X.ex, b ≠ X.env.locals ∧ ∀ x c, X.env.cells.lookup x = some c → c ≠ b
  bs : ∀ b o, X.base.get? b = some o → X.s_0.heap.get? b = some o ∧ X.H_0 b = none
  bsz : X.base.objs.size ≤ X.s_0.heap.objs.size
  noex : ∀ b o, X.base.get? b = some o → b ∉ X.ex
  exfs : ∀ b ∈ X.ex, b ∉ X.fs
  funs : X.s_0.heap.FunFrames X.base X.outer
  frf : ∀ b ∈ X.fs, X.H_0 b = none

structure Inv (X : Cx) (pins : List (Addr × Obj)) (σ : List (Option V)) (H : Hp) (s : Shared) : Prop where
  ok : X.Ok
  os : s.os = X.s_0.os
  bare : AllBare s.gens
  base : Un X.fs X.ex X.H_0 H X.s_0.heap s.heap
  loc : ∃ m, s.heap.Ns X.env.locals m ∧ ∀ (i : Nat) (x : Str) (v : V), X.N[i]? = some x → σ[i]? = some (some v) → Vis X.env.scope x → ∃ u, RelV v u ∧ Look X.env s.heap m x u
  cell : ∀ x c, X.env.cells.lookup x = some c → ∃ v, s.heap.IsCell c v
  free : H X.env.locals = none
  freeC : ∀ x c, X.env.cells.lookup x = some c → H c = none
  pin : ∀ p ∈ X.pn ++ pins, s.heap.get? p.1 = some p.2 ∧ H p.1 = none ∧ p.1 ≠ X.env.locals ∧ p.1 ∉ X.fs ∧ ∀ v, p.2.data ≠ .cell v
  hok : HOk X.prog X.w H s.heap
  len : σ.length = X.N.length

section
variable {X : Cx} {pins : List (Addr × Obj)} {σ : List (Option V)} {H H' : Hp} {s : Shared} {h' : Heap}

theorem Cx.Ok.nofr (ok : X.Ok) {b : Addr} {o : Obj} (e : X.base.get? b = some o) : b ∉ X.fs := fun hb => by
  have := (ok.funs.mem hb).1
  rw [e] at this; cases this
theorem Inv.bs (I : Inv X pins σ H s) : ∀ b o, X.base.get? b = some o → s.heap.get? b = some o ∧ H b = none := fun b o e =>
  ⟨I.base.keep b o (I.ok.bs b o e).1 (I.ok.bs b o e).2 (I.ok.nofr e) (I.ok.noex b o e), I.base.free b o (I.ok.bs b o e).1 (I.ok.bs b o e).2 (I.ok.noex b o e)⟩
theorem Inv.bk (I : Inv X pins σ H s) : ∀ b o, X.base.get? b = some o → s.heap.get? b = some o := fun b o e => (I.bs b o e).1
theorem Inv.mod (I : Inv X pins σ H s) : Mod X.K X.mg X.base := I.ok.mod
theorem Inv.kIn (I : Inv X pins σ H s) : X.K.In s.heap := I.ok.mod.kin.keeps I.bk
/-- the frame over the base: for OpenK's rules (K.In X.base is I.mod.kin) -/
theorem Inv.fr (I : Inv X pins σ H s) : ∃ m, Fr X.base X.env.locals s.heap m :=
  let ⟨m, hn, _⟩ := I.loc
  ⟨m, hn, I.bk, Nat.le_trans I.ok.bsz I.ok.above⟩
theorem Inv.lt (I : Inv X pins σ H s) : X.env.locals < s.heap.objs.size := let ⟨_, hn, _⟩ := I.loc; hn.lt
theorem Inv.sz (I : Inv X pins σ H s) : X.s_0.heap.objs.size ≤ s.heap.objs.size := Nat.le_trans I.ok.above (Nat.le_of_lt I.lt)
theorem Inv.nofs (I : Inv X pins σ H s) {a : Addr} (h : s.heap.objs.size ≤ a) : a ∉ X.fs := fun hb => by
  obtain ⟨_, o, ho, _⟩ := I.ok.funs.mem hb
  exact absurd (Nat.lt_of_lt_of_le (Heap.lt_size ho) (Nat.le_trans I.sz h)) (Nat.lt_irrefl _)
theorem Inv.cne (I : Inv X pins σ H s) : ∀ x c, X.env.cells.lookup x = some c → c ≠ X.env.locals := fun x c e z => by
  obtain ⟨v, o, ho, hd⟩ := I.cell x c e
  obtain ⟨m, ⟨o', es, ep, ho', hd', _⟩, _⟩ := I.loc
  rw [z, ho'] at ho; cases ho; rw [hd'] at hd; cases hd
theorem Inv.funs (I : Inv X pins σ H s) : s.heap.FunFrames X.base X.outer := by
  have all : ∀ (l : List Env), (∀ b ∈ frs l, b ∈ X.fs) → X.s_0.heap.FunFrames X.base l → s.heap.FunFrames X.base l := by
    intro l
    induction l with
    | nil => intro _ _; trivial
    | cons env r ih =>
      intro hs hl
      obtain ⟨hk, ⟨L, o, hf, hn, ho, hd⟩, hr⟩ := hl
      have hL : L ∈ X.fs := hs L (by unfold frs; rw [List.filterMap_cons, hf]; exact List.mem_cons_self)
      obtain ⟨sl, e⟩ := I.base.slot L o ho (I.ok.frf L hL) hL fun z => I.ok.exfs L z hL
      exact ⟨hk, ⟨L, _, hf, hn, e, hd⟩, ih (fun b hb => hs b (by unfold frs; rw [List.filterMap_cons, hf]; exact List.mem_cons_of_mem _ hb)) hr⟩
  exact all X.outer (fun _ hb => hb) I.ok.funs

/-- the frames that run, for a call -/
theorem Inv.stack (I : Inv X pins σ H s) : s.heap.FunFrames X.base X.stack := by
  rcases I.ok.stk with e | ⟨e, hf⟩
  · rw [e]; exact I.funs
  · rw [e]
    obtain ⟨m, hn, _⟩ := I.loc
    refine .cons (by rw [I.ok.kind]; decide) hf hn ?_ I.funs
    exact Heap.get?_none_of_le (Nat.le_trans I.ok.bsz I.ok.above)
theorem Inv.stkSub (I : Inv X pins σ H s) : ∀ b ∈ frs X.stack, b ∈ X.env.locals :: X.fs := fun b hb => by
  rcases I.ok.stk with e | ⟨e, hf⟩
  · rw [e] at hb; exact List.mem_cons_of_mem _ hb
  · rw [e] at hb
    unfold frs at hb
    rw [List.filterMap_cons, hf] at hb
    exact hb
theorem Inv.stkFree (I : Inv X pins σ H s) : ∀ b ∈ frs X.stack, H b = none := fun b hb => by
  rcases List.mem_cons.mp (I.stkSub b hb) with e | hb
  · rw [e]; exact I.free
  · obtain ⟨_, o, ho, _⟩ := I.ok.funs.mem hb
    exact I.base.free b o ho (I.ok.frf b hb) fun z => I.ok.exfs b z hb

/-- THE STEP: the untracked objects but the frame and the records at ch are kept (the callers' frames up to slots), the frame's map is kept, the new abstract heap is held -/
theorem Inv.step {g' : Array GenState} {t' : Nat} {d' : Drawn} {ch : List Addr} (I : Inv X pins σ H s)
    (hch : ∀ b ∈ ch, (b ∈ X.ex ∨ X.s_0.heap.objs.size ≤ b) ∧ b ≠ X.env.locals ∧ (∀ x c, X.env.cells.lookup x = some c → c ≠ b) ∧ ∀ p ∈ X.pn ++ pins, p.1 ≠ b)
    (keep : ∀ b o, b ≠ X.env.locals → b ∉ X.fs → b ∉ ch → s.heap.get? b = some o → H b = none → h'.get? b = some o)
    (slot : ∀ b o, b ≠ X.env.locals → b ∈ X.fs → b ∉ ch → s.heap.get? b = some o → H b = none → ∃ sl, h'.get? b = some { o with slots := sl }) (free : ∀ b o, b ∉ ch → s.heap.get? b = some o → H b = none → H' b = none)
    (there : ∀ b o, b ∉ ch → s.heap.get? b = some o → ∃ o', h'.get? b = some o')
    (tups : ∀ b xs, H b = some (.tup xs) → H' b = some (.tup xs)) (frzs : ∀ b o u, H b = some (.frz o u) → H' b = some (.frz o u)) (tbls : ∀ b ps, H b = some (.tbl ps) → ∃ more, H' b = some (.tbl (ps ++ more)))
    (ns : ∀ m, s.heap.Ns X.env.locals m → h'.Ns X.env.locals m) (hok : HOk X.prog X.w H' h') (hg : AllBare g') :
    Inv X pins σ H' { s with heap := h', gens := g', drawn := d', toks := t' } := by
  have neL : ∀ b o, X.s_0.heap.get? b = some o → b ≠ X.env.locals := fun b o e => Nat.ne_of_lt (Nat.lt_of_lt_of_le (Heap.lt_size e) I.ok.above)
  have neC : ∀ b o, X.s_0.heap.get? b = some o → b ∉ X.ex → b ∉ ch := fun b o e hx hb => by
    rcases (hch b hb).1 with z | z
    · exact hx z
    · exact absurd (Nat.lt_of_lt_of_le (Heap.lt_size e) z) (Nat.lt_irrefl _)
  have cellK : ∀ x c, X.env.cells.lookup x = some c → ∀ v, s.heap.IsCell c v → h'.IsCell c v := fun x c e v ⟨o, ho, hd⟩ => by
    have nch : c ∉ ch := fun z => (hch c z).2.2.1 x c e rfl
    by_cases hc : c ∈ X.fs
    · obtain ⟨sl, q⟩ := slot c o (I.cne x c e) hc nch ho (I.freeC x c e)
      exact ⟨_, q, hd⟩
    · exact ⟨o, keep c o (I.cne x c e) hc nch ho (I.freeC x c e), hd⟩
  refine ⟨I.ok, I.os, hg, ⟨fun b o e n hb hx => ?_, fun b o e n hb hx => ?_, fun b o e n hx => ?_, fun b o e hx => ?_, fun b xs e => tups b xs (I.base.tups b xs e), fun b o xs e => frzs b o xs (I.base.frzs b o xs e), fun b ps e => ?_⟩, ?_, fun x c e => ?_, ?_, fun x c e => ?_, fun p hp => ?_, hok, I.len⟩
  · exact keep b o (neL b o e) hb (neC b o e hx) (I.base.keep b o e n hb hx) (I.base.free b o e n hx)
  · obtain ⟨sl, e1⟩ := I.base.slot b o e n hb hx
    obtain ⟨sl', e2⟩ := slot b _ (neL b o e) hb (neC b o e hx) e1 (I.base.free b o e n hx)
    exact ⟨sl', e2⟩
  · obtain ⟨o', e1⟩ := I.base.there b o e hx
    exact free b o' (neC b o e hx) e1 (I.base.free b o e n hx)
  · obtain ⟨o', e1⟩ := I.base.there b o e hx
    exact there b o' (neC b o e hx) e1
  · obtain ⟨m1, e1⟩ := I.base.tbls b ps e
    obtain ⟨m2, e2⟩ := tbls b _ e1
    exact ⟨m1 ++ m2, by rw [e2, Array.append_assoc]⟩
  · obtain ⟨m, hn, hl⟩ := I.loc
    refine ⟨m, ns m hn, fun i x v e1 e2 e3 => ?_⟩
    obtain ⟨u, r, l⟩ := hl i x v e1 e2 e3
    refine ⟨u, r, ?_⟩
    rcases l with l | ⟨k, c, e, z⟩
    · exact .inl l
    · exact .inr ⟨k, c, e, cellK x c e _ z⟩
  · obtain ⟨v, z⟩ := I.cell x c e
    exact ⟨v, cellK x c e v z⟩
  · obtain ⟨m, ⟨o, _, _, ho, _⟩, _⟩ := I.loc
    exact free _ o (fun z => (hch _ z).2.1 rfl) ho I.free
  · obtain ⟨v, o, ho, hd⟩ := I.cell x c e
    exact free c o (fun z => (hch c z).2.2.1 x c e rfl) ho (I.freeC x c e)
  · obtain ⟨e, n, ne, nf, d⟩ := I.pin p hp
    have nch : p.1 ∉ ch := fun z => (hch p.1 z).2.2.2 p hp rfl
    exact ⟨keep p.1 p.2 ne nf nch e n, free p.1 p.2 nch e n, ne, nf, d⟩
/-- .. where the frame's own object is kept too -/
theorem Inv.un {t' : Nat} (I : Inv X pins σ H s) (u : Un X.fs [] H H' s.heap h') (hok : HOk X.prog X.w H' h') : Inv X pins σ H' { s with heap := h', toks := t' } := by
  obtain ⟨m, ⟨o, es, ep, ho, r⟩, _⟩ := id I.loc
  obtain ⟨sl, hL⟩ := u.any ho I.free (by simp)
  exact I.step (g' := s.gens) (d' := s.drawn) (ch := []) (fun _ z => nomatch z) (fun b o _ hb _ e n => u.keep b o e n hb (by simp)) (fun b o _ hb _ e n => u.slot b o e n hb (by simp)) (fun b o _ e n => u.free b o e n (by simp)) (fun b o _ e => u.there b o e (by simp)) u.tups u.frzs u.tbls (fun m' hm => by
    obtain ⟨o', es', ep', ho', r'⟩ := hm
    rw [ho] at ho'; cases ho'
    exact ⟨_, es', ep', hL, r'⟩) hok I.bare
/-- behind a call (or a comprehension's block): the slots of this frame may have changed too, the records at ch may have turned -/
theorem Inv.call {g' : Array GenState} {t' : Nat} {d' : Drawn} {ch : List Addr} (I : Inv X pins σ H s) (u : Un (frs X.stack) ch H H' s.heap h') (hok : HOk X.prog X.w H' h') (hg : AllBare g')
    (hch : ∀ b ∈ ch, (b ∈ X.ex ∨ X.s_0.heap.objs.size ≤ b) ∧ b ≠ X.env.locals ∧ (∀ x c, X.env.cells.lookup x = some c → c ≠ b) ∧ ∀ p ∈ X.pn ++ pins, p.1 ≠ b) :
    Inv X pins σ H' { s with heap := h', gens := g', drawn := d', toks := t' } := by
  obtain ⟨m, ⟨o, es, ep, ho, r⟩, _⟩ := id I.loc
  obtain ⟨sl, hL⟩ := u.any ho I.free fun z => (hch _ z).2.1 rfl
  exact I.step (ch := ch) hch (fun b o hL hb hc e n => u.keep b o e n (fun z => (List.mem_cons.mp (I.stkSub b z)).elim hL hb) hc) (fun b o _ _ hc e n => u.any e n hc) (fun b o hc e n => u.free b o e n hc) (fun b o hc e => u.there b o e hc) u.tups u.frzs u.tbls (fun m' hm => by
    obtain ⟨o', es', ep', ho', r'⟩ := hm
    rw [ho] at ho'; cases ho'
    exact ⟨_, es', ep', hL, r'⟩) hok hg
/-- an untracked record of ours (an iterator) has turned -/
theorem Inv.turned {t' : Nat} {it : Addr} (I : Inv X pins σ H s) (k : ∀ b o, b ≠ it → s.heap.get? b = some o → h'.get? b = some o) (hn : H it = none) (hL : it ≠ X.env.locals)
    (h1 : it ∈ X.ex ∨ X.s_0.heap.objs.size ≤ it) (h2 : ∀ x c, X.env.cells.lookup x = some c → c ≠ it) (h3 : ∀ p ∈ X.pn ++ pins, p.1 ≠ it) : Inv X pins σ H { s with heap := h', toks := t' } := by
  have nit : ∀ b u, H b = some u → b ≠ it := fun b u e z => by rw [z, hn] at e; cases e
  refine I.step (g' := s.gens) (d' := s.drawn) (ch := [it]) (fun b hb => ?_) (fun b o _ _ hc e _ => k b o (fun z => hc (by simp [z])) e) (fun b o _ _ hc e _ => ⟨o.slots, k b o (fun z => hc (by simp [z])) e⟩) (fun _ _ _ _ n => n)
    (fun b o hc e => ⟨o, k b o (fun z => hc (by simp [z])) e⟩) (fun _ _ e => e) (fun _ _ _ e => e) (fun b ps e => ⟨#[], by rw [e]; simp⟩) (fun m hm => ?_) (fun b u e => ?_) I.bare
  · have e : b = it := by simpa using hb
    subst e
    exact ⟨h1, hL, h2, h3⟩
  · obtain ⟨o, es, ep, ho, r⟩ := hm
    exact ⟨o, es, ep, k _ o (Ne.symm hL) ho, r⟩
  · refine (I.hok b u e).stay (fun c v hc q => k c v ?_ q) (fun _ q => q) fun _ _ q => q
    rcases hc with z | z
    · rw [z]; exact nit b u e
    · exact nit c _ z
theorem Inv.tok (I : Inv X pins σ H s) (t : Nat) : Inv X pins σ H { s with toks := t } := I.un (h' := s.heap) (t' := t) Un.refl I.hok
/-- all objects kept -/
theorem Inv.kept {t' : Nat} (I : Inv X pins σ H s) (k : ∀ b u, s.heap.get? b = some u → h'.get? b = some u) : Inv X pins σ H { s with heap := h', toks := t' } := I.un (Un.kept k) (I.hok.kept k)
/-- a new object laid and tracked -/
theorem Inv.laid {a : Addr} {o : HO} {t' : Nat} (I : Inv X pins σ H s) (k : ∀ b u, s.heap.get? b = some u → h'.get? b = some u) (hp : s.heap.objs.size ≤ a) (new : ObjOk X.prog X.w (upd H a o) h' a o) :
    Inv X pins σ (upd H a o) { s with heap := h', toks := t' } := I.un (Un.laid k hp (I.hok.fresh hp)) (I.hok.laid k hp new)
/-- an object written -/
theorem Inv.write {x e : Addr} {o : HO} {t' : Nat} (I : Inv X pins σ H s) (mu : Mut (H x)) (he : e = x ∨ H e = some (.own x)) (k : ∀ b u, b ≠ e → s.heap.get? b = some u → h'.get? b = some u) (heo : ∃ u, h'.get? e = some u)
    (new : ObjOk X.prog X.w (upd H x o) h' x o) : Inv X pins σ (upd H x o) { s with heap := h', toks := t' } := I.un (Un.write mu he k heo) (I.hok.write mu he k heo new)
/-- forgetting slots, pins -/
theorem Inv.weak {σ' : List (Option V)} (I : Inv X pins σ H s) (hl : σ'.length = σ.length) (w : ∀ (i : Nat) v, σ'[i]? = some (some v) → σ[i]? = some (some v)) : Inv X pins σ' H s :=
  ⟨I.ok, I.os, I.bare, I.base, let ⟨m, hn, hl'⟩ := I.loc; ⟨m, hn, fun i x v e1 e2 e3 => hl' i x v e1 (w i v e2) e3⟩, I.cell, I.free, I.freeC, I.pin, I.hok, hl.trans I.len⟩
theorem Inv.pins_of {pins' : List (Addr × Obj)} (I : Inv X pins σ H s) (h : ∀ p ∈ pins', s.heap.get? p.1 = some p.2 ∧ H p.1 = none ∧ p.1 ≠ X.env.locals ∧ p.1 ∉ X.fs ∧ ∀ v, p.2.data ≠ .cell v) : Inv X pins' σ H s :=
  ⟨I.ok, I.os, I.bare, I.base, I.loc, I.cell, I.free, I.freeC, fun p hp => (List.mem_append.mp hp).elim (fun z => I.pin p (List.mem_append_left _ z)) (h p), I.hok, I.len⟩

theorem nodup_ix {N : List Str} (hN : N.Nodup) {i j : Nat} {x : Str} (a : N[i]? = some x) (b : N[j]? = some x) : i = j := by
  obtain ⟨h1, e1⟩ := List.getElem?_eq_some_iff.mp a
  obtain ⟨h2, e2⟩ := List.getElem?_eq_some_iff.mp b
  exact (List.getElem_inj hN).mp (e1.trans e2.symm)

/-- a name is stored; what changed -/
theorem store_ok2 {M : Model} {A : Around} {E : Value → Shared → Prop} {i : Nat} {x : Str} {v : V} {u : Value} {Q : Unit → Shared → Prop} (I : Inv X pins σ H s) (hN : X.N.Nodup) (hi : X.N[i]? = some x) (hx : Loc X.env.scope x) (r : RelV v u)
    (h : ∀ s', Inv X pins (σ.set i (some v)) H s' → (∃ a, Heap.SameBut a s.heap s'.heap ∧ (a = X.env.locals ∨ X.env.cells.lookup x = some a)) → Q () s') (hf : X.fn x = true ∨ X.env.scope.names.lookup x = some .local := by first | exact .inl rfl | exact .inr rfl | assumption) : wpAny M A (storeName X.env x u) Q E s := by
  obtain ⟨m, hn, hl⟩ := id I.loc
  have hcls : (X.env.scope.kind == .class || (X.env.scope.kind == .module && X.env.locals != X.env.globals)) = false := by rw [I.ok.kind]; rfl
  have hiσ : i < σ.length := by rw [I.len]; exact (List.getElem?_eq_some_iff.mp hi).1
  have cne := I.cne
  have tracked : ∀ {a : Addr} {h' : Heap}, (∃ o, s.heap.get? a = some o ∧ H a = none) → Heap.SameBut a s.heap h' → HOk X.prog X.w H h' := fun {a h'} ha hs b ob e => by
    obtain ⟨_, _, hfree⟩ := ha
    refine (I.hok b ob e).stay (fun c w' hc q => (hs.2 c ?_).trans q) (fun _ q => q) fun _ _ q => q
    rintro rfl
    rcases hc with rfl | hc
    · rw [hfree] at e; cases e
    · rw [hfree] at hc; cases hc
  rcases hx with hk | hk
  · refine wpAny_storeName_local hk hn (fun h' hn' hs => ?_) hcls
    obtain ⟨oL, _, _, hoL, _⟩ := id hn
    refine h _ ⟨I.ok, I.os, I.bare, ⟨fun b o e n hb hx => ?_, fun b o e n hb hx => ?_, I.base.free, fun b o e hx => ?_, I.base.tups, I.base.frzs, I.base.tbls⟩, ⟨_, hn', fun j y v' e1 e2 e3 => ?_⟩, fun y c e => ?_, I.free, I.freeC, fun p hp => ?_, tracked ⟨oL, hoL, I.free⟩ hs, by simpa using I.len⟩ ⟨_, hs, .inl rfl⟩
    · exact (hs.2 b (Nat.ne_of_lt (Nat.lt_of_lt_of_le (Heap.lt_size e) I.ok.above))).trans (I.base.keep b o e n hb hx)
    · obtain ⟨sl, e1⟩ := I.base.slot b o e n hb hx
      exact ⟨sl, (hs.2 b (Nat.ne_of_lt (Nat.lt_of_lt_of_le (Heap.lt_size e) I.ok.above))).trans e1⟩
    · obtain ⟨o', e1⟩ := I.base.there b o e hx
      exact ⟨o', (hs.2 b (Nat.ne_of_lt (Nat.lt_of_lt_of_le (Heap.lt_size e) I.ok.above))).trans e1⟩
    · by_cases hj : j = i
      · subst hj
        rw [hi] at e1; cases e1
        rw [List.getElem?_set_self hiσ] at e2
        cases e2
        exact ⟨u, r, .inl ⟨hk, by simp⟩⟩
      · rw [List.getElem?_set_ne (Ne.symm hj)] at e2
        obtain ⟨u', r', q⟩ := hl j y v' e1 e2 e3
        refine ⟨u', r', ?_⟩
        rcases q with ⟨k, e⟩ | ⟨k, c, e, z⟩
        · refine .inl ⟨k, ?_⟩
          have : y ≠ x := fun e => hj (nodup_ix hN e1 (e ▸ hi))
          simp [this, e]
        · exact .inr ⟨k, c, e, z.sameBut hs (cne y c e)⟩
    · obtain ⟨w', z⟩ := I.cell y c e
      exact ⟨w', z.sameBut hs (cne y c e)⟩
    · obtain ⟨e, n, ne, nf, d⟩ := I.pin p hp
      exact ⟨(hs.2 p.1 ne).trans e, n, ne, nf, d⟩
  · have hfn : X.fn x = true := by
      rcases hf with z | z
      · exact z
      · rw [z] at hk; cases hk
    obtain ⟨c, hc⟩ := I.ok.has x (.inl hk)
    obtain ⟨w', z⟩ := I.cell x c hc
    refine wpAny_storeName_cell I.ok.kind hk hc z (fun h' hc' hs => ?_)
    obtain ⟨oc, hoc, hocd⟩ := id z
    refine h { s with heap := h' } ⟨I.ok, I.os, I.bare, ⟨fun b o e n hb hx => ?_, fun b o e n hb hx => ?_, I.base.free, fun b o e hx => ?_, I.base.tups, I.base.frzs, I.base.tbls⟩, ⟨m, hn.sameBut hs (Ne.symm (cne x c hc)), fun j y v' e1 e2 e3 => ?_⟩, fun y c' e => ?_, I.free, I.freeC, fun p hp => ?_, tracked ⟨oc, hoc, I.freeC x c hc⟩ hs, by simpa using I.len⟩ ⟨c, hs, .inr hc⟩
    · exact (hs.2 b (Nat.ne_of_lt (Nat.lt_of_lt_of_le (Heap.lt_size e) (I.ok.cab x c hfn hc)))).trans (I.base.keep b o e n hb hx)
    · obtain ⟨sl, e1⟩ := I.base.slot b o e n hb hx
      exact ⟨sl, (hs.2 b (Nat.ne_of_lt (Nat.lt_of_lt_of_le (Heap.lt_size e) (I.ok.cab x c hfn hc)))).trans e1⟩
    · obtain ⟨o', e1⟩ := I.base.there b o e hx
      exact ⟨o', (hs.2 b (Nat.ne_of_lt (Nat.lt_of_lt_of_le (Heap.lt_size e) (I.ok.cab x c hfn hc)))).trans e1⟩
    · by_cases hj : j = i
      · subst hj
        rw [hi] at e1; cases e1
        rw [List.getElem?_set_self hiσ] at e2
        cases e2
        exact ⟨u, r, .inr ⟨.inl hk, c, hc, hc'⟩⟩
      · rw [List.getElem?_set_ne (Ne.symm hj)] at e2
        obtain ⟨u', r', q⟩ := hl j y v' e1 e2 e3
        refine ⟨u', r', ?_⟩
        rcases q with q | ⟨k, c', e, z'⟩
        · exact .inl q
        · refine .inr ⟨k, c', e, z'.sameBut hs ?_⟩
          rintro rfl
          exact hj (nodup_ix hN e1 (I.ok.inj _ _ _ e hc ▸ hi))
    · by_cases hcc : c' = c
      · subst hcc; exact ⟨_, hc'⟩
      · obtain ⟨w2, z2⟩ := I.cell y c' e
        exact ⟨w2, z2.sameBut hs hcc⟩
    · obtain ⟨e, n, ne, nf, d⟩ := I.pin p hp
      refine ⟨(hs.2 p.1 ?_).trans e, n, ne, nf, d⟩
      intro q
      rw [q, hoc] at e
      have q' : oc = p.2 := Option.some.inj e
      exact d w' (by rw [← q']; exact hocd)
theorem store_ok {M : Model} {A : Around} {E : Value → Shared → Prop} {i : Nat} {x : Str} {v : V} {u : Value} {Q : Unit → Shared → Prop} (I : Inv X pins σ H s) (hN : X.N.Nodup) (hi : X.N[i]? = some x) (hx : Loc X.env.scope x) (r : RelV v u)
    (h : ∀ s', Inv X pins (σ.set i (some v)) H s' → Q () s') (hf : X.fn x = true ∨ X.env.scope.names.lookup x = some .local := by first | exact .inl rfl | exact .inr rfl | assumption) : wpAny M A (storeName X.env x u) Q E s :=
  store_ok2 I hN hi hx r (fun s' I' _ => h s' I') hf
/-- behind a call or a block, the state as it is -/
theorem Inv.call' {s' : Shared} {ch : List Addr} (I : Inv X pins σ H s) (ho : s'.os = s.os) (u : Un (frs X.stack) ch H H' s.heap s'.heap) (hok : HOk X.prog X.w H' s'.heap) (hg : AllBare s'.gens)
    (hch : ∀ b ∈ ch, (b ∈ X.ex ∨ X.s_0.heap.objs.size ≤ b) ∧ b ≠ X.env.locals ∧ (∀ x c, X.env.cells.lookup x = some c → c ≠ b) ∧ ∀ p ∈ X.pn ++ pins, p.1 ≠ b) : Inv X pins σ H' s' := by
  obtain ⟨h', g', d', t', o'⟩ := s'
  have e : o' = s.os := ho
  subst e
  exact I.call (g' := g') (t' := t') (d' := d') u hok hg hch
end

/-- an exception: its class, its own dict's address (where it has one), the abstract heap behind it -/
abbrev XK := Value → Option Addr → Hp → Prop
abbrev St := List (Option V)
abbrev VK := V → Hp → Prop
/-- an expression's reading; a test's; an argument list's -/
abbrev TE := St → Hp → VK → Prop
abbrev TT := St → Hp → (Bool → Hp → Prop) → Prop
abbrev TA := St → Hp → (List V → Hp → Prop) → Prop
/-- what is wanted behind a statement -/
structure Ends where
  nx : St → Hp → Prop
  rt : VK
  bk : St → Hp → Prop := fun _ _ => False
  ct : St → Hp → Prop := fun _ _ => False
abbrev TS := Ends → St → Hp → Prop

def EP (X : Cx) (pins : List (Addr × Obj)) (σ : St) (Q : VK) (u : Value) (s' : Shared) : Prop := ∃ v H', Inv X pins σ H' s' ∧ RelV v u ∧ Q v H'
def TP (X : Cx) (pins : List (Addr × Obj)) (σ : St) (Q : Bool → Hp → Prop) (b : Bool) (s' : Shared) : Prop := ∃ H', Inv X pins σ H' s' ∧ Q b H'
def AP (X : Cx) (pins : List (Addr × Obj)) (σ : St) (Q : List V → Hp → Prop) (us : List Value) (s' : Shared) : Prop := ∃ vs H', Inv X pins σ H' s' ∧ Vals vs us ∧ Q vs H'
def SP (X : Cx) (pins : List (Addr × Obj)) (D : Ends) (f : Flow) (s' : Shared) : Prop :=
  match f with
  | .next => ∃ σ' H', Inv X pins σ' H' s' ∧ D.nx σ' H'
  | .brk => ∃ σ' H', Inv X pins σ' H' s' ∧ D.bk σ' H'
  | .cont => ∃ σ' H', Inv X pins σ' H' s' ∧ D.ct σ' H'
  | .ret u => ∃ v σ' H', Inv X pins σ' H' s' ∧ RelV v u ∧ D.rt v H'

def PE (X : Cx) (e : Expr) (t : TE) : Prop :=
  ∀ (pins : List (Addr × Obj)) (s : Shared) (σ : St) (H : Hp) (Q : VK), Inv X pins σ H s → t σ H Q → wpAny (model X.prog X.w) X.A (eval e X.env) (EP X pins σ Q) X.xe s
def PT (X : Cx) (e : Expr) (t : TT) : Prop :=
  ∀ (pins : List (Addr × Obj)) (s : Shared) (σ : St) (H : Hp) (Q : Bool → Hp → Prop), Inv X pins σ H s → t σ H Q → wpAny (model X.prog X.w) X.A (isTrue e X.env (eval e X.env)) (TP X pins σ Q) X.xe s
/-- a test whatever its 'whole' is (and, or) -/
def PW (X : Cx) (e : Expr) (t : TT) : Prop :=
  ∀ (whole : Sem Value) (pins : List (Addr × Obj)) (s : Shared) (σ : St) (H : Hp) (Q : Bool → Hp → Prop), Inv X pins σ H s → t σ H Q → wpAny (model X.prog X.w) X.A (isTrue e X.env whole) (TP X pins σ Q) X.xe s
theorem PW.pt {X : Cx} {e : Expr} {t : TT} (h : PW X e t) : PT X e t := h _
/-- an argument list (no star), from the left -/
def PA (X : Cx) (es : List Expr) (t : TA) : Prop :=
  ∀ (pos : Pos) (pins : List (Addr × Obj)) (s : Shared) (σ : St) (H : Hp) (Q : List V → Hp → Prop), Inv X pins σ H s → t σ H Q → wpAny (model X.prog X.w) X.A (spliced (backTo pos (starEach es X.env))) (AP X pins σ Q) X.xe s
def PS (X : Cx) (st : Stmt) (t : TS) : Prop :=
  ∀ (pins : List (Addr × Obj)) (s : Shared) (σ : St) (H : Hp) (D : Ends), Inv X pins σ H s → t D σ H → wpAny (model X.prog X.w) X.A (exec st X.env) (SP X pins D) X.xe s
def PSs (X : Cx) (st : List Stmt) (t : TS) : Prop :=
  ∀ (pins : List (Addr × Obj)) (s : Shared) (σ : St) (H : Hp) (D : Ends), Inv X pins σ H s → t D σ H → wpAny (model X.prog X.w) X.A (execs st X.env) (SP X pins D) X.xe s
/-- weaken the end -/
theorem thn {α : Type} {t : Sem α} {Q Q' : α → Shared → Prop} {M : Model} {A : Around} {E : Value → Shared → Prop} {s : Shared} (h : wpAny M A t Q E s) (hQ : ∀ a s, Q a s → Q' a s) : wpAny M A t Q' E s := wpAny_mono h hQ fun _ _ x => x
end L2

namespace L2
open PySem PySem.Spec PyProof.Rows
section
variable {X : Cx}

/-- two expressions in a row -/
theorem bin {a b : Expr} {ta tb : TE} (ha : PE X a ta) (hb : PE X b tb) {pins : List (Addr × Obj)} {s : Shared} {σ : St} {H : Hp} {R : V → V → Hp → Prop} (I : Inv X pins σ H s) (h : ta σ H fun x H1 => tb σ H1 fun y H2 => R x y H2)
    {α : Type} {Q : α → Shared → Prop} {f : Value → Value → Sem α}
    (hf : ∀ v u s2 x y H2, Inv X pins σ H2 s2 → RelV x v → RelV y u → R x y H2 → wpAny (model X.prog X.w) X.A (f v u) Q X.xe s2) :
    wpAny (model X.prog X.w) X.A (eval a X.env) (fun v s₁ => wpAny (model X.prog X.w) X.A (eval b X.env) (fun u s₂ => wpAny (model X.prog X.w) X.A (f v u) Q X.xe s₂) X.xe s₁) X.xe s := by
  refine thn (ha pins s σ H _ I h) fun v s1 ⟨x, H1, I1, r1, q1⟩ => ?_
  refine thn (hb pins s1 σ H1 _ I1 q1) fun u s2 ⟨y, H2, I2, r2, q2⟩ => ?_
  exact hf v u s2 x y H2 I2 r1 r2 q2

def tVar (i : Nat) : TE := fun σ H Q => ∃ v, σ[i]? = some (some v) ∧ Q v H
def tC (v : V) : TE := fun _ H Q => Q v H
theorem pe_var {i : Nat} {x : Str} {pos : Pos} (hN : X.N[i]? = some x) (hv : Vis X.env.scope x) (hd : (x == ("__debug__" : Str)) = false := by decide) (hcd : (x == ("__classdict__" : Str)) = false := by decide) : PE X (.Name x pos) (tVar i) := by
  intro pins s σ H Q I h
  obtain ⟨v, e, h⟩ := h
  obtain ⟨m, hn, hl⟩ := I.loc
  obtain ⟨u, r, l⟩ := hl i x v hN e hv
  have fin : EP X pins σ Q u s := ⟨v, H, I, r, h⟩
  rcases l with ⟨hk, hm⟩ | ⟨hk, c, hc, hcell⟩
  · exact wpAny_Name (wpAny_loadName_local I.ok.kind hk hn hm fin) hd
  · rcases hk with hk | hk
    · exact wpAny_Name (wpAny_loadName_cell I.ok.kind hk hc hcell fin) hd
    · exact wpAny_Name (wpAny_loadName_free I.ok.kind hk hc hcell fin hcd) hd
theorem pe_int {i j pos} : PE X (.Constant (.int i) j pos) (tC (.int i)) := fun _ _ _ H _ I h => wpAny_Constant_int ⟨.int i, H, I.tok _, ⟨_, rfl⟩, h⟩
theorem pe_bl {b j pos} : PE X (.Constant (.bool b) j pos) (tC (.bl b)) := fun _ _ _ H _ I h => Constant_bool ⟨.bl b, H, I, rfl, h⟩
theorem pe_non {j pos} : PE X (.Constant .none j pos) (tC .non) := fun _ _ _ H _ I h => Constant_none ⟨.non, H, I, rfl, h⟩

/-- a global name of the def -/
def Gl (X : Cx) (x : Str) : Prop := X.env.kindOf x = some .globalImplicit
theorem ld_glob {E : Value → Shared → Prop} {pins : List (Addr × Obj)} {s : Shared} {σ : St} {H : Hp} {x : Str} {u : Value} {pos : Pos} {Q : Value → Shared → Prop} (I : Inv X pins σ H s) (hg : Gl X x) (hm : X.mg x = some u) (h : Q u s)
    (hd : (x == ("__debug__" : Str)) = false := by decide) : wpAny (model X.prog X.w) X.A (eval (.Name x pos) X.env) Q E s :=
  Calls.Name_function_global I.ok.kind hg (Calls.loadGlobal_global (by rw [I.ok.glob]; exact I.mod.glob.keeps I.bk) hm h) hd
theorem ld_blt {E : Value → Shared → Prop} {pins : List (Addr × Obj)} {s : Shared} {σ : St} {H : Hp} {x : Str} {u : Value} {pos : Pos} {Q : Value → Shared → Prop} (I : Inv X pins σ H s) (hg : Gl X x) (hm : X.mg x = none) (hv : bootBuiltins x = some u) (h : Q u s)
    (hn : x ≠ "__name__" := by decide) (hd : (x == ("__debug__" : Str)) = false := by decide) : wpAny (model X.prog X.w) X.A (eval (.Name x pos) X.env) Q E s := by
  obtain ⟨mb, h1, h2⟩ := I.mod.blt
  exact Calls.Name_function_global I.ok.kind hg (Calls.loadGlobal_builtin (by rw [I.ok.glob]; exact I.mod.glob.keeps I.bk) hm (by rw [I.ok.blt]; exact h1.keeps I.bk) ((h2 x hn).trans hv) h) hd
/-- a module's constant, a class, a function, as a value -/
theorem pe_glob {x : Str} {v : V} {u : Value} {pos : Pos} (hg : Gl X x) (hm : X.mg x = some u) (r : RelV v u) (hd : (x == ("__debug__" : Str)) = false := by decide) : PE X (.Name x pos) (tC v) :=
  fun _ _ _ H _ I h => ld_glob I hg hm ⟨v, H, I, r, h⟩ hd
variable {a b : Expr} {ta tb : TE} {pos : Pos}

def PC (X : Cx) (op : CmpOp) (a b : Expr) (t : TE) : Prop :=
  ∀ (pins : List (Addr × Obj)) (s : Shared) (σ : St) (H : Hp) (Q : VK), Inv X pins σ H s → t σ H Q →
    wpAny (model X.prog X.w) X.A (eval a X.env) (fun v s₁ => wpAny (model X.prog X.w) X.A (eval b X.env) (fun u s₂ => wpAny (model X.prog X.w) X.A (compareOp op v u) (EP X pins σ Q) X.xe s₂) X.xe s₁) X.xe s
theorem nobehind (b : Expr) {op : CmpOp} (h : op ≠ .In) (h2 : op ≠ .NotIn) : behindInMarks op b = false := by
  have e1 : (op == CmpOp.In) = false := by cases op <;> first | rfl | exact absurd rfl h
  have e2 : (op == CmpOp.NotIn) = false := by cases op <;> first | rfl | exact absurd rfl h2
  cases b <;> simp [behindInMarks, e1, e2]
/-- is None -/
def tIsN (ta : TE) : TE := fun σ H Q => ta σ H fun x H1 => Q (.bl (decide (x = .non))) H1
def tNotN (ta : TE) : TE := fun σ H Q => ta σ H fun x H1 => Q (.bl (!decide (x = .non))) H1
theorem RelV.none_iff {x : V} {v : Value} (r : RelV x v) : (v == Value.none) = decide (x = .non) := by
  cases x with
  | non => cases r; rfl
  | bl _ => cases r; rfl
  | int _ => obtain ⟨t, rfl⟩ := r; rfl
  | str _ => obtain ⟨t, rfl⟩ := r; rfl
  | byt _ => obtain ⟨t, rfl⟩ := r; rfl
  | flt _ => obtain ⟨t, rfl⟩ := r; rfl
  | ref _ => cases r; rfl
  | ty _ => cases r; rfl
theorem pc_isN {j pos'} (ha : PE X a ta) : PC X .Is a (.Constant .none j pos') (tIsN ta) := by
  intro pins s σ H Q I h
  refine thn (ha pins s σ H _ I h) fun v s1 ⟨x, H1, I1, r1, q1⟩ => ?_
  exact Constant_none (is_none_gen ⟨.bl _, H1, I1, by rw [r1.none_iff]; rfl, q1⟩)
theorem pc_notN {j pos'} (ha : PE X a ta) : PC X .IsNot a (.Constant .none j pos') (tNotN ta) := by
  intro pins s σ H Q I h
  refine thn (ha pins s σ H _ I h) fun v s1 ⟨x, H1, I1, r1, q1⟩ => ?_
  exact Constant_none (isnot_none_gen ⟨.bl _, H1, I1, by rw [r1.none_iff]; rfl, q1⟩)
/-- a comparison as a value, as a test -/
def tB (t : TE) : TT := fun σ H Q => t σ H fun x H1 => ∃ c, x = .bl c ∧ Q c H1
theorem pe_cmp {op : CmpOp} {t : TE} (h : PC X op a b t) (h1 : behindInMarks op b = false := by first | exact nobehind _ (by decide) (by decide) | rfl) : PE X (.Compare a [op] [b] pos) t := fun pins s σ H Q I hw => wpAny_Compare1 (h pins s σ H Q I hw) h1
theorem pt_cmp {op : CmpOp} {t : TE} (h : PC X op a b t) (h1 : behindInMarks op b = false := by first | exact nobehind _ (by decide) (by decide) | rfl) : PT X (.Compare a [op] [b] pos) (tB t) := by
  intro pins s σ H Q I hw
  refine wpAny_isTrue_Compare1 (thn (h pins s σ H _ I hw) fun v s1 h1 => thn h1 fun u s2 h2 => thn h2 fun c s3 ⟨x, H1, I1, r1, q1⟩ => ?_) h1
  obtain ⟨d, rfl, q⟩ := q1
  cases r1
  exact wpAny_truthy_bool ⟨H1, I1, q⟩
/-- an expression whose value is a bool, as a test -/
theorem pt_val {e : Expr} {t : TE} (h : PE X e t) (he : ∀ whole, isTrue e X.env whole = (do let v ← whole; standAt e.pos; holding [v] (truthy v)) := by intro _; rfl) : PT X e (tB t) := by
  intro pins s σ H Q I hw
  refine isTrue_plain (thn (h pins s σ H _ I hw) fun v s1 ⟨x, H1, I1, r1, q1⟩ => ?_) (he _)
  obtain ⟨d, rfl, q⟩ := q1
  cases r1
  exact wpAny_truthy_bool ⟨H1, I1, q⟩

variable {tA tB' : TT} {rest : List Expr}
def tAnd (t u : TT) : TT := fun σ H Q => t σ H fun c H1 => if c = true then u σ H1 Q else Q false H1
def tOr (t u : TT) : TT := fun σ H Q => t σ H fun c H1 => if c = true then Q true H1 else u σ H1 Q
def tNot (t : TT) : TT := fun σ H Q => t σ H fun c H1 => Q (!c) H1
theorem pw_and1 (ha : PT X a tA) : PW X (.BoolOp .And [a] pos) tA := by
  intro wh pins s σ H Q I h
  refine isTrue_and (thn (ha pins s σ H Q I h) fun c s1 e => ?_)
  cases c with
  | true => exact isTrue_and_nil e
  | false => exact e
theorem pw_or1 (ha : PT X a tA) : PW X (.BoolOp .Or [a] pos) tA := by
  intro wh pins s σ H Q I h
  refine isTrue_or (thn (ha pins s σ H Q I h) fun c s1 e => ?_)
  cases c with
  | false => exact isTrue_or_nil e
  | true => exact e
theorem pw_and (ha : PT X a tA) (hb : PW X (.BoolOp .And (b :: rest) pos) tB') : PW X (.BoolOp .And (a :: b :: rest) pos) (tAnd tA tB') := by
  intro wh pins s σ H Q I h
  refine isTrue_and (thn (ha pins s σ H _ I h) fun c s1 ⟨H1, I1, q1⟩ => ?_)
  cases c with
  | true => exact hb wh pins s1 σ H1 Q I1 q1
  | false => exact ⟨H1, I1, q1⟩
theorem pw_or (ha : PT X a tA) (hb : PW X (.BoolOp .Or (b :: rest) pos) tB') : PW X (.BoolOp .Or (a :: b :: rest) pos) (tOr tA tB') := by
  intro wh pins s σ H Q I h
  refine isTrue_or (thn (ha pins s σ H _ I h) fun c s1 ⟨H1, I1, q1⟩ => ?_)
  cases c with
  | true => exact ⟨H1, I1, q1⟩
  | false => exact hb wh pins s1 σ H1 Q I1 q1
theorem pt_not (ha : PT X a tA) : PT X (.UnaryOp .Not a pos) (tNot tA) := by
  intro pins s σ H Q I h
  exact isTrue_not (ha pins s σ H (fun c H1 => Q (!c) H1) I h)
/-- .. as values (bools) -/
def tAndV (ta tb : TE) : TE := fun σ H Q => ta σ H fun x H1 => ∃ c, x = .bl c ∧ if c = true then tb σ H1 Q else Q (.bl false) H1
def tOrV (ta tb : TE) : TE := fun σ H Q => ta σ H fun x H1 => ∃ c, x = .bl c ∧ if c = true then Q (.bl true) H1 else tb σ H1 Q
theorem pe_one {op} {t : TE} (h : PE X a t) : PE X (.BoolOp op [a] pos) t := fun pins s σ H Q I hw => BoolOp_one (h pins s σ H Q I hw)
theorem pe_and (ha : PE X a ta) (hb : PE X (.BoolOp .And (b :: rest) pos) tb) : PE X (.BoolOp .And (a :: b :: rest) pos) (tAndV ta tb) := by
  intro pins s σ H Q I h
  refine BoolOp_and (thn (ha pins s σ H _ I h) fun v s1 ⟨x, H1, I1, r1, q1⟩ => ?_)
  obtain ⟨c, rfl, q1⟩ := q1
  cases r1
  refine wpAny_truthy_bool ?_
  cases c with
  | true => exact hb pins s1 σ H1 Q I1 q1
  | false => exact ⟨.bl false, H1, I1, rfl, q1⟩
theorem pe_or (ha : PE X a ta) (hb : PE X (.BoolOp .Or (b :: rest) pos) tb) : PE X (.BoolOp .Or (a :: b :: rest) pos) (tOrV ta tb) := by
  intro pins s σ H Q I h
  refine BoolOp_or (thn (ha pins s σ H _ I h) fun v s1 ⟨x, H1, I1, r1, q1⟩ => ?_)
  obtain ⟨c, rfl, q1⟩ := q1
  cases r1
  refine wpAny_truthy_bool ?_
  cases c with
  | false => exact hb pins s1 σ H1 Q I1 q1
  | true => exact ⟨.bl true, H1, I1, rfl, q1⟩
/-- a if t else b -/
def tIf (t : TT) (ta tb : TE) : TE := fun σ H Q => t σ H fun c H1 => if c = true then ta σ H1 Q else tb σ H1 Q
theorem pe_ifExp {c : Expr} (hc : PT X c tA) (ha : PE X a ta) (hb : PE X b tb) : PE X (.IfExp c a b pos) (tIf tA ta tb) := by
  intro pins s σ H Q I h
  refine wpAny_IfExp (thn (hc pins s σ H _ I h) fun d s1 ⟨H1, I1, q1⟩ => ?_)
  cases d with
  | true => exact ha pins s1 σ H1 Q I1 q1
  | false => exact hb pins s1 σ H1 Q I1 q1
end
end L2

namespace L2
open PySem PySem.Spec PyProof.Rows

def SqL (K : PySem.W.Frag) (H : Hp) (a : Addr) (xs : List V) : Prop :=
  Rd H a (.lst xs) ∨
    ∃ (o : Obj) (its : Array Value) (n : Nat), K.lookup a = some o ∧ o.cls = .type "list" ∧ o.dict = none ∧ o.data = .seq its n ∧ its.size ≤ sizeLine ∧ Vals xs its.toList
def SqT (K : PySem.W.Frag) (H : Hp) (a : Addr) (xs : List V) : Prop :=
  Rd H a (.tup xs) ∨
    ∃ (o : Obj) (its : Array Value) (n : Nat), K.lookup a = some o ∧ o.cls = .type "tuple" ∧ o.data = .seq its n ∧ its.size ≤ sizeLine ∧ Vals xs its.toList
def absV : Value → Option V
  | .none => some .non
  | .bool b => some (.bl b)
  | .int i _ => some (.int i)
  | .str x _ => some (.str x)
  | .bytes b _ => some (.byt b)
  | .float b _ => some (.flt b)
  | .ref a => some (.ref a)
  | .type n => some (.ty n)
  | _ => none
theorem RelV.abs {x : V} {u : Value} (r : RelV x u) : absV u = some x := by
  cases x with
  | non => cases r; rfl
  | bl _ => cases r; rfl
  | int _ => obtain ⟨t, rfl⟩ := r; rfl
  | str _ => obtain ⟨t, rfl⟩ := r; rfl
  | byt _ => obtain ⟨t, rfl⟩ := r; rfl
  | flt _ => obtain ⟨t, rfl⟩ := r; rfl
  | ref _ => cases r; rfl
  | ty _ => cases r; rfl
theorem RelV.inj {x y : V} {u : Value} (r : RelV x u) (q : RelV y u) : x = y := Option.some.inj (r.abs.symm.trans q.abs)
theorem Vals.inj : ∀ {xs ys : List V} {us : List Value}, Vals xs us → Vals ys us → xs = ys
  | _, _, _, .nil, .nil => rfl
  | _, _, _, .cons r t, .cons r' t' => by rw [r.inj r', Vals.inj t t']
section
variable {X : Cx} {pins : List (Addr × Obj)} {σ : St} {H : Hp} {s : Shared} {a : Addr} {xs ys : List V}
theorem SqL.of {K : PySem.W.Frag} (h : H a = some (.lst xs)) : SqL K H a xs := .inl (.inl h)
theorem SqT.of {K : PySem.W.Frag} (h : H a = some (.tup xs)) : SqT K H a xs := .inl (.inl h)
theorem Inv.list (I : Inv X pins σ H s) (h : SqL X.K H a xs) : ∃ its : List Value, Vals xs its ∧ PlainL s.heap a its.toArray ∧ xs.length ≤ sizeLine := by
  rcases h with h | ⟨o, its, n, hk, hc, hd, hs, hz, r⟩
  · obtain ⟨z, its, n, r, e⟩ := h.ok I.hok
    exact ⟨its, r, ⟨_, n, e, rfl, rfl, rfl⟩, z⟩
  · refine ⟨its.toList, r, ⟨o, n, I.kIn a o hk, hc, hd, by simpa using hs⟩, ?_⟩
    have e := r.length
    simp only [Array.length_toList] at e
    omega
theorem Inv.tuple (I : Inv X pins σ H s) (h : SqT X.K H a xs) : ∃ its : List Value, Vals xs its ∧ IsTup s.heap a its.toArray ∧ xs.length ≤ sizeLine := by
  rcases h with h | ⟨o, its, n, hk, hc, hs, hz, r⟩
  · obtain ⟨z, its, r, p⟩ := h.ok I.hok
    exact ⟨its, r, p, z⟩
  · refine ⟨its.toList, r, ⟨o, I.kIn a o hk, hc, n, by simpa using hs⟩, ?_⟩
    have e := r.length
    simp only [Array.length_toList] at e
    omega
theorem Inv.list_inj (I : Inv X pins σ H s) (h : SqL X.K H a xs) (h' : SqL X.K H a ys) : xs = ys := by
  obtain ⟨its, r, ⟨o, n, e, _, _, d⟩, _⟩ := I.list h
  obtain ⟨its', r', ⟨o', n', e', _, _, d'⟩, _⟩ := I.list h'
  rw [e] at e'; cases e'
  rw [d] at d'
  injection d' with d1 _
  have : its = its' := by simpa using congrArg Array.toList d1
  subst this
  exact r.inj r'
theorem Inv.tuple_inj (I : Inv X pins σ H s) (h : SqT X.K H a xs) (h' : SqT X.K H a ys) : xs = ys := by
  obtain ⟨its, r, ⟨o, e, _, n, d⟩, _⟩ := I.tuple h
  obtain ⟨its', r', ⟨o', e', _, n', d'⟩, _⟩ := I.tuple h'
  rw [e] at e'; cases e'
  rw [d] at d'
  injection d' with d1 _
  have : its = its' := by simpa using congrArg Array.toList d1
  subst this
  exact r.inj r'
end

abbrev Cx.wish (X : Cx) (E : Value → Shared → Prop) : Cx := { X with xe := E }
/-- no exception leaves -/
abbrev Cx.nox (X : Cx) : Cx := X.wish fun _ _ => False
theorem Cx.Ok.wish {X : Cx} (ok : X.Ok) (E : Value → Shared → Prop) : (X.wish E).Ok :=
  ⟨ok.mod, ok.kind, ok.glob, ok.blt, ok.above, ok.inj, ok.has, ok.cab, ok.hd, ok.frames, ok.stk, ok.exf, ok.bs, ok.bsz, ok.noex, ok.exfs, ok.funs, ok.frf⟩
theorem Cx.Ok.unwish {X : Cx} {E : Value → Shared → Prop} (ok : (X.wish E).Ok) : X.Ok :=
  ⟨ok.mod, ok.kind, ok.glob, ok.blt, ok.above, ok.inj, ok.has, ok.cab, ok.hd, ok.frames, ok.stk, ok.exf, ok.bs, ok.bsz, ok.noex, ok.exfs, ok.funs, ok.frf⟩
section
variable {X : Cx} {pins : List (Addr × Obj)} {σ : St} {H : Hp} {s : Shared} {E : Value → Shared → Prop}
theorem Inv.wish (I : Inv X pins σ H s) (E : Value → Shared → Prop) : Inv (X.wish E) pins σ H s := ⟨I.ok.wish E, I.os, I.bare, I.base, I.loc, I.cell, I.free, I.freeC, I.pin, I.hok, I.len⟩
theorem Inv.unwish (I : Inv (X.wish E) pins σ H s) : Inv X pins σ H s := ⟨I.ok.unwish, I.os, I.bare, I.base, I.loc, I.cell, I.free, I.freeC, I.pin, I.hok, I.len⟩
theorem SP.unwish {D : Ends} {f : Flow} {s' : Shared} (h : SP (X.wish E) pins D f s') : SP X pins D f s' := by
  cases f with
  | next => obtain ⟨σ', H', I, q⟩ := h; exact ⟨σ', H', I.unwish, q⟩
  | brk => obtain ⟨σ', H', I, q⟩ := h; exact ⟨σ', H', I.unwish, q⟩
  | cont => obtain ⟨σ', H', I, q⟩ := h; exact ⟨σ', H', I.unwish, q⟩
  | ret u => obtain ⟨v, σ', H', I, r, q⟩ := h; exact ⟨v, σ', H', I.unwish, r, q⟩
theorem PSs.nox {st : List Stmt} {t : TS} (h : PSs X.nox st t) : PSs X st t := fun pins s σ H D I hw =>
  wpAny_mono (h pins s σ H D (I.wish _) hw) (fun _ _ q => q.unwish) fun _ _ z => False.elim z
end

section
variable {X : Cx} {st : Stmt} {rest : List Stmt} {t u : TS} {e : Expr} {te : TE} {pos : Pos}
def tNext : TS := fun D σ H => D.nx σ H
def tSeq (t u : TS) : TS := fun D σ H => t { D with nx := u D } σ H
theorem pss_nil : PSs X [] tNext := fun _ _ σ H _ I h => wpAny_execs_nil ⟨σ, H, I, h⟩
theorem pss_cons (h1 : PS X st t) (h2 : PSs X rest u) : PSs X (st :: rest) (tSeq t u) := by
  intro pins s σ H D I h
  refine wpAny_execs_cons (thn (h1 pins s σ H { D with nx := u D } I h) fun f s1 q => ?_)
  cases f with
  | next =>
    obtain ⟨σ', H', I', q⟩ := q
    exact h2 pins s1 σ' H' D I' q
  | ret v => exact q
  | brk => exact q
  | cont => exact q
theorem pss_one (h1 : PS X st t) : PSs X [st] t := by
  intro pins s σ H D I h
  refine wpAny_execs_cons (thn (h1 pins s σ H D I h) fun f s1 q => ?_)
  cases f with
  | next => exact wpAny_execs_nil q
  | ret v => exact q
  | brk => exact q
  | cont => exact q
def tBreak : TS := fun D σ H => D.bk σ H
theorem ps_break : PS X (.Break pos) tBreak := fun _ _ σ H _ I h => wpAny_Break ⟨σ, H, I, h⟩
/-- in a def's body nothing is shown -/
theorem Inv.quiet {pins : List (Addr × Obj)} {σ : St} {H : Hp} {s : Shared} (I : Inv X pins σ H s) : interactive X.env = false := by simp [interactive, I.ok.kind]
/-- an expression whose value is dropped -/
def tDrop (te : TE) : TS := fun D σ H => te σ H fun _ H1 => D.nx σ H1
theorem ps_expr (he : PE X e te) (hs : swapsWith e none pos.line X.env = pure false := by rfl) : PS X (.Expr e pos) (tDrop te) := by
  intro pins s σ H D I h
  exact wpAny_Expr_any (thn (he pins s σ H _ I h) fun v s1 ⟨x, H1, I1, r1, q1⟩ => ⟨σ, H1, I1, q1⟩) I.quiet hs
def tRet (te : TE) : TS := fun D σ H => te σ H D.rt
theorem ps_ret (he : PE X e te) : PS X (.Return (some e) pos) (tRet te) := by
  intro pins s σ H D I h
  exact wpAny_Return_some (thn (he pins s σ H _ I h) fun v s1 ⟨x, H1, I1, r1, q1⟩ => ⟨x, σ, H1, I1, r1, q1⟩)
def tIfS (c : TT) (t u : TS) : TS := fun D σ H => c σ H fun b H1 => if b = true then t D σ H1 else u D σ H1
theorem ps_if {c : Expr} {a b : List Stmt} {tc : TT} (hc : PT X c tc) (ha : PSs X a t) (hb : PSs X b u) : PS X (.If c a b pos) (tIfS tc t u) := by
  intro pins s σ H D I h
  refine wpAny_If (thn (hc pins s σ H _ I h) fun d s1 ⟨H1, I1, q1⟩ => ?_)
  cases d with
  | true => exact ha pins s1 σ H1 D I1 q1
  | false => exact hb pins s1 σ H1 D I1 q1
end

abbrev TG := V → St → Hp → (St → Hp → Prop) → Prop
abbrev TGs := List V → St → Hp → (St → Hp → Prop) → Prop
def PG (X : Cx) (target : Expr) (t : TG) : Prop :=
  ∀ (pins : List (Addr × Obj)) (s : Shared) (σ : St) (H : Hp) (v : V) (u : Value) (Q : St → Hp → Prop), Inv X pins σ H s → RelV v u → t v σ H Q →
    wpAny (model X.prog X.w) X.A (assign target X.env u) (fun _ s' => ∃ σ' H', Inv X pins σ' H' s' ∧ Q σ' H') X.xe s
/-- several targets, one after another -/
def PGs (X : Cx) (ts : List Expr) (t : TGs) : Prop :=
  ∀ (pins : List (Addr × Obj)) (s : Shared) (σ : St) (H : Hp) (vs : List V) (us : List Value) (Q : St → Hp → Prop), Inv X pins σ H s → Vals vs us → t vs σ H Q →
    wpAny (model X.prog X.w) X.A (assignInOrder ((assignEach ts X.env).map (·.2)) us) (fun _ s' => ∃ σ' H', Inv X pins σ' H' s' ∧ Q σ' H') X.xe s
/-- o[i] = v, by values -/
abbrev TSet := V → V → V → Hp → (Hp → Prop) → Prop
def PSet (X : Cx) (t : TSet) : Prop :=
  ∀ (pins : List (Addr × Obj)) (s : Shared) (σ : St) (H : Hp) (o i v : V) (ov iv u : Value) (Q : Hp → Prop), Inv X pins σ H s → RelV o ov → RelV i iv → RelV v u → t o i v H Q →
    wpAny (model X.prog X.w) X.A (setItem ov iv u) (fun _ s' => ∃ H', Inv X pins σ H' s' ∧ Q H') X.xe s
/-- a op= b, by values -/
abbrev TIp := V → V → Hp → VK → Prop
def PIp (X : Cx) (op : Operator) (t : TIp) : Prop :=
  ∀ (pins : List (Addr × Obj)) (s : Shared) (σ : St) (H : Hp) (x y : V) (v u : Value) (Q : VK), Inv X pins σ H s → RelV x v → RelV y u → t x y H Q →
    wpAny (model X.prog X.w) X.A (inplaceOp op v u) (EP X pins σ Q) X.xe s
section
variable {X : Cx} {pos : Pos}
def gName (i : Nat) : TG := fun v σ H Q => Q (σ.set i (some v)) H
theorem pg_name {i : Nat} {x : Str} (hN : X.N.Nodup) (hi : X.N[i]? = some x) (hx : Loc X.env.scope x) (hf : X.fn x = true ∨ X.env.scope.names.lookup x = some .local := by first | exact .inl rfl | exact .inr rfl | assumption) : PG X (.Name x pos) (gName i) := by
  intro pins s σ H v u Q I r h
  exact wpAny_assign_Name (store_ok I hN hi hx r (fun s' I' => ⟨_, H, I', h⟩) hf)
def gNil : TGs := fun vs σ H Q => vs = [] ∧ Q σ H
def gCons (t : TG) (u : TGs) : TGs := fun vs σ H Q => ∃ v r, vs = v :: r ∧ t v σ H fun σ' H' => u r σ' H' Q
theorem pgs_nil : PGs X [] gNil := by
  intro pins s σ H vs us Q I r h
  obtain ⟨e, h⟩ := h
  subst e
  cases r
  exact assignInOrder_nil ⟨σ, H, I, h⟩
theorem pgs_cons {e : Expr} {es : List Expr} {t : TG} {u : TGs} (h1 : PG X e t) (h2 : PGs X es u)
    (hs : (assignEach (e :: es) X.env).map (·.2) = assign e X.env :: (assignEach es X.env).map (·.2) := by rfl) : PGs X (e :: es) (gCons t u) := by
  intro pins s σ H vs us Q I r h
  obtain ⟨v, vr, e1, h⟩ := h
  subst e1
  cases r with
  | cons r rr =>
    rw [hs]
    refine assignInOrder_cons (thn (h1 pins s σ H _ _ _ I r h) fun _ s1 ⟨σ1, H1, I1, q1⟩ => ?_)
    exact h2 pins s1 σ1 H1 _ _ Q I1 rr q1
/-- (a, b, ..) = a tuple of that length -/
def gTup (K : PySem.W.Frag) (n : Nat) (t : TGs) : TG := fun v σ H Q => ∃ a xs, v = .ref a ∧ SqT K H a xs ∧ xs.length = n ∧ t xs σ H Q
theorem pg_tup {es : List Expr} {k : Nat} {t : TGs} {n : Nat} (hc : X.calm = true) (h : PGs X es t)
    (hn : (assignEach es X.env).length = n := by rfl) (hst : (assignEach es X.env).findIdx? (·.1) = none := by rfl) : PG X (.Tuple es k pos) (gTup X.K n t) := by
  intro pins s σ H v u Q I r hw
  obtain ⟨a, xs, e1, hq, hl, hw⟩ := hw
  subst e1
  cases r
  obtain ⟨its, rv, ht, hz⟩ := I.tuple hq
  refine assign_Tuple_tuple (I.ok.hd hc) ht (by simp [hn, ← hl, rv.length]) hst fun h' hx => ?_
  have I1 : Inv X pins σ H { s with heap := h' } := I.kept (t' := s.toks) fun b o e => hx b o (Nat.ne_of_lt (Heap.lt_size e)) e
  exact h pins _ σ H xs _ Q I1 (by simpa using rv) hw
/-- o[i] = .. -/
def gSub (to ti : TE) (t : TSet) : TG := fun v σ H Q => to σ H fun o H1 => ti σ H1 fun i H2 => t o i v H2 fun H3 => Q σ H3
theorem pg_sub {o i : Expr} {to ti : TE} {t : TSet} (ho : PE X o to) (hi : PE X i ti) (hs : PSet X t)
    (ha : ∀ v, assign (.Subscript o i pos) X.env v = (do
      let ov ← holding [v] (eval o X.env)
      let iv ← holding [v, ov] (eval i X.env)
      standAt pos
      holding [v, ov, iv] (setItem ov iv v)
      release [v, ov, iv] []) := by intro _; rfl) : PG X (.Subscript o i pos) (gSub to ti t) := by
  intro pins s σ H v u Q I r h
  rw [ha]
  refine wpAny_bind (wpAny_holding (thn (ho pins s σ H _ I h) fun ov s1 ⟨x, H1, I1, r1, q1⟩ => ?_))
  refine wpAny_bind (wpAny_holding (thn (hi pins s1 σ H1 _ I1 q1) fun iv s2 ⟨y, H2, I2, r2, q2⟩ => ?_))
  refine wpAny_bind (wpAny_standAt (wpAny_bind (wpAny_holding (thn (hs pins s2 σ H2 x y v ov iv u _ I2 r1 r2 r q2) fun _ s3 ⟨H3, I3, q3⟩ => ?_))))
  exact wpAny_release ⟨σ, H3, I3, q3⟩
/-- target = value -/
def tAsg (te : TE) (g : TG) : TS := fun D σ H => te σ H fun x H1 => g x σ H1 D.nx
theorem ps_asg {tg e : Expr} {te : TE} {g : TG} (he : PE X e te) (hg : PG X tg g) (hs : swapsWithSole [tg] e pos.line X.env = pure false := by rfl) (hw : swappedStores [tg] e X.env = pure none := by rfl)
    (h1 : (assignEach [tg] X.env).map (·.2) = [assign tg X.env] := by rfl) : PS X (.Assign [tg] e pos) (tAsg te g) := by
  intro pins s σ H D I h
  refine wpAny_Assign_stores (thn (he pins s σ H _ I h) fun v s1 ⟨x, H1, I1, r1, q1⟩ => ?_) hs hw
  rw [h1]
  exact thn (hg pins s1 σ H1 x v _ I1 r1 q1) fun _ s2 q => q
/-- name = value -/
theorem ps_set {i : Nat} {x : Str} {e : Expr} {te : TE} {pos' : Pos} (hN : X.N.Nodup) (hi : X.N[i]? = some x) (hx : Loc X.env.scope x) (he : PE X e te) (hs : swapsWith e (some (.Name x pos')) pos.line X.env = pure false := by rfl) (hf : X.fn x = true ∨ X.env.scope.names.lookup x = some .local := by first | exact .inl rfl | exact .inr rfl | assumption) :
    PS X (.Assign [.Name x pos'] e pos) (tAsg te (gName i)) := by
  intro pins s σ H D I h
  refine wpAny_Assign_Name (thn (he pins s σ H _ I h) fun v s1 ⟨y, H1, I1, r1, q1⟩ => ?_) hs
  exact store_ok I1 hN hi hx r1 (fun s2 I2 => ⟨_, H1, I2, q1⟩) hf
/-- name op= e -/
def tAug (i : Nat) (te : TE) (ti : TIp) : TS := fun D σ H => ∃ x, σ[i]? = some (some x) ∧ te σ H fun y H1 => ti x y H1 fun z H2 => D.nx (σ.set i (some z)) H2
theorem ps_aug {i : Nat} {x : Str} {e : Expr} {te : TE} {op : Operator} {ti : TIp} {pos' : Pos} (hN : X.N.Nodup) (hi : X.N[i]? = some x) (hx : Loc X.env.scope x) (he : PE X e te) (ho : PIp X op ti) (hf : X.fn x = true ∨ X.env.scope.names.lookup x = some .local := by first | exact .inl rfl | exact .inr rfl | assumption) :
    PS X (.AugAssign (.Name x pos') op e pos) (tAug i te ti) := by
  intro pins s σ H D I h
  obtain ⟨v, e1, h⟩ := h
  obtain ⟨m, hn, hl⟩ := I.loc
  have vis : Vis X.env.scope x := by rcases hx with k | k; exact .inl k; exact .inr (.inl k)
  obtain ⟨u, r, l⟩ := hl i x v hi e1 vis
  refine wpAny_AugAssign_Name ?_
  have go : wpAny (model X.prog X.w) X.A (eval e X.env) (fun w s₂ => wpAny (model X.prog X.w) X.A (inplaceOp op u w) (fun r s₃ => wpAny (model X.prog X.w) X.A (storeName X.env x r) (fun _ => SP X pins D .next) X.xe s₃) X.xe s₂) X.xe s := by
    refine thn (he pins s σ H _ I h) fun w s1 ⟨y, H1, I1, r1, q1⟩ => ?_
    refine thn (ho pins s1 σ H1 v y u w _ I1 r r1 q1) fun z s2 ⟨zv, H2, I2, r2, q2⟩ => ?_
    exact store_ok I2 hN hi hx r2 (fun s3 I3 => ⟨_, H2, I3, q2⟩) hf
  rcases l with ⟨hk, hm⟩ | ⟨hk, c, hc, hcell⟩
  · exact wpAny_loadName_local I.ok.kind hk hn hm go
  · rcases hk with hk | hk
    · exact wpAny_loadName_cell I.ok.kind hk hc hcell go
    · rcases hx with k | k
      · have : X.env.scope.names.lookup x = some .free := hk
        rw [k] at this; cases this
      · have : X.env.scope.names.lookup x = some .free := hk
        rw [k] at this; cases this
/-- ints -/
def ipI (f : Int → Int → Int) : TIp := fun x y H Q => ∃ i j, x = .int i ∧ y = .int j ∧ Q (.int (f i j)) H
theorem ip_add : PIp X .Add (ipI fun i j => i + j) := by
  intro pins s σ H x y v u Q I r1 r2 h
  obtain ⟨i, j, e1, e2, q⟩ := h
  subst e1; subst e2
  obtain ⟨t, rfl⟩ := r1
  obtain ⟨t', rfl⟩ := r2
  exact iadd_int ⟨.int _, H, I.tok _, ⟨_, rfl⟩, q⟩
theorem ip_sub : PIp X .Sub (ipI fun i j => i - j) := by
  intro pins s σ H x y v u Q I r1 r2 h
  obtain ⟨i, j, e1, e2, q⟩ := h
  subst e1; subst e2
  obtain ⟨t, rfl⟩ := r1
  obtain ⟨t', rfl⟩ := r2
  exact isub_int ⟨.int _, H, I.tok _, ⟨_, rfl⟩, q⟩
end

section
variable {X : Cx} {pos : Pos}
/-- the invariant W with its measure -/
def tWhile (c : TT) (tb : TS) : TS := fun D σ H => ∃ W : Nat → St → Hp → Prop, (∃ m, W m σ H) ∧ ∀ m σ H, W m σ H →
  c σ H fun b H1 => if b = true then ∃ N : St → Hp → Prop, (∀ σ' H', N σ' H' → ∃ m', m' < m ∧ W m' σ' H') ∧ tb { D with nx := N, ct := N, bk := D.nx } σ H1 else D.nx σ H1
theorem ps_while {c : Expr} {body : List Stmt} {tc : TT} {tb : TS} (hp : PassesOwn (model X.prog X.w) X.A X.env X.xe) (hc : PT X c tc) (hb : PSs X body tb) : PS X (.While c body [] pos) (tWhile tc tb) := by
  intro pins s σ H D I h
  obtain ⟨W, ⟨m0, w0⟩, turn⟩ := h
  refine wpAny_While (codeAny_whileLoop (fun n s' => ∃ σ' H', Inv X pins σ' H' s' ∧ W n σ' H') ?_ m0 ⟨σ, H, I, w0⟩)
  rintro n s1 ⟨σ1, H1, I1, w1⟩
  refine wpAny_passesOwn hp (thn (hc pins s1 σ1 H1 _ I1 (turn n σ1 H1 w1)) fun b s2 ⟨H2, I2, q2⟩ => ?_)
  cases b with
  | true =>
    obtain ⟨N, hN, q2⟩ := q2
    rw [if_pos rfl]
    refine wpAny_passesOwn hp (thn (hb pins s2 σ1 H2 _ I2 q2) fun f s3 q3 => ?_)
    cases f with
    | next =>
      obtain ⟨σ3, H3, I3, n3⟩ := q3
      obtain ⟨m', hm, w3⟩ := hN σ3 H3 n3
      exact ⟨m', hm, σ3, H3, I3, w3⟩
    | cont =>
      obtain ⟨σ3, H3, I3, n3⟩ := q3
      obtain ⟨m', hm, w3⟩ := hN σ3 H3 n3
      exact ⟨m', hm, σ3, H3, I3, w3⟩
    | brk => exact q3
    | ret v => exact q3
  | false =>
    rw [if_neg Bool.false_ne_true]
    exact wpAny_execs_nil ⟨σ1, H2, I2, q2⟩
end

/-- at turn i: it yields x (the heap may grow), or it stops -/
structure It where
  go : Nat → Hp → Prop
  yld : Nat → Hp → V → Hp → Prop
  stop : Nat → Hp → Prop
/-- the iterator's own objects may turn: they are not the frame's, not pinned, younger than the entry (or a comprehension's own) -/
def FpOk (X : Cx) (pins : List (Addr × Obj)) (H : Hp) (b : Addr) : Prop :=
  H b = none ∧ b ≠ X.env.locals ∧ b ∉ X.fs ∧ (b ∈ X.ex ∨ X.s_0.heap.objs.size ≤ b) ∧ (∀ x c, X.env.cells.lookup x = some c → c ≠ b) ∧ ∀ p ∈ X.pn ++ pins, p.1 ≠ b
theorem Inv.fpOk {X : Cx} {pins : List (Addr × Obj)} {σ : St} {H H' : Hp} {s : Shared} {b : Addr} (I : Inv X pins σ H s) (hb : s.heap.objs.size ≤ b) (hn : H' b = none) : FpOk X pins H' b := by
  refine ⟨hn, Nat.ne_of_gt (Nat.lt_of_lt_of_le I.lt hb), I.nofs hb, .inr (Nat.le_trans I.sz hb), fun x c e z => ?_, fun p hp z => ?_⟩
  · obtain ⟨v, q⟩ := I.cell x c e
    exact absurd (Nat.lt_of_lt_of_le q.lt (by rw [z]; exact hb)) (Nat.lt_irrefl _)
  · exact absurd (Nat.lt_of_lt_of_le (Heap.lt_size (I.pin p hp).1) (by rw [z]; exact hb)) (Nat.lt_irrefl _)
structure Turn (P : Program) (w : World) (K : PySem.W.Frag) (tg : Expr) (J : It) (fp : List Addr) (it : Addr) (tn : Nat → Heap → Prop) : Prop where
  mem : it ∈ fp
  obj : ∀ i h, tn i h → ∀ b ∈ fp, ∃ o, h.get? b = some o ∧ ∀ v, o.data ≠ .cell v
  keep : ∀ i h h', tn i h → (∀ b ∈ fp, ∀ o, h.get? b = some o → h'.get? b = some o) → tn i h'
  item : ∀ (X : Cx), X.prog = P → X.w = w → X.K = K → X.calm = true → ∀ (i : Nat) (pins : List (Addr × Obj)) (s : Shared) (σ : St) (H : Hp) (E : Value → Shared → Prop), Inv X pins σ H s → (∀ b ∈ fp, FpOk X pins H b) → tn i s.heap → J.go i H →
    wpAny (model P w) X.A (pyNext (.ref it)) (fun r s1 => ∃ u, r = some u ∧
      wpAny (model P w) X.A (letOwnedTupleGo tg (.ref it) u) (fun _ s2 => ∃ x H', Inv X pins σ H' s2 ∧ RelV x u ∧ J.yld i H x H' ∧ tn (i + 1) s2.heap ∧ ∀ b ∈ fp, H' b = none) E s1) E s
  done : ∀ (X : Cx), X.prog = P → X.w = w → X.K = K → X.calm = true → ∀ (i : Nat) (pins : List (Addr × Obj)) (s : Shared) (σ : St) (H : Hp) (E : Value → Shared → Prop), Inv X pins σ H s → (∀ b ∈ fp, FpOk X pins H b) → tn i s.heap → J.stop i H →
    wpAny (model P w) X.A (pyNext (.ref it)) (fun r s1 => r = none ∧ Inv X pins σ H s1) E s
  self : ∀ (A : Around) (i : Nat) (s : Shared) (Q : Value → Shared → Prop) (E : Value → Shared → Prop), tn i s.heap → Q (.ref it) s → wpAny (model P w) A (pyIter (.ref it)) Q E s
abbrev TI := St → Hp → (It → Hp → Prop) → Prop
/-- an iterator has come -/
def PIE (X : Cx) (pins : List (Addr × Obj)) (σ : St) (tg : Expr) (R : It → Hp → Prop) (itv : Value) (s2 : Shared) : Prop :=
  ∃ (it : Addr) (fp : List Addr) (tn : Nat → Heap → Prop) (J : It) (H' : Hp), itv = .ref it ∧ Inv X pins σ H' s2 ∧ Turn X.prog X.w X.K tg J fp it tn ∧ tn 0 s2.heap ∧ (∀ b ∈ fp, FpOk X pins H' b) ∧ R J H'
def PI (X : Cx) (tg iter : Expr) (wi : TI) : Prop :=
  ∀ (pins : List (Addr × Obj)) (s : Shared) (σ : St) (H : Hp) (R : It → Hp → Prop), Inv X pins σ H s → wi σ H R →
    wpAny (model X.prog X.w) X.A (eval iter X.env) (fun v s1 => wpAny (model X.prog X.w) X.A (pyIter v) (PIE X pins σ tg R) X.xe s1) X.xe s

/-- the step ahead of the store is nothing for an iterator that keeps no tuple -/
theorem go_of {M : Model} {A : Around} {E : Value → Shared → Prop} {s : Shared} {tg : Expr} {it : Addr} {u : Value} {o : Obj} {n : String} {vs : Array Value} {Q : Unit → Shared → Prop} (ho : s.heap.get? it = some o) (hc : o.cls = .type n) (hd : o.data = .fields vs)
    (hn : ["enumerate", "zip", "dict_itemiterator", "dict_reverseitemiterator", "odict_iterator", "itertools.zip_longest", "itertools.pairwise"].contains n = false) (hQ : Q () s) : wpAny M A (letOwnedTupleGo tg (.ref it) u) Q E s := by
  unfold letOwnedTupleGo
  cases tg <;> first
    | exact wpAny_pure hQ
    | (cases u <;> first
        | exact wpAny_pure hQ
        | (refine wpAny_bind (wpAny_load ho ?_)
           rw [hc, hd]
           show wpAny M A (if (["enumerate", "zip", "dict_itemiterator", "dict_reverseitemiterator", "odict_iterator", "itertools.zip_longest", "itertools.pairwise"].contains n && vs[0]? == some (rawInt _)) = true then _ else _) Q E s
           rw [if_neg (by intro h; rw [hn, Bool.false_and] at h; cases h)]
           exact wpAny_pure hQ))

/-- the list at a, as it stands at each turn (a loop may append to it) -/
def Itl (K : PySem.W.Frag) (a : Addr) : It :=
  ⟨fun i H => ∃ xs x, SqL K H a xs ∧ xs[i]? = some x, fun i H x H' => H' = H ∧ ∀ xs, SqL K H a xs → xs[i]? = some x, fun i H => ∃ xs, SqL K H a xs ∧ xs.length ≤ i⟩
def Itt (K : PySem.W.Frag) (a : Addr) : It :=
  ⟨fun i H => ∃ xs x, SqT K H a xs ∧ xs[i]? = some x, fun i H x H' => H' = H ∧ ∀ xs, SqT K H a xs → xs[i]? = some x, fun i H => ∃ xs, SqT K H a xs ∧ xs.length ≤ i⟩
theorem turn_list {P : Program} {w : World} {K : PySem.W.Frag} {tg : Expr} (a it : Addr) : Turn P w K tg (Itl K a) [it] it (fun i h => h.IsListIter it a i) where
  mem := by simp
  obj := fun i h st b hb => by
    have e : b = it := by simpa using hb
    subst e
    obtain ⟨o, e, c, d⟩ := st
    exact ⟨o, e, fun v z => by rw [d] at z; cases z⟩
  keep := fun i h h' st k => st.at fun o e => k it (by simp) o e
  item := by
    intro X hP hw hK hc i pins s σ H E I hf st hg
    subst hP hw hK
    obtain ⟨xs, x, hq, hx⟩ := hg
    obtain ⟨its, rv, p, hz⟩ := I.list hq
    obtain ⟨u, hu, ru⟩ := rv.get hx
    obtain ⟨f0, f1, f2, f3, f4, f5⟩ := hf it (by simp)
    refine wpAny_pyNext_list_item st p.isList (x := u) (by simpa using hu) fun h' st' sb => ?_
    have I1 : Inv X pins σ H { s with heap := h' } := I.turned (t' := s.toks) (fun b o hb e => (sb.2 b hb).trans e) f0 f1 f3 f4 f5
    obtain ⟨o, e, c, d⟩ := id st'
    exact ⟨u, rfl, go_of (s := { s with heap := h' }) e c d (by decide) ⟨x, H, I1, ru, ⟨rfl, fun ys hy => by rw [I.list_inj hy hq]; exact hx⟩, st', fun b hb => (hf b hb).1⟩⟩
  done := by
    intro X hP hw hK hc i pins s σ H E I hf st hg
    subst hP hw hK
    obtain ⟨xs, hq, hx⟩ := hg
    obtain ⟨its, rv, p, hz⟩ := I.list hq
    obtain ⟨f0, f1, f2, f3, f4, f5⟩ := hf it (by simp)
    have hl := rv.length
    exact wpAny_pyNext_list_end (I.ok.hd hc) st p.isList (by simp; omega) fun h' eb => ⟨rfl, I.turned (t' := s.toks) (fun b o hb e => eb b o hb e) f0 f1 f3 f4 f5⟩
  self := fun _ _ _ _ _ st h => wpAny_pyIter_listiter st h
theorem turn_tuple {P : Program} {w : World} {K : PySem.W.Frag} {tg : Expr} (a it : Addr) : Turn P w K tg (Itt K a) [it] it (fun i h => h.IsTupleIter it a i) where
  mem := by simp
  obj := fun i h st b hb => by
    have e : b = it := by simpa using hb
    subst e
    obtain ⟨o, e, c, d⟩ := st
    exact ⟨o, e, fun v z => by rw [d] at z; cases z⟩
  keep := fun i h h' st k => st.at fun o e => k it (by simp) o e
  item := by
    intro X hP hw hK hc i pins s σ H E I hf st hg
    subst hP hw hK
    obtain ⟨xs, x, hq, hx⟩ := hg
    obtain ⟨its, rv, p, hz⟩ := I.tuple hq
    obtain ⟨u, hu, ru⟩ := rv.get hx
    obtain ⟨f0, f1, f2, f3, f4, f5⟩ := hf it (by simp)
    refine wpAny_pyNext_tuple_item st (show s.heap.IsTuple a its.toArray from p) (x := u) (by simpa using hu) fun h' st' sb => ?_
    have I1 : Inv X pins σ H { s with heap := h' } := I.turned (t' := s.toks) (fun b o hb e => (sb.2 b hb).trans e) f0 f1 f3 f4 f5
    obtain ⟨o, e, c, d⟩ := id st'
    exact ⟨u, rfl, go_of (s := { s with heap := h' }) e c d (by decide) ⟨x, H, I1, ru, ⟨rfl, fun ys hy => by rw [I.tuple_inj hy hq]; exact hx⟩, st', fun b hb => (hf b hb).1⟩⟩
  done := by
    intro X hP hw hK hc i pins s σ H E I hf st hg
    subst hP hw hK
    obtain ⟨xs, hq, hx⟩ := hg
    obtain ⟨its, rv, p, hz⟩ := I.tuple hq
    obtain ⟨f0, f1, f2, f3, f4, f5⟩ := hf it (by simp)
    have hl := rv.length
    exact wpAny_pyNext_tuple_end (I.ok.hd hc) st (show s.heap.IsTuple a its.toArray from p) (by simp; omega) fun h' eb => ⟨rfl, I.turned (t' := s.toks) (fun b o hb e => eb b o hb e) f0 f1 f3 f4 f5⟩
  self := fun _ _ _ _ _ st h => wpAny_pyIter_tupleiter st h
end L2

namespace L2
open PySem PySem.Spec PyProof.Rows
section
variable {X : Cx} {tg : Expr}
def iList (K : PySem.W.Frag) (tl : TE) : TI := fun σ H R => tl σ H fun x H1 => ∃ a, x = .ref a ∧ (∃ xs, SqL K H1 a xs) ∧ R (Itl K a) H1
def iTup (K : PySem.W.Frag) (tl : TE) : TI := fun σ H R => tl σ H fun x H1 => ∃ a, x = .ref a ∧ (∃ xs, SqT K H1 a xs) ∧ R (Itt K a) H1
theorem pi_list {l : Expr} {tl : TE} (hl : PE X l tl) : PI X tg l (iList X.K tl) := by
  intro pins s σ H R I h
  refine thn (hl pins s σ H _ I h) fun v s1 ⟨x, H1, I1, r1, q1⟩ => ?_
  obtain ⟨a, e, ⟨xs, hq⟩, q⟩ := q1
  subst e
  cases r1
  obtain ⟨its, rv, p, hz⟩ := I1.list hq
  refine wpAny_pyIter_list p.isList ?_
  refine ⟨s1.heap.objs.size, [s1.heap.objs.size], _, _, H1, rfl, I1.kept (t' := s1.toks) fun b o e => Heap.get?_push_of_some _ e, turn_list a _, ⟨_, Heap.get?_push_size _ rfl, rfl, rfl⟩, fun b hb => ?_, q⟩
  have e : b = s1.heap.objs.size := by simpa using hb
  subst e
  exact I1.fpOk (Nat.le_refl _) (I1.hok.fresh (Nat.le_refl _))
theorem pi_tup {l : Expr} {tl : TE} (hl : PE X l tl) : PI X tg l (iTup X.K tl) := by
  intro pins s σ H R I h
  refine thn (hl pins s σ H _ I h) fun v s1 ⟨x, H1, I1, r1, q1⟩ => ?_
  obtain ⟨a, e, ⟨xs, hq⟩, q⟩ := q1
  subst e
  cases r1
  obtain ⟨its, rv, p, hz⟩ := I1.tuple hq
  refine wpAny_pyIter_tuple (show s1.heap.IsTuple a its.toArray from p) ?_
  refine ⟨s1.heap.objs.size, [s1.heap.objs.size], _, _, H1, rfl, I1.kept (t' := s1.toks) fun b o e => Heap.get?_push_of_some _ e, turn_tuple a _, ⟨_, Heap.get?_push_size _ rfl, rfl, rfl⟩, fun b hb => ?_, q⟩
  have e : b = s1.heap.objs.size := by simpa using hb
  subst e
  exact I1.fpOk (Nat.le_refl _) (I1.hok.fresh (Nat.le_refl _))

/-- W: the invariant by the turn and a measure; N: what the body is to reach -/
def tFor (wi : TI) (g : TG) (tb : TS) : TS := fun D σ H => wi σ H fun J H1 => ∃ W : Nat → Nat → St → Hp → Prop, (∃ m, W 0 m σ H1) ∧ ∀ i m σ H, W i m σ H →
  (J.stop i H ∧ D.nx σ H) ∨ (J.go i H ∧ ∃ N : St → Hp → Prop, (∀ σ' H', N σ' H' → ∃ m', m' < m ∧ W (i + 1) m' σ' H') ∧ ∀ x H', J.yld i H x H' → g x σ H' fun σ2 H2 => tb { D with nx := N, ct := N, bk := D.nx } σ2 H2)
/-- the records at fp as they stand -/
def pinsAt (fp : List Addr) (h : Heap) : List (Addr × Obj) := fp.filterMap fun b => (h.get? b).map fun o => (b, o)
theorem mem_pinsAt {fp : List Addr} {h : Heap} {b : Addr} {o : Obj} (hb : b ∈ fp) (e : h.get? b = some o) : (b, o) ∈ pinsAt fp h := List.mem_filterMap.mpr ⟨b, hb, by rw [e]; rfl⟩
theorem of_pinsAt {fp : List Addr} {h : Heap} {p : Addr × Obj} (hp : p ∈ pinsAt fp h) : p.1 ∈ fp ∧ h.get? p.1 = some p.2 := by
  obtain ⟨b, hb, e⟩ := List.mem_filterMap.mp hp
  cases q : h.get? b with
  | none => rw [q] at e; cases e
  | some o =>
    rw [q] at e
    have e' : (b, o) = p := Option.some.inj e
    subst e'
    exact ⟨hb, q⟩
theorem Inv.pinned {pins : List (Addr × Obj)} {σ : St} {H : Hp} {s : Shared} {fp : List Addr} (I : Inv X pins σ H s) (hf : ∀ b ∈ fp, FpOk X pins H b) (ho : ∀ b ∈ fp, ∃ o, s.heap.get? b = some o ∧ ∀ v, o.data ≠ .cell v) : Inv X (pins ++ pinsAt fp s.heap) σ H s :=
  I.pins_of fun p hp => (List.mem_append.mp hp).elim (fun z => I.pin p (List.mem_append_right _ z)) fun z => by
    obtain ⟨hb, e⟩ := of_pinsAt z
    obtain ⟨f0, f1, f2, _⟩ := hf p.1 hb
    obtain ⟨o, e', d⟩ := ho p.1 hb
    rw [e] at e'; cases e'
    exact ⟨e, f0, f1, f2, d⟩
theorem Inv.unpinned {pins pl : List (Addr × Obj)} {σ : St} {H : Hp} {s : Shared} (I : Inv X (pins ++ pl) σ H s) : Inv X pins σ H s := I.pins_of fun p hp => I.pin p (List.mem_append_right _ (List.mem_append_left _ hp))
theorem ps_for {iter : Expr} {body : List Stmt} {wi : TI} {g : TG} {tb : TS} {pos : Pos} (hp : PassesOwn (model X.prog X.w) X.A X.env X.xe) (hc : X.calm = true) (hi : PI X tg iter wi) (hg : PG X tg g) (hb : PSs X body tb)
    (hs : ∀ x, foldedSetIterable iter X.env x = pure x := by intro _; rfl) : PS X (.For tg iter body [] pos) (tFor wi g tb) := by
  intro pins s σ H D I h
  refine wpAny_For (thn (hi pins s σ H _ I h) fun v s1 h1 => thn h1 fun itv s2 h2 => ?_) hs
  obtain ⟨it, fp, tn, J, H2, e, I2, T, st2, f2, W, ⟨m0, w0⟩, turn⟩ := h2
  subst e
  -- what stays true of the iterator's objects through the loop
  have stat : ∀ {H' : Hp}, (∀ b ∈ fp, H' b = none) → ∀ b ∈ fp, FpOk X pins H' b := fun hn b hb => ⟨hn b hb, (f2 b hb).2⟩
  refine codeAny_forLoop_any (fun n s' => ∃ i σ' H', Inv X pins σ' H' s' ∧ tn i s'.heap ∧ (∀ b ∈ fp, H' b = none) ∧ W i n σ' H') ?_ m0 ⟨0, σ, H2, I2, st2, fun b hb => (f2 b hb).1, w0⟩
  rintro n s3 ⟨i, σ3, H3, I3, st3, fr3, w3⟩
  rcases turn i n σ3 H3 w3 with ⟨stop, qn⟩ | ⟨go, N, hN, step⟩
  · refine wpAny_passesOwn hp (thn (T.done X rfl rfl rfl hc i pins s3 σ3 H3 X.xe I3 (stat fr3) st3 stop) fun r s4 ⟨hr, I4⟩ => ?_)
    subst hr
    exact wpAny_execs_nil ⟨σ3, H3, I4, qn⟩
  · refine wpAny_passesOwn hp (thn (T.item X rfl rfl rfl hc i pins s3 σ3 H3 X.xe I3 (stat fr3) st3 go) fun r s4 ⟨u, hr, h4⟩ => ?_)
    subst hr
    refine wpAny_passesOwn hp (thn h4 fun _ s5 ⟨x, H5, I5, r5, y5, st5, fr5⟩ => ?_)
    have I5' := I5.pinned (stat fr5) (T.obj _ _ st5)
    refine wpAny_passesOwn hp (thn (hg _ s5 σ3 H5 x u _ I5' r5 (step x H5 y5)) fun _ s6 ⟨σ6, H6, I6, q6⟩ => ?_)
    refine wpAny_passesOwn hp (thn (hb _ s6 σ6 H6 _ I6 q6) fun f s7 q7 => ?_)
    have again : ∀ {σ7 : St} {H7 : Hp}, Inv X (pins ++ pinsAt fp s5.heap) σ7 H7 s7 → N σ7 H7 → ∃ m, m < n ∧ ∃ i σ' H', Inv X pins σ' H' s7 ∧ tn i s7.heap ∧ (∀ b ∈ fp, H' b = none) ∧ W i m σ' H' := fun {σ7 H7} I7 n7 => by
      obtain ⟨m', hm, w7⟩ := hN σ7 H7 n7
      refine ⟨m', hm, i + 1, σ7, H7, I7.unpinned, T.keep _ _ _ st5 fun b hb o e => (I7.pin (b, o) (List.mem_append_right _ (List.mem_append_right _ (mem_pinsAt hb e)))).1, fun b hb => ?_, w7⟩
      obtain ⟨o, e, d⟩ := T.obj _ _ st5 b hb
      exact (I7.pin (b, o) (List.mem_append_right _ (List.mem_append_right _ (mem_pinsAt hb e)))).2.1
    cases f with
    | next => obtain ⟨σ7, H7, I7, n7⟩ := q7; exact again I7 n7
    | cont => obtain ⟨σ7, H7, I7, n7⟩ := q7; exact again I7 n7
    | brk => obtain ⟨σ7, H7, I7, q7⟩ := q7; exact ⟨σ7, H7, I7.unpinned, q7⟩
    | ret v => obtain ⟨x7, σ7, H7, I7, r7, q7⟩ := q7; exact ⟨x7, σ7, H7, I7.unpinned, r7, q7⟩
end

/-- over a list that the body leaves as it is -/
theorem for_list {K : PySem.W.Frag} {a : Addr} {xs : List V} {g : TG} {tb : TS} {D : Ends} {σ : St} {H : Hp} (Pv : Nat → St → Hp → Prop) (h0 : Pv 0 σ H) (hl : ∀ i σ H, i ≤ xs.length → Pv i σ H → SqL K H a xs)
    (hs : ∀ i x σ H, xs[i]? = some x → Pv i σ H → g x σ H fun σ2 H2 => tb { D with nx := Pv (i + 1), ct := Pv (i + 1), bk := D.nx } σ2 H2) (hd : ∀ σ H, Pv xs.length σ H → D.nx σ H) :
    ∃ W : Nat → Nat → St → Hp → Prop, (∃ m, W 0 m σ H) ∧ ∀ i m σ H, W i m σ H →
      ((Itl K a).stop i H ∧ D.nx σ H) ∨ ((Itl K a).go i H ∧ ∃ N : St → Hp → Prop, (∀ σ' H', N σ' H' → ∃ m', m' < m ∧ W (i + 1) m' σ' H') ∧ ∀ x H', (Itl K a).yld i H x H' → g x σ H' fun σ2 H2 => tb { D with nx := N, ct := N, bk := D.nx } σ2 H2) := by
  refine ⟨fun i m σ H => m = xs.length - i ∧ i ≤ xs.length ∧ Pv i σ H, ⟨xs.length, by simp, Nat.zero_le _, h0⟩, ?_⟩
  rintro i m σ H ⟨rfl, hi, p⟩
  have q := hl i σ H hi p
  by_cases hlt : i < xs.length
  · refine .inr ⟨⟨xs, xs[i], q, by simp [hlt]⟩, Pv (i + 1), fun σ' H' p' => ⟨xs.length - (i + 1), by omega, rfl, hlt, p'⟩, fun x H' y => ?_⟩
    obtain ⟨e, y⟩ := y
    subst e
    exact hs i x σ _ (y xs q) p
  · have e : i = xs.length := by omega
    subst e
    exact .inl ⟨⟨xs, q, Nat.le_refl _⟩, hd σ H p⟩
end L2

namespace L2
open PySem PySem.Spec PyProof.Rows

abbrev R2 := V → V → Hp → VK → Prop
/-- a two-place operation on values: f is binaryOp op, inplaceOp op or compareOp op -/
def OpR (X : Cx) (f : Value → Value → Sem Value) (r : R2) : Prop :=
  ∀ (pins : List (Addr × Obj)) (s : Shared) (σ : St) (H : Hp) (x y : V) (v u : Value) (Q : VK), Inv X pins σ H s → RelV x v → RelV y u → r x y H Q →
    wpAny (model X.prog X.w) X.A (f v u) (EP X pins σ Q) X.xe s
/-- a one-place operation -/
def UnR (X : Cx) (f : Value → Sem Value) (r : V → Hp → VK → Prop) : Prop :=
  ∀ (pins : List (Addr × Obj)) (s : Shared) (σ : St) (H : Hp) (x : V) (v : Value) (Q : VK), Inv X pins σ H s → RelV x v → r x H Q →
    wpAny (model X.prog X.w) X.A (f v) (EP X pins σ Q) X.xe s
/-- a call of a value that is known (a builtin, a type) with values -/
def CallR (X : Cx) (f : Value) (r : List V → Hp → VK → Prop) : Prop :=
  ∀ (pins : List (Addr × Obj)) (s : Shared) (σ : St) (H : Hp) (xs : List V) (us : List Value) (Q : VK), Inv X pins σ H s → Vals xs us → r xs H Q →
    wpAny (model X.prog X.w) X.A (call f us) (EP X pins σ Q) X.xe s

def tOp (r : R2) (ta tb : TE) : TE := fun σ H Q => ta σ H fun x H1 => tb σ H1 fun y H2 => r x y H2 Q
def tUn (r : V → Hp → VK → Prop) (ta : TE) : TE := fun σ H Q => ta σ H fun x H1 => r x H1 Q
/-- ints in, under C, and a value out -/
def rI (C : Int → Int → Prop) (g : Int → Int → V) : R2 := fun x y H Q => ∃ i j, x = .int i ∧ y = .int j ∧ C i j ∧ Q (g i j) H
def rI0 (g : Int → Int → V) : R2 := fun x y H Q => ∃ i j, x = .int i ∧ y = .int j ∧ Q (g i j) H
def rU (g : Int → V) : V → Hp → VK → Prop := fun x H Q => ∃ i, x = .int i ∧ Q (g i) H

section
variable {X : Cx} {a b c : Expr} {ta tb tc : TE} {pos : Pos}

theorem binT (ha : PE X a ta) (hb : PE X b tb) {pins : List (Addr × Obj)} {s : Shared} {σ : St} {H : Hp} {R : V → V → Hp → Prop} (I : Inv X pins σ H s)
    (h : ta σ H fun x H1 => tb σ H1 fun y H2 => R x y H2) {Q : Value → Shared → Prop} {f : Value → Value → Sem Value}
    (hf : ∀ v u s2 x y H2, Inv X pins σ H2 s2 → RelV x v → RelV y u → R x y H2 → wpAny (model X.prog X.w) X.A (f v u) Q X.xe s2) :
    wpAny (model X.prog X.w) X.A (eval a X.env) (fun v s₁ => wpAny (model X.prog X.w) X.A (eval b X.env) (fun u s₂ => wpAny (model X.prog X.w) X.A (f v u) Q X.xe s₂) X.xe s₁) X.xe s := by
  refine thn (ha pins s σ H _ I h) fun v s1 ⟨x, H1, I1, r1, q1⟩ => ?_
  refine thn (hb pins s1 σ H1 _ I1 q1) fun u s2 ⟨y, H2, I2, r2, q2⟩ => ?_
  exact hf v u s2 x y H2 I2 r1 r2 q2

theorem pe_op {op : Operator} {r : R2} (ho : OpR X (binaryOp op) r) (ha : PE X a ta) (hb : PE X b tb) : PE X (.BinOp a op b pos) (tOp r ta tb) := by
  intro pins s σ H Q I h
  exact wpAny_BinOp (binT ha hb I h fun v u s2 x y H2 I2 rx ry q => ho pins s2 σ H2 x y v u Q I2 rx ry q)
theorem pe_un {op : UnaryOp} {r : V → Hp → VK → Prop} (ho : UnR X (unaryOp op) r) (ha : PE X a ta) : PE X (.UnaryOp op a pos) (tUn r ta) := by
  intro pins s σ H Q I h
  exact UnaryOp_ (thn (ha pins s σ H _ I h) fun v s1 ⟨x, H1, I1, r1, q1⟩ => ho pins s1 σ H1 x v Q I1 r1 q1)

theorem opI {f : Value → Value → Sem Value} {C : Int → Int → Prop} {g : Int → Int → Int}
    (rule : ∀ (i j : Int) (t u : Tok) (s : Shared) (Q : Value → Shared → Prop) (E : Value → Shared → Prop), C i j → Q (.int (g i j) s.toks) { s with toks := s.toks + 1 } → wpAny (model X.prog X.w) X.A (f (.int i t) (.int j u)) Q E s) :
    OpR X f (rI C fun i j => .int (g i j)) := by
  intro pins s σ H x y v u Q I rx ry h
  obtain ⟨i, j, rfl, rfl, hc, q⟩ := h
  obtain ⟨t, rfl⟩ := rx
  obtain ⟨t', rfl⟩ := ry
  exact rule i j t t' s _ _ hc ⟨.int (g i j), H, I.tok _, ⟨_, rfl⟩, q⟩
theorem opI0 {f : Value → Value → Sem Value} {g : Int → Int → Int}
    (rule : ∀ (i j : Int) (t u : Tok) (s : Shared) (Q : Value → Shared → Prop) (E : Value → Shared → Prop), Q (.int (g i j) s.toks) { s with toks := s.toks + 1 } → wpAny (model X.prog X.w) X.A (f (.int i t) (.int j u)) Q E s) :
    OpR X f (rI0 fun i j => .int (g i j)) := by
  intro pins s σ H x y v u Q I rx ry h
  obtain ⟨i, j, rfl, rfl, q⟩ := h
  obtain ⟨t, rfl⟩ := rx
  obtain ⟨t', rfl⟩ := ry
  exact rule i j t t' s _ _ ⟨.int (g i j), H, I.tok _, ⟨_, rfl⟩, q⟩
theorem opB0 {f : Value → Value → Sem Value} {g : Int → Int → Bool}
    (rule : ∀ (i j : Int) (t u : Tok) (s : Shared) (Q : Value → Shared → Prop) (E : Value → Shared → Prop), Q (.bool (g i j)) s → wpAny (model X.prog X.w) X.A (f (.int i t) (.int j u)) Q E s) :
    OpR X f (rI0 fun i j => .bl (g i j)) := by
  intro pins s σ H x y v u Q I rx ry h
  obtain ⟨i, j, rfl, rfl, q⟩ := h
  obtain ⟨t, rfl⟩ := rx
  obtain ⟨t', rfl⟩ := ry
  exact rule i j t t' s _ _ ⟨.bl (g i j), H, I, rfl, q⟩

def CDiv (i j : Int) : Prop := 0 < j ∧ j < 1073741824
def CMul (i j : Int) : Prop := (-(2 ^ 64) < i ∧ i < 2 ^ 64) ∨ (-(2 ^ 64) < j ∧ j < 2 ^ 64)
theorem CMul.ok {i j : Int} (h : CMul i j) : IntMulOk i j := by
  rcases h with ⟨h1, h2⟩ | ⟨h1, h2⟩
  · exact .of_left (intBits_le_64 h1 h2)
  · exact .of_right (intBits_le_64 h1 h2)
theorem two_pow_nn (k : Nat) : (0 : Int) ≤ 2 ^ k := by
  rw [two_pow_cast]
  exact Int.natCast_nonneg _

theorem op_add : OpR X (binaryOp .Add) (rI0 fun i j => .int (i + j)) := opI0 fun _ _ _ _ _ _ _ q => add_int q
theorem op_sub : OpR X (binaryOp .Sub) (rI0 fun i j => .int (i - j)) := opI0 fun _ _ _ _ _ _ _ q => sub_int q
theorem op_mul : OpR X (binaryOp .Mult) (rI CMul fun i j => .int (i * j)) := opI fun _ _ _ _ _ _ _ hc q => mul_int q hc.ok
/-- // by a positive divisor -/
theorem op_fdiv : OpR X (binaryOp .FloorDiv) (rI CDiv fun i j => .int (i / j)) := opI fun i j _ _ _ _ _ hc q => by
  have h1 : (0 : Int) < j := hc.1
  have h2 : j < 1073741824 := hc.2
  exact floordiv_int (by omega) (by rw [Int.fdiv_eq_ediv_of_nonneg i (by omega)]; exact q) (.inl (PyProof.noPylong_small (by omega)))
/-- % by a positive divisor of any size -/
theorem op_mod : OpR X (binaryOp .Mod) (rI (fun _ j => 0 < j) fun i j => .int (i % j)) := opI fun i j _ _ _ _ _ hc q => by
  have h1 : (0 : Int) < j := hc
  exact mod_int' (by omega) (by rw [Int.fmod_eq_emod_of_nonneg i (by omega)]; exact q)
theorem op_shr : OpR X (binaryOp .RShift) (rI (fun _ j => 0 ≤ j) fun i j => .int (i / 2 ^ j.toNat)) := opI fun i j _ _ _ _ _ hc q =>
  rshift_int hc (by rw [Int.fdiv_eq_ediv_of_nonneg i (two_pow_nn _)]; exact q)
theorem op_and : OpR X (binaryOp .BitAnd) (rI0 fun i j => .int (Builtin.bitAnd i j)) := opI0 fun _ _ _ _ _ _ _ q => and_int q
theorem op_or : OpR X (binaryOp .BitOr) (rI0 fun i j => .int (Builtin.bitOr i j)) := opI0 fun _ _ _ _ _ _ _ q => or_int q
theorem op_xor : OpR X (binaryOp .BitXor) (rI0 fun i j => .int (Builtin.bitXor i j)) := opI0 fun _ _ _ _ _ _ _ q => xor_int q

theorem unI {f : Value → Sem Value} {g : Int → Int}
    (rule : ∀ (i : Int) (t : Tok) (s : Shared) (Q : Value → Shared → Prop) (E : Value → Shared → Prop), Q (.int (g i) s.toks) { s with toks := s.toks + 1 } → wpAny (model X.prog X.w) X.A (f (.int i t)) Q E s) :
    UnR X f (rU fun i => .int (g i)) := by
  intro pins s σ H x v Q I rx h
  obtain ⟨i, rfl, q⟩ := h
  obtain ⟨t, rfl⟩ := rx
  exact rule i t s _ _ ⟨.int (g i), H, I.tok _, ⟨_, rfl⟩, q⟩
theorem un_neg : UnR X (unaryOp .USub) (rU fun i => .int (-i)) := unI fun _ _ _ _ _ q => neg_int q
end

/-- the scalars that == tells apart as data does -/
def scal : V → V → Bool
  | .non, .non => true | .non, .int _ => true | .int _, .non => true | .non, .bl _ => true | .bl _, .non => true | .non, .str _ => true | .str _, .non => true
  | .int _, .int _ => true | .bl _, .bl _ => true | .str _, .str _ => true | .byt _, .byt _ => true
  | .int _, .str _ => true | .str _, .int _ => true | .bl _, .str _ => true | .str _, .bl _ => true
  | _, _ => false
def rEq : R2 := fun x y H Q => scal x y = true ∧ Q (.bl (decide (x = y))) H
def rNe : R2 := fun x y H Q => scal x y = true ∧ Q (.bl (!decide (x = y))) H

theorem dec_int {i j : Int} : decide (V.int i = V.int j) = (i == j) := by
  rw [Bool.eq_iff_iff]
  simp
theorem dec_bl {i j : Bool} : decide (V.bl i = V.bl j) = (i == j) := by
  rw [Bool.eq_iff_iff]
  simp
theorem dec_str {i j : Str} : decide (V.str i = V.str j) = (i == j) := by
  rw [Bool.eq_iff_iff]
  simp
theorem dec_byt {i j : Array UInt8} : decide (V.byt i = V.byt j) = (i.toList == j.toList) := by
  rw [Bool.eq_iff_iff]
  cases i
  cases j
  simp

section
variable {X : Cx} {a b c : Expr} {ta tb tc : TE} {pos : Pos}
theorem fin_bl {pins : List (Addr × Obj)} {σ : St} {H : Hp} {s : Shared} {Q : VK} {k k' : Bool} (I : Inv X pins σ H s) (q : Q (.bl k) H) (e : k = k') : EP X pins σ Q (.bool k') s := by
  subst e
  exact ⟨.bl k, H, I, rfl, q⟩
theorem op_eq : OpR X (compareOp .Eq) rEq := by
  intro pins s σ H x y v u Q I rx ry h
  obtain ⟨hs, q⟩ := h
  cases x with
  | non =>
    cases rx
    cases y with
    | non => cases ry; exact PySem.EqNone.eq_none_none (fin_bl I q (by simp))
    | bl j => cases ry; exact PySem.EqNone.eq_none_bool (fin_bl I q (by simp))
    | int j => obtain ⟨t', rfl⟩ := ry; exact PySem.EqNone.eq_none_int (fin_bl I q (by simp))
    | str j => obtain ⟨t', rfl⟩ := ry; exact PySem.EqNone.eq_none_str (fin_bl I q (by simp))
    | _ => exact absurd (show false = true from hs) Bool.false_ne_true
  | bl i =>
    cases rx
    cases y with
    | non => cases ry; exact PySem.EqNone.eq_bool_none (fin_bl I q (by simp))
    | bl j => cases ry; exact eq_bool (fin_bl I q dec_bl)
    | str j => obtain ⟨t', rfl⟩ := ry; exact PySem.EqMixed.eq_bool_str (fin_bl I q (by simp))
    | _ => exact absurd (show false = true from hs) Bool.false_ne_true
  | int i =>
    obtain ⟨t, rfl⟩ := rx
    cases y with
    | non => cases ry; exact PySem.EqNone.eq_int_none (fin_bl I q (by simp))
    | int j => obtain ⟨t', rfl⟩ := ry; exact eq_int (fin_bl I q dec_int)
    | str j => obtain ⟨t', rfl⟩ := ry; exact PySem.EqMixed.eq_int_str (fin_bl I q (by simp))
    | _ => exact absurd (show false = true from hs) Bool.false_ne_true
  | str i =>
    obtain ⟨t, rfl⟩ := rx
    cases y with
    | non => cases ry; exact PySem.EqNone.eq_str_none (fin_bl I q (by simp))
    | bl j => cases ry; exact PySem.EqMixed.eq_str_bool (fin_bl I q (by simp))
    | int j => obtain ⟨t', rfl⟩ := ry; exact PySem.EqMixed.eq_str_int (fin_bl I q (by simp))
    | str j => obtain ⟨t', rfl⟩ := ry; exact eq_str (fin_bl I q dec_str)
    | _ => exact absurd (show false = true from hs) Bool.false_ne_true
  | byt i =>
    obtain ⟨t, rfl⟩ := rx
    cases y with
    | byt j => obtain ⟨t', rfl⟩ := ry; exact PySem.W.eq_bytes (fin_bl I q dec_byt)
    | _ => exact absurd (show false = true from hs) Bool.false_ne_true
  | _ => cases y <;> exact absurd (show false = true from hs) Bool.false_ne_true
theorem op_ne : OpR X (compareOp .NotEq) rNe := by
  intro pins s σ H x y v u Q I rx ry h
  obtain ⟨hs, q⟩ := h
  cases x with
  | non =>
    cases rx
    cases y with
    | non => cases ry; exact PySem.EqNone.ne_none_none (fin_bl I q (by simp))
    | bl j => cases ry; exact PySem.EqNone.ne_none_bool (fin_bl I q (by simp))
    | int j => obtain ⟨t', rfl⟩ := ry; exact PySem.EqNone.ne_none_int (fin_bl I q (by simp))
    | str j => obtain ⟨t', rfl⟩ := ry; exact PySem.EqNone.ne_none_str (fin_bl I q (by simp))
    | _ => exact absurd (show false = true from hs) Bool.false_ne_true
  | bl i =>
    cases rx
    cases y with
    | non => cases ry; exact PySem.EqNone.ne_bool_none (fin_bl I q (by simp))
    | bl j => cases ry; exact ne_bool (fin_bl I q (congrArg not dec_bl))
    | str j => obtain ⟨t', rfl⟩ := ry; exact PySem.EqMixed.ne_bool_str (fin_bl I q (by simp))
    | _ => exact absurd (show false = true from hs) Bool.false_ne_true
  | int i =>
    obtain ⟨t, rfl⟩ := rx
    cases y with
    | non => cases ry; exact PySem.EqNone.ne_int_none (fin_bl I q (by simp))
    | int j => obtain ⟨t', rfl⟩ := ry; exact ne_int (fin_bl I q (congrArg not dec_int))
    | str j => obtain ⟨t', rfl⟩ := ry; exact PySem.EqMixed.ne_int_str (fin_bl I q (by simp))
    | _ => exact absurd (show false = true from hs) Bool.false_ne_true
  | str i =>
    obtain ⟨t, rfl⟩ := rx
    cases y with
    | non => cases ry; exact PySem.EqNone.ne_str_none (fin_bl I q (by simp))
    | bl j => cases ry; exact PySem.EqMixed.ne_str_bool (fin_bl I q (by simp))
    | int j => obtain ⟨t', rfl⟩ := ry; exact PySem.EqMixed.ne_str_int (fin_bl I q (by simp))
    | str j => obtain ⟨t', rfl⟩ := ry; exact ne_str (fin_bl I q (congrArg not dec_str))
    | _ => exact absurd (show false = true from hs) Bool.false_ne_true
  | byt i =>
    obtain ⟨t, rfl⟩ := rx
    cases y with
    | byt j => obtain ⟨t', rfl⟩ := ry; exact PySem.W.ne_bytes (fin_bl I q (congrArg not dec_byt))
    | _ => exact absurd (show false = true from hs) Bool.false_ne_true
  | _ => cases y <;> exact absurd (show false = true from hs) Bool.false_ne_true

theorem op_lt : OpR X (compareOp .Lt) (rI0 fun i j => .bl (decide (i < j))) := opB0 fun _ _ _ _ _ _ _ q => lt_int q
theorem op_gt : OpR X (compareOp .Gt) (rI0 fun i j => .bl (decide (j < i))) := opB0 fun _ _ _ _ _ _ _ q => gt_int q
theorem op_ge : OpR X (compareOp .GtE) (rI0 fun i j => .bl (decide (j ≤ i))) := opB0 fun _ _ _ _ _ _ _ q => ge_int q

theorem nomark (b : Expr) {op : CmpOp} (h : op ≠ .In := by decide) (h2 : op ≠ .NotIn := by decide) : behindInMarks op b = false := by
  have e1 : (op == CmpOp.In) = false := by cases op <;> first | rfl | exact absurd rfl h
  have e2 : (op == CmpOp.NotIn) = false := by cases op <;> first | rfl | exact absurd rfl h2
  cases b <;> simp [behindInMarks, e1, e2]
/-- a comparison as a value; hm: nomark b, or (for in, not in) by with_unfolding_all rfl -/
theorem pe_cmpR {op : CmpOp} {r : R2} (ho : OpR X (compareOp op) r) (ha : PE X a ta) (hb : PE X b tb) (hm : behindInMarks op b = false) : PE X (.Compare a [op] [b] pos) (tOp r ta tb) := by
  intro pins s σ H Q I h
  exact wpAny_Compare1 (binT ha hb I h fun v u s2 x y H2 I2 rx ry q => ho pins s2 σ H2 x y v u Q I2 rx ry q) hm
/-- a reading of a value as a test -/
def tTest (t : TE) : TT := fun σ H Q => t σ H fun x H' => ∃ k, x = .bl k ∧ Q k H'
theorem pt_cmpR {op : CmpOp} {r : R2} (ho : OpR X (compareOp op) r) (ha : PE X a ta) (hb : PE X b tb) (hm : behindInMarks op b = false) : PT X (.Compare a [op] [b] pos) (tTest (tOp r ta tb)) := by
  intro pins s σ H Q I h
  refine wpAny_isTrue_Compare1 (thn (ha pins s σ H _ I h) fun v s1 ⟨x, H1, I1, r1, q1⟩ => thn (hb pins s1 σ H1 _ I1 q1) fun u s2 ⟨y, H2, I2, r2, q2⟩ =>
    thn (ho pins s2 σ H2 x y v u _ I2 r1 r2 q2) fun c s3 ⟨z, H3, I3, r3, k, e, q3⟩ => ?_) hm
  subst e
  cases r3
  exact wpAny_truthy_bool ⟨H3, I3, q3⟩
theorem line63 : (sizeLine : Nat) < 2 ^ 63 := by rw [sizeLine_eq]; decide

theorem vals1 {x : V} {us : List Value} (r : Vals [x] us) : ∃ u, us = [u] ∧ RelV x u := by
  cases r with
  | cons r1 r2 => cases r2; exact ⟨_, rfl, r1⟩
theorem vals2 {x y : V} {us : List Value} (r : Vals [x, y] us) : ∃ u w', us = [u, w'] ∧ RelV x u ∧ RelV y w' := by
  cases r with
  | cons r1 r2 =>
    cases r2 with
    | cons r3 r4 => cases r4; exact ⟨_, _, rfl, r1, r3⟩
theorem call_max2 (hc : X.calm = true) : CallR X (.builtin "max") (fun xs H Q => ∃ i j, xs = [.int i, .int j] ∧ Q (.int (if j > i then j else i)) H) := by
  intro pins s σ H xs us Q I r h
  obtain ⟨i, j, rfl, q⟩ := h
  obtain ⟨u, w', rfl, ⟨t, rfl⟩, ⟨t', rfl⟩⟩ := vals2 r
  refine max_two_ints (I.ok.hd hc) fun h' tk k => ⟨_, H, I.kept k, ?_, q⟩
  by_cases hj : j > i
  · rw [if_pos hj, if_pos hj]; exact ⟨_, rfl⟩
  · rw [if_neg hj, if_neg hj]; exact ⟨_, rfl⟩
theorem call_min2 (hc : X.calm = true) : CallR X (.builtin "min") (fun xs H Q => ∃ i j, xs = [.int i, .int j] ∧ Q (.int (if j < i then j else i)) H) := by
  intro pins s σ H xs us Q I r h
  obtain ⟨i, j, rfl, q⟩ := h
  obtain ⟨u, w', rfl, ⟨t, rfl⟩, ⟨t', rfl⟩⟩ := vals2 r
  refine min_two_ints (I.ok.hd hc) fun h' tk k => ⟨_, H, I.kept k, ?_, q⟩
  by_cases hj : j < i
  · rw [if_pos hj, if_pos hj]; exact ⟨_, rfl⟩
  · rw [if_neg hj, if_neg hj]; exact ⟨_, rfl⟩
end
end L2

namespace L2
open PySem PySem.Spec PyProof.Rows

structure ObjM (h : Heap) (x dx C : Addr) (mA : Str → Option Value) : Prop where
  obj : h.get? x = some (PySem.W.instObj C dx)
  ns : h.Ns1 dx mA
  ne : dx ≠ x

theorem lookIn_ns {h : Heap} {dx : Addr} {mA : Str → Option Value} (n : h.Ns1 dx mA) : ∃ od, h.get? dx = some od ∧ ∀ name, PySem.W.lookIn name od = some (mA name) := by
  obtain ⟨o, es, ep, ho, hd, hk, _, hm⟩ := n
  refine ⟨o, ho, fun name => ?_⟩
  have e := hm name
  unfold nsFind findBy at e
  rw [← Array.find?_toList] at e
  unfold PySem.W.lookIn
  rw [hd]
  dsimp only
  split
  · rename_i y q
    rw [q] at e
    exact congrArg some e
  · rename_i q
    rw [q] at e
    have a : es.toList.any (·.refKey) = false := by
      rw [List.any_eq_false]
      intro y hy
      obtain ⟨z, t, hkey⟩ := hk y (Array.mem_toList_iff.mp hy)
      simp [DictEntry.refKey, hkey]
    have a' : ¬ es.toList.any (·.refKey) = true := by rw [a]; exact Bool.false_ne_true
    rw [if_neg a']
    exact congrArg some e

theorem ObjM.look {h : Heap} {x dx C : Addr} {mA : Str → Option Value} (I : ObjM h x dx C mA) : ∃ od, PySem.W.InstAt h x (PySem.W.instObj C dx) C (some od) ∧ ∀ name, PySem.W.lookIn name od = some (mA name) :=
  let ⟨od, ho, hl⟩ := lookIn_ns I.ns
  ⟨od, ⟨I.obj, rfl, rfl, ho⟩, hl⟩

section
variable {prog : Program} {w : World} {A : Around} {E : Value → Shared → Prop} {s : Shared} {K : PySem.W.Frag} {x dx C f : Addr} {mA : Str → Option Value} {name : Str} {v : Value}

theorem get_map {expr : Bool} {Q : Value → Shared → Prop} (X : K.In s.heap) (I : ObjM s.heap x dx C mA) (hg : PySem.W.plainGet K C name = true) (hh : PySem.W.hasDictIn K C = true)
    (ha : PySem.W.findIn K (.ref C) name = some none) (hv : mA name = some v) (hv' : PySem.W.handedIn v = true) (h : Q v { s with toks := s.toks + 1 }) :
    wpAny (model prog w) A (getAttr (.ref x) name expr) Q E s := by
  obtain ⟨od, J, hl⟩ := I.look
  exact PySem.W.get_value X J (PySem.W.plainGet_of hg).1 (PySem.W.findObj_own hh ha rfl (by rw [hl, hv])) hv' h

theorem get_meth {pl : Sem Bool} {Q : Value × List Value → Shared → Prop} (X : K.In s.heap) (I : ObjM s.heap x dx C mA) (hg : PySem.W.plainGet K C name = true)
    (hf : PySem.W.findIn K (.ref C) name = some (some (.ref f))) (ht : PySem.W.isFn K (.ref f) = true) (hv : mA name = none) (h : Q (.ref f, [.ref x]) s) :
    wpAny (model prog w) A (getMethod (.ref x) name pl) Q E s := by
  obtain ⟨od, J, hl⟩ := I.look
  exact PySem.W.method_fn X J (PySem.W.plainGet_of hg).1 (PySem.W.plainGet_of hg).2 hf (beq_iff_eq.mp ht) (by show (PySem.W.lookIn name od).map (·.isSome) = some false; rw [hl, hv]; rfl) h

theorem set_map {ns : List Str} {Q : Unit → Shared → Prop} (X : K.In s.heap) (I : ObjM s.heap x dx C mA)
    (hs : PySem.W.findIn K (.ref C) "__setattr__" = some (some (.builtin "object.__setattr__"))) (hp : PySem.W.plainOver K C = true) (ht : PySem.W.takerIn K C name = some none) (hh : PySem.W.hasDictIn K C = true)
    (hw : PySem.Within mA ns) (hsz : ns.length ≤ sizeLine)
    (h : ∀ h', ObjM h' x dx C (fun y => if y = name then some v else mA y) → Heap.SameBut dx s.heap h' → Q () { s with heap := h', toks := s.toks + 2 }) :
    wpAny (model prog w) A (setAttr (.ref x) name v) Q E s := by
  obtain ⟨od, J, hl⟩ := I.look
  refine PySem.W.set_plain X J hs (PySem.W.osa_open (s := { s with toks := s.toks + 1 }) (r := none) X J hp ht fun b => ?_)
  obtain ⟨cd, hc, hd'⟩ := PySem.W.any_some hh
  have hx : s.heap.get? x = some ⟨.ref C, some dx, .plain, #[]⟩ := I.obj
  refine wpAny_bind (wpAny_pure (wpAny_bind (wpAny_bind (wpAny_loadPart hx (wpAny_bind (PySem.W.Looks.here (s := { s with toks := s.toks + 1 }) (PySem.W.looks_clsIn X hc) ?_))))))
  rw [hd']
  refine wpAny_pure (a := some dx) (wpAny_bind (wpAny_pure (wpAny_bind ?_)))
  refine wpAny_nsSet1 (s := { s with toks := s.toks + 1 }) I.ns fun h' hn2 hs2 => ?_
  obtain ⟨oD, esD, epD, hoD, hdD, hcD⟩ := hn2.count (PySem.Within.cons name v hw)
  refine wpAny_bind (wpAny_lookBehind hoD (by rw [hdD]; exact pastItsLine_dict (Nat.le_trans hcD (by rw [List.length_cons]; omega))) ?_)
  exact wpAny_pure (h _ ⟨(hs2.2 _ (Ne.symm I.ne)).trans I.obj, hn2, I.ne⟩ hs2)

/-- C(..): the dict at the heap's end, the instance behind it; then its __init__ -/
theorem make_map {R : Result → Shared → Prop} {vs : List Value} {kw : List (Str × Value)} (X : K.In s.heap) (hm : PySem.W.makesIn K C = true)
    (hi : PySem.W.findIn K (.ref C) "__init__" = some (some (.ref f))) (hf : PySem.W.typeIn K (.ref f) = some (.type "function"))
    (h : codeAny (model prog w) (A.under (.builtin "type.__call__" ⟨.ref C :: vs, kw⟩)) (.call (.ref f) ⟨.ref (s.heap.objs.size + 1) :: vs, kw⟩) (PySem.W.InitBack (s.heap.objs.size + 1) R)
      { s with heap := (s.heap.push PySem.W.emptyDict).push (PySem.W.instObj C s.heap.objs.size) }) :
    codeAny (model prog w) A (.call (.ref C) ⟨vs, kw⟩) R s := by
  obtain ⟨hh, g, d, t, os⟩ := s
  exact PySem.W.make_core (PySem.W.makes_of X hm) (PySem.W.looks_findIn X hi) (fun self => PySem.W.bind_fn X self hf) (.inl rfl) h
end

def putF (f : Str) (v : V) : List (Str × V) → List (Str × V)
  | [] => [(f, v)]
  | (g, x) :: r => if g = f then (g, v) :: r else (g, x) :: putF f v r
theorem lookup_putF (f g : Str) (v : V) : ∀ fs : List (Str × V), (putF f v fs).lookup g = if g = f then some v else fs.lookup g
  | [] => by
    show List.lookup g [(f, v)] = _
    by_cases h : g = f
    · have hb : (g == f) = true := beq_iff_eq.mpr h
      simp only [List.lookup, hb, if_pos h]
    · have hb : (g == f) = false := beq_eq_false_iff_ne.mpr h
      simp only [List.lookup, hb, if_neg h]
  | (k, x) :: r => by
    have ih := lookup_putF f g v r
    rw [show putF f v ((k, x) :: r) = (if k = f then (k, v) :: r else (k, x) :: putF f v r) from rfl]
    by_cases hk : k = f
    · rw [if_pos hk]
      by_cases h : g = k
      · have hb : (g == k) = true := beq_iff_eq.mpr h
        simp only [List.lookup, hb, if_pos (h.trans hk)]
      · have hb : (g == k) = false := beq_eq_false_iff_ne.mpr h
        simp only [List.lookup, hb, if_neg (fun e : g = f => h (e.trans hk.symm))]
    · rw [if_neg hk]
      by_cases h : g = k
      · have hb : (g == k) = true := beq_iff_eq.mpr h
        simp only [List.lookup, hb, if_neg (fun e : g = f => hk (h.symm.trans e))]
      · have hb : (g == k) = false := beq_eq_false_iff_ne.mpr h
        simp only [List.lookup, hb]
        exact ih
theorem keys_putF (f : Str) (v : V) : ∀ fs : List (Str × V), f ∈ (putF f v fs).map (·.1) ∧ ∀ g, g ∈ fs.map (·.1) → g ∈ (putF f v fs).map (·.1)
  | [] => ⟨by simp [putF], fun g h => by simp at h⟩
  | (k, x) :: r => by
    obtain ⟨i1, i2⟩ := keys_putF f v r
    rw [show putF f v ((k, x) :: r) = (if k = f then (k, v) :: r else (k, x) :: putF f v r) from rfl]
    by_cases hk : k = f
    · rw [if_pos hk]
      subst hk
      exact ⟨by simp, fun g h => by simpa using h⟩
    · rw [if_neg hk]
      refine ⟨?_, fun g h => ?_⟩
      · rw [List.map_cons]
        exact List.mem_cons_of_mem _ i1
      · rw [List.map_cons] at h ⊢
        rcases List.mem_cons.mp h with e | e
        · exact List.mem_cons.mpr (.inl e)
        · exact List.mem_cons_of_mem _ (i2 g e)
theorem length_putF (f : Str) (v : V) : ∀ fs : List (Str × V), (putF f v fs).length ≤ fs.length + 1
  | [] => by simp [putF]
  | (k, x) :: r => by
    have ih := length_putF f v r
    rw [show putF f v ((k, x) :: r) = (if k = f then (k, v) :: r else (k, x) :: putF f v r) from rfl]
    by_cases hk : k = f
    · rw [if_pos hk, List.length_cons, List.length_cons]; omega
    · rw [if_neg hk, List.length_cons, List.length_cons]; omega

theorem RelO.some_of {v : V} {o : Option Value} (r : RelO (some v) o) : ∃ u, o = some u ∧ RelV v u := by
  cases o with
  | none => exact (show False from r).elim
  | some u => exact ⟨u, rfl, r⟩
theorem RelO.none_of {o : Option Value} (r : RelO none o) : o = none := by
  cases o with
  | none => rfl
  | some u => exact (show False from r).elim
theorem handed_of {v : V} {u : Value} (r : RelV v u) : PySem.W.handedIn u = true := by
  cases v with
  | non => cases (show u = Value.none from r); rfl
  | bl b => cases (show u = Value.bool b from r); rfl
  | int i => obtain ⟨t, e⟩ := (show ∃ t, u = Value.int i t from r); cases e; rfl
  | str x => obtain ⟨t, e⟩ := (show ∃ t, u = Value.str x t from r); cases e; rfl
  | byt b => obtain ⟨t, e⟩ := (show ∃ t, u = Value.bytes b t from r); cases e; rfl
  | flt b => obtain ⟨t, e⟩ := (show ∃ t, u = Value.float b t from r); cases e; rfl
  | ref a => cases (show u = Value.ref a from r); rfl
  | ty n => cases (show u = Value.type n from r); rfl

section
variable {P : Program} {w : World} {H H' : Hp} {h h' : Heap} {a C dx : Addr} {fs fs' : List (Str × V)}
theorem ins_get (hok : HOk P w H h) (e : H a = some (.ins C dx fs)) : ∃ mA, ObjM h a dx C mA ∧ (∀ f, RelO (fs.lookup f) (mA f)) ∧ PySem.Within mA (fs.map (·.1)) ∧ fs.length ≤ 1000 ∧ H dx = some (.own a) := by
  obtain ⟨d, z, ne, ob, mA, n, r, q⟩ := (show ObjOk P w H h a (.ins C dx fs) from hok a _ e)
  exact ⟨mA, ⟨ob, n, ne⟩, r, q, z, d⟩
end

structure Cls (K : PySem.W.Frag) (C : Addr) : Prop where
  pg : PySem.W.plainGet K C Str.empty = true
  hd : PySem.W.hasDictIn K C = true
  po : PySem.W.plainOver K C = true
  sa : PySem.W.findIn K (.ref C) "__setattr__" = some (some (.builtin "object.__setattr__"))
theorem Cls.get {K : PySem.W.Frag} {C : Addr} (c : Cls K C) (f : Str) : PySem.W.plainGet K C f = true := c.pg
/-- no class of it has the name -/
def NoAttr (K : PySem.W.Frag) (C : Addr) (f : Str) : Prop := PySem.W.findIn K (.ref C) f = some none
theorem NoAttr.taker {K : PySem.W.Frag} {C : Addr} {f : Str} (n : NoAttr K C f) : PySem.W.takerIn K C f = some none := by
  unfold PySem.W.takerIn
  rw [show PySem.W.findIn K (.ref C) f = some none from n]
  rfl
/-- a method: a plain def of the class or of one above it -/
structure Meth (K : PySem.W.Frag) (C : Addr) (m : Str) (f : Addr) : Prop where
  at_ : PySem.W.findIn K (.ref C) m = some (some (.ref f))
  fn : PySem.W.isFn K (.ref f) = true
  kp : PySem.W.keepIn K (.ref f) = true

section
variable {X : Cx} {pins : List (Addr × Obj)} {σ : St} {H : Hp} {s : Shared} {a C dx : Addr} {fs : List (Str × V)} {f : Str} {v : V} {A : Around} {E : Value → Shared → Prop}

theorem getattr_ok {b : Bool} {Q : Value → Shared → Prop} (I : Inv X pins σ H s) (e : H a = some (.ins C dx fs)) (c : Cls X.K C) (n : NoAttr X.K C f) (l : fs.lookup f = some v)
    (h : ∀ u s', Inv X pins σ H s' → RelV v u → Q u s') : wpAny (model X.prog X.w) A (getAttr (.ref a) f b) Q E s := by
  obtain ⟨mA, O, r, _, _, _⟩ := ins_get I.hok e
  obtain ⟨u, hu, ru⟩ := RelO.some_of (v := v) (o := mA f) (by rw [← l]; exact r f)
  exact get_map I.kIn O (c.get f) c.hd n hu (handed_of ru) (h u _ (I.tok _) ru)

theorem getmeth_ok {m : Str} {g : Addr} {pl : Sem Bool} {Q : Value × List Value → Shared → Prop} (I : Inv X pins σ H s) (e : H a = some (.ins C dx fs)) (c : Cls X.K C) (k : Meth X.K C m g) (l : fs.lookup m = none)
    (h : Q (.ref g, [.ref a]) s) : wpAny (model X.prog X.w) A (getMethod (.ref a) m pl) Q E s := by
  obtain ⟨mA, O, r, _, _, _⟩ := ins_get I.hok e
  have hn : mA m = none := RelO.none_of (by rw [← l]; exact r m)
  exact get_meth I.kIn O (c.get m) k.at_ k.fn hn h

theorem setattr_ok {y : V} {u : Value} {Q : Unit → Shared → Prop} (I : Inv X pins σ H s) (e : H a = some (.ins C dx fs)) (c : Cls X.K C) (n : NoAttr X.K C f) (hl : fs.length < 1000) (ry : RelV y u)
    (h : ∀ s', Inv X pins σ (upd H a (.ins C dx (putF f y fs))) s' → Q () s') : wpAny (model X.prog X.w) A (setAttr (.ref a) f u) Q E s := by
  obtain ⟨mA, O, r, wi, _, ho⟩ := ins_get I.hok e
  have hz : (fs.map (·.1)).length ≤ sizeLine := by rw [List.length_map, sizeLine_eq]; omega
  refine set_map I.kIn O c.sa c.po n.taker c.hd wi hz fun h' O' sb => h _ ?_
  have hd : ∃ o, h'.get? dx = some o := let ⟨o, _, _, e', _⟩ := O'.ns; ⟨o, e'⟩
  refine I.write (x := a) (e := dx) (by rw [e]; exact True.intro) (.inr ho) (fun b q hb z => (sb.2 b hb).trans z) hd ?_
  refine ⟨by rw [upd_ne O.ne]; exact ho, ?_, O.ne, O'.obj, _, O'.ns, fun g => ?_, fun g hg => ?_⟩
  · have := length_putF f y fs; omega
  · show RelO ((putF f y fs).lookup g) (if g = f then some u else mA g)
    rw [lookup_putF]
    by_cases q : g = f
    · rw [if_pos q, if_pos q]; exact ry
    · rw [if_neg q, if_neg q]; exact r g
  · by_cases q : g = f
    · rw [q]; exact (keys_putF f y fs).1
    · refine (keys_putF f y fs).2 g (wi g fun z => hg ?_)
      show (if g = f then some u else mA g) = none
      rw [if_neg q]; exact z

/-- a new instance, tracked, without attributes -/
theorem Inv.made (I : Inv X pins σ H s) : Inv X pins σ (upd (upd H s.heap.objs.size (.own (s.heap.objs.size + 1))) (s.heap.objs.size + 1) (.ins C s.heap.objs.size []))
    { s with heap := (s.heap.push PySem.W.emptyDict).push (PySem.W.instObj C s.heap.objs.size) } := by
  have e1 : (s.heap.push PySem.W.emptyDict).get? s.heap.objs.size = some PySem.W.emptyDict := Heap.get?_push_size s.heap rfl
  have e2 : ((s.heap.push PySem.W.emptyDict).push (PySem.W.instObj C s.heap.objs.size)).get? (s.heap.objs.size + 1) = some (PySem.W.instObj C s.heap.objs.size) := by
    have := Heap.get?_push_size (s.heap.push PySem.W.emptyDict) (o := PySem.W.instObj C s.heap.objs.size) rfl
    rwa [Heap.size_push] at this
  have e3 : (s.heap.push PySem.W.emptyDict).Ns s.heap.objs.size (fun _ => none) := ⟨PySem.W.emptyDict, #[], _, e1, rfl, (fun e he => absurd he (by simp)), fun _ => rfl⟩
  have I1 := I.laid (a := s.heap.objs.size) (o := .own (s.heap.objs.size + 1)) (h' := s.heap.push PySem.W.emptyDict) (t' := s.toks) (fun b u q => Heap.get?_push_of_some _ q) (Nat.le_refl _) ⟨_, e1⟩
  refine I1.laid (a := s.heap.objs.size + 1) (o := .ins C s.heap.objs.size []) (t' := s.toks) (fun b u q => Heap.get?_push_of_some _ q) (Nat.le_of_eq (Heap.size_push _ _)) ?_
  have ne : s.heap.objs.size ≠ s.heap.objs.size + 1 := Nat.ne_of_lt (Nat.lt_succ_self _)
  refine ⟨by rw [upd_ne ne, upd_same], Nat.zero_le _, ne, e2, fun _ => none, (Heap.Ns1.of_empty e3).at fun o q => Heap.get?_push_of_some _ q, fun _ => True.intro, fun y hy => absurd rfl hy⟩

/-- e.f where nothing but the object is asked: through attributeBase (super) and the last hold -/
theorem attr_of {prog : Program} {w : World} {env : Env} {e : Expr} {f : Str} {pos : Pos} {s : Shared} {Q : Value → Shared → Prop} (hb : attributeBase e f env (eval e env) = eval e env)
    (h : wpAny (model prog w) A (eval e env) (fun o s₁ => wpAny (model prog w) A (getAttr o f true) Q E s₁) E s) : wpAny (model prog w) A (eval (.Attribute e f pos) env) Q E s :=
  Attribute_any_ h (by rw [arm_eval_Attribute, hb])
end

/-- e.f, an attribute of the instance -/
def tFld (K : PySem.W.Frag) (ta : TE) (f : Str) : TE := fun σ H Q => ta σ H fun x H1 => ∃ a C dx fs v, x = .ref a ∧ H1 a = some (.ins C dx fs) ∧ Cls K C ∧ NoAttr K C f ∧ fs.lookup f = some v ∧ Q v H1
/-- e.f = value -/
def sFld (K : PySem.W.Frag) (ta tv : TE) (f : Str) : TS := fun D σ H => tv σ H fun y H1 => ta σ H1 fun x H2 => ∃ a C dx fs, x = .ref a ∧ H2 a = some (.ins C dx fs) ∧ Cls K C ∧ NoAttr K C f ∧ fs.length < 1000 ∧
  D.nx σ (upd H2 a (.ins C dx (putF f y fs)))
/-- an augmented operator on two values -/
def InOp (X : Cx) (op : Operator) (rd : V → V → Hp → VK → Prop) : Prop :=
  ∀ (pins : List (Addr × Obj)) (s : Shared) (σ : St) (H : Hp) (x y : V) (u v : Value) (Q : VK), Inv X pins σ H s → RelV x u → RelV y v → rd x y H Q → wpAny (model X.prog X.w) X.A (inplaceOp op u v) (EP X pins σ Q) X.xe s
/-- e.f op= value -/
def sFldAug (K : PySem.W.Frag) (ta tv : TE) (rd : V → V → Hp → VK → Prop) (f : Str) : TS := fun D σ H => ta σ H fun x H1 => ∃ a C dx fs v, x = .ref a ∧ H1 a = some (.ins C dx fs) ∧ Cls K C ∧ NoAttr K C f ∧ fs.lookup f = some v ∧
  tv σ H1 fun y H2 => rd v y H2 fun z H3 => ∃ dx' fs', H3 a = some (.ins C dx' fs') ∧ fs'.length < 1000 ∧ D.nx σ (upd H3 a (.ins C dx' (putF f z fs')))

section
variable {X : Cx} {o e value : Expr} {f : Str} {pos pos' tpos : Pos} {ta tv : TE}
theorem pe_fld (he : PE X e ta) (hb : attributeBase e f X.env (eval e X.env) = eval e X.env) : PE X (.Attribute e f pos) (tFld X.K ta f) := by
  intro pins s σ H Q I h
  refine attr_of hb (thn (he pins s σ H _ I h) fun u s1 ⟨x, H1, I1, rx, a, C, dx, fs, v, ex, ea, c, n, l, q⟩ => ?_)
  subst ex
  obtain rfl : u = Value.ref a := rx
  exact getattr_ok I1 ea c n l fun u' s2 I2 ru => ⟨v, H1, I2, ru, q⟩
theorem ps_fld (ha : PE X o ta) (hv : PE X value tv) (hs : swapsWith value (some (.Attribute o f pos')) pos.line X.env = pure false) : PS X (.Assign [.Attribute o f pos'] value pos) (sFld X.K ta tv f) := by
  intro pins s σ H D I h
  refine plainObj_wpAny_Assign_Attribute (thn (hv pins s σ H _ I h) fun u s1 ⟨y, H1, I1, ry, q⟩ => thn (ha pins s1 σ H1 _ I1 q) fun ov s2 ⟨x, H2, I2, rx, a, C, dx, fs, ex, ea, c, n, l, q2⟩ => ?_) hs
  subst ex
  obtain rfl : ov = Value.ref a := rx
  exact setattr_ok I2 ea c n l ry fun s3 I3 => ⟨σ, _, I3, q2⟩
theorem ps_fldaug {op : Operator} {rd : V → V → Hp → VK → Prop} (ha : PE X o ta) (hv : PE X value tv) (hop : InOp X op rd) : PS X (.AugAssign (.Attribute o f tpos) op value pos) (sFldAug X.K ta tv rd f) := by
  intro pins s σ H D I h
  refine wpAny_AugAssign_AttributeAny (thn (ha pins s σ H _ I h) fun ov s1 ⟨x, H1, I1, rx, a, C, dx, fs, v, ex, ea, c, n, l, q⟩ => ?_)
  subst ex
  obtain rfl : ov = Value.ref a := rx
  refine getattr_ok I1 ea c n l fun u s2 I2 ru => thn (hv pins s2 σ H1 _ I2 q) fun w3 s3 ⟨y, H2, I3, ry, q3⟩ => thn (hop pins s3 σ H2 v y u w3 _ I3 ru ry q3) fun w4 s4 ⟨z, H3, I4, rz, dx', fs', ea', l', q4⟩ => ?_
  exact setattr_ok I4 ea' c n l' rz fun s5 I5 => ⟨σ, _, I5, q4⟩
def rAdd : V → V → Hp → VK → Prop := fun x y H Q => ∃ i j, x = .int i ∧ y = .int j ∧ Q (.int (i + j)) H
theorem in_add : InOp X .Add rAdd := by
  rintro pins s σ H x y u v Q I rx ry ⟨i, j, rfl, rfl, q⟩
  obtain ⟨t, rfl⟩ := (show ∃ t, u = Value.int i t from rx)
  obtain ⟨t', rfl⟩ := (show ∃ t', v = Value.int j t' from ry)
  exact PyProof.Rows.iadd_int ⟨.int (i + j), H, I.tok _, ⟨_, rfl⟩, q⟩

/-- what is between an instance and its method: the tree of a method call -/
theorem methcall_of {pl : Sem Bool} {m : Str} {apos : Pos} {args : List Expr} {pins : List (Addr × Obj)} {s : Shared} {σ : St} {H : Hp} {Q : Value → Shared → Prop} {te : TE} (he : PE X e te) (I : Inv X pins σ H s)
    (h : te σ H fun x H1 => ∃ a C dx fs g, x = .ref a ∧ H1 a = some (.ins C dx fs) ∧ Cls X.K C ∧ Meth X.K C m g ∧ fs.lookup m = none ∧
      ∀ s1, Inv X pins σ H1 s1 → wpAny (model X.prog X.w) X.A (callWith pos (.ref g) [.ref a] (backTo pos (starEach args X.env)) (backToKw pos (keywordEach [] X.env))) Q X.xe s1)
    (ht : eval (.Call (.Attribute e m apos) args [] pos) X.env = (do
      let ov ← eval e X.env
      standAt apos.atName
      let (f, first) ← holding [ov] (getMethod ov m pl)
      callWith pos f first (backTo pos (starEach args X.env)) (backToKw pos (keywordEach [] X.env)))) :
    wpAny (model X.prog X.w) X.A (eval (.Call (.Attribute e m apos) args [] pos) X.env) Q X.xe s := by
  refine PySem.W.methodCall_KW (pl := pl) (thn (he pins s σ H _ I h) fun u s1 ⟨x, H1, I1, rx, a, C, dx, fs, g, ex, ea, c, k, l, q⟩ => ?_) ht
  subst ex
  obtain rfl : u = Value.ref a := rx
  exact getmeth_ok I1 ea c k l (q s1 I1)
end

section
variable {X : Cx} {pins : List (Addr × Obj)} {σ : St} {H : Hp} {s : Shared} {A : Around} {E : Value → Shared → Prop} {Q : Value → Shared → Prop} {c : Value} {b : Bool}
end
end L2

namespace L2
open PySem PySem.Spec PyProof.Rows

structure Room (k : Nat) (A : Around) : Prop where
  hd : A.handled = none
  dp : A.depth + 3 * k + 5 < recursionLimit
  un : A.units + 16 * k + 200 < cLine
theorem Room.mono {j k : Nat} {A : Around} (r : Room k A) (h : j ≤ k) : Room j A := ⟨r.hd, by have := r.dp; omega, by have := r.un; omega⟩
theorem Room.deeper {k : Nat} {A : Around} (r : Room (k + 1) A) (env : Env) : Room k (A.deeper env) :=
  ⟨r.hd, by have := r.dp; show A.depth + 1 + 3 * k + 5 < _; omega, by have := r.un; show A.units + 3 + 16 * k + 200 < _; omega⟩
theorem make_depth {A : Around} {C : Addr} {us : List Value} {kw : List (Str × Value)} : (A.under (.builtin "type.__call__" ⟨.ref C :: us, kw⟩)).depth = A.depth + 1 := by
  first | rfl | simp [Around.under, Code.weight, Code.isCreation, Code.isGuard, Code.isCaller, Code.frames, Code.isFrame, guardIds]
theorem make_units {A : Around} {C : Addr} {us : List Value} {kw : List (Str × Value)} : (A.under (.builtin "type.__call__" ⟨.ref C :: us, kw⟩)).units = A.units + 1 := by
  first | rfl | simp [Around.under, Code.cUnits, Code.frames, Code.isFrame]
theorem Room.make {k : Nat} {A : Around} (r : Room (k + 1) A) (C : Addr) (us : List Value) (kw : List (Str × Value)) : Room k (A.under (.builtin "type.__call__" ⟨.ref C :: us, kw⟩)) :=
  ⟨r.hd, by have := r.dp; rw [make_depth]; omega, by have := r.un; rw [make_units]; omega⟩
theorem Room.depth {k : Nat} {A : Around} (r : Room k A) : A.depth < recursionLimit := by have := r.dp; omega
theorem Room.units {k : Nat} {A : Around} (r : Room k A) : A.units + 64 < cLine := by have := r.un; omega

def tNil : TA := fun _ H Q => Q [] H
def tCons (ta : TE) (tr : TA) : TA := fun σ H Q => ta σ H fun x H1 => tr σ H1 fun xs H2 => Q (x :: xs) H2
section
variable {X : Cx} {e : Expr} {es : List Expr} {te : TE} {t : TA} {pos : Pos}
theorem pa_nil : PA X [] tNil := fun _ _ _ _ H Q I h => Calls.spliced_nil ⟨[], H, I, .nil, h⟩
theorem pa_cons (ha : PE X e te) (hr : PA X es t) (hs : starEach (e :: es) X.env = (false, eval e X.env) :: starEach es X.env := by rfl) : PA X (e :: es) (tCons te t) := by
  intro pos pins s σ H Q I h
  rw [hs]
  show wpAny _ _ (spliced ((false, eval e X.env) :: backTo pos (starEach es X.env))) _ _ s
  refine Calls.spliced_cons (thn (ha pins s σ H _ I h) fun u s1 ⟨x, H1, I1, r1, q1⟩ => ?_)
  exact thn (hr pos pins s1 σ H1 _ I1 q1) fun us s2 ⟨xs, H2, I2, r2, q2⟩ => ⟨x :: xs, H2, I2, .cons r1 r2, q2⟩

/-- a tuple, a list of written items -/
def tTup (t : TA) : TE := fun σ H Q => t σ H fun xs H1 => xs.length ≤ sizeLine ∧ ∀ p, H1 p = none → Q (.ref p) (upd H1 p (.tup xs))
def tLst (t : TA) : TE := fun σ H Q => t σ H fun xs H1 => xs.length ≤ sizeLine ∧ ∀ p, H1 p = none → Q (.ref p) (upd H1 p (.lst xs))
theorem pe_tup {x1} (h : PA X es t) : PE X (.Tuple es x1 pos) (tTup t) := by
  intro pins s σ H Q I hq
  refine wpAny_Tuple_spliced (thn (h pos pins s σ H _ I hq) fun us s1 ⟨xs, H1, I1, r, z, q⟩ => ⟨by rw [← r.length]; exact z, ?_⟩)
  have hf : H1 s1.heap.objs.size = none := I1.hok.fresh (Nat.le_refl _)
  refine ⟨.ref s1.heap.objs.size, upd H1 s1.heap.objs.size (.tup xs), I1.laid (t' := s1.toks) (fun b u e => Heap.get?_push_of_some _ e) (Nat.le_refl _) ?_, rfl, q _ hf⟩
  exact ⟨z, us, r, ⟨_, Heap.get?_push_size _ rfl, rfl, _, rfl⟩⟩
theorem pe_lst (h : PA X es t) : PE X (.List es pos) (tLst t) := by
  intro pins s σ H Q I hq
  refine wpAny_List_spliced (thn (h pos pins s σ H _ I hq) fun us s1 ⟨xs, H1, I1, r, z, q⟩ => ⟨by rw [← r.length]; exact z, ?_⟩)
  have hf : H1 s1.heap.objs.size = none := I1.hok.fresh (Nat.le_refl _)
  refine ⟨.ref s1.heap.objs.size, upd H1 s1.heap.objs.size (.lst xs), I1.laid (t' := s1.toks) (fun b u e => Heap.get?_push_of_some _ e) (Nat.le_refl _) ?_, rfl, q _ hf⟩
  exact ⟨z, us, 0, r, Heap.get?_push_size _ rfl⟩
end

/-- a def's promise: the bound arguments in the parameters' order, the heap, the wanted end, the wanted exception -/
abbrev Sp := List V → Hp → VK → XK → Prop
/-- how an exception lies behind a call (file 08 gives it): the callers' frames, abstract heap and state ahead of the call, the wish, the exception, the state -/
abbrev CXT := List Env → Hp → Shared → XK → Value → Shared → Prop

/-- the state at a call -/
structure Env0 (P : Program) (w : World) (K : PySem.W.Frag) (mg : Str → Option Value) (base : Heap) (A : Around) (outer : List Env) (s : Shared) (H : Hp) : Prop where
  frames : A.frames = some outer
  mod : Mod K mg base
  bs : ∀ b o, base.get? b = some o → s.heap.get? b = some o ∧ H b = none
  bsz : base.objs.size ≤ s.heap.objs.size
  funs : s.heap.FunFrames base outer
  frf : ∀ b ∈ frs outer, H b = none
  hok : HOk P w H s.heap
  bare : AllBare s.gens
/-- a call's end -/
def CE (outer : List Env) (P : Program) (w : World) (H : Hp) (s : Shared) (Q : VK) (u : Value) (s' : Shared) : Prop :=
  ∃ v H', s'.os = s.os ∧ AllBare s'.gens ∧ Un (frs outer) [] H H' s.heap s'.heap ∧ HOk P w H' s'.heap ∧ RelV v u ∧ Q v H'
def CR (CX : CXT) (outer : List Env) (P : Program) (w : World) (H : Hp) (s : Shared) (Q : VK) (E : XK) (r : Result) (s' : Shared) : Prop :=
  match r with
  | .ok (.ret u) => CE outer P w H s Q u s'
  | .ok _ => False
  | .error e => CX outer H s E e s'
structure FnOk (P : Program) (w : World) (K : PySem.W.Frag) (mg : Str → Option Value) (base : Heap) (CX : CXT) (k : Nat) (f : Addr) (fd : FuncData) (ps : List Str) (sp : Sp) : Prop where
  len : ∀ vs H Q E, sp vs H Q E → vs.length = ps.length
  run : ∀ (A : Around) (outer : List Env) (s : Shared) (H : Hp) (args : Args) (us : List Value) (vs : List V) (Q : VK) (E : XK), Room k A → Env0 P w K mg base A outer s H → BindsTo s fd args (ps.zip us) → Vals vs us → sp vs H Q E →
    codeAny (model P w) A (.call (.ref f) args) (CR CX outer P w H s Q E) s

theorem Env0.make {P : Program} {w : World} {K : PySem.W.Frag} {mg : Str → Option Value} {base : Heap} {A : Around} {outer : List Env} {s : Shared} {H : Hp} (e : Env0 P w K mg base A outer s H) (C : Addr) (us : List Value) (kw : List (Str × Value)) :
    Env0 P w K mg base (A.under (.builtin "type.__call__" ⟨.ref C :: us, kw⟩)) outer s H := ⟨by first | exact e.frames | (simpa [Around.under, Code.envs, Code.isFrame, pushEnvs] using e.frames), e.mod, e.bs, e.bsz, e.funs, e.frf, e.hok, e.bare⟩

section
variable {X : Cx} {pins : List (Addr × Obj)} {σ : St} {H : Hp} {s s' : Shared}
/-- from a body: what a callee wants -/
theorem Inv.env0 (I : Inv X pins σ H s) : Env0 X.prog X.w X.K X.mg X.base X.A X.stack s H :=
  ⟨I.ok.frames, I.ok.mod, I.bs, Nat.le_trans I.ok.bsz I.sz, I.stack, I.stkFree, I.hok, I.bare⟩
/-- behind a call -/
theorem Inv.after {Q : VK} {u : Value} (I : Inv X pins σ H s) (h : CE X.stack X.prog X.w H s Q u s') : EP X pins σ Q u s' := by
  obtain ⟨v, H', os, bare, un, hok, r, q⟩ := h
  obtain ⟨hh, g, d, t, os'⟩ := s'
  obtain rfl : os' = s.os := os
  exact ⟨v, H', I.call (h' := hh) (g' := g) (d' := d) (t' := t) (ch := []) un hok bare (fun b z => absurd z (by simp)), r, q⟩
end

/-- f(..): the written arguments, then the defaults dvs; E: what is wanted of an exception -/
def tCall (sp : Sp) (dvs : List V) (E : XK) (t : TA) : TE := fun σ H Q => t σ H fun vs H1 => sp (vs ++ dvs) H1 Q E
/-- o.m(..) of an instance of the class at C -/
def tMeth (C : Addr) (m : Str) (sp : Sp) (dvs : List V) (E : XK) (ta : TE) (t : TA) : TE := fun σ H Q => ta σ H fun x H1 => ∃ a dx fs, x = .ref a ∧ H1 a = some (.ins C dx fs) ∧ fs.lookup m = none ∧
  t σ H1 fun vs H2 => sp (x :: (vs ++ dvs)) H2 Q E
/-- C(..): a new instance and its dict, then __init__ -/
def tMake (C : Addr) (sp : Sp) (dvs : List V) (E : XK) (t : TA) : TE := fun σ H Q => t σ H fun vs H1 => ∀ x dx, H1 x = none → H1 dx = none → dx ≠ x →
  sp (.ref x :: (vs ++ dvs)) (upd (upd H1 dx (.own x)) x (.ins C dx [])) (fun v H2 => v = .non ∧ Q (.ref x) H2) E

/-- how the parameters are bound: us the positional arguments, kw the keywords' values by name, ds the defaults that fill up -/
def Binds (K : PySem.W.Frag) (fd : FuncData) (ps : List Str) (ds : List Value) : Prop :=
  ∀ (s : Shared) (us : List Value), K.In s.heap → (us ++ ds).length = ps.length → BindsTo s fd ⟨us, []⟩ (ps.zip (us ++ ds))
/-- every parameter is given -/
theorem Binds.all {K : PySem.W.Frag} {fd : FuncData} {ps : List Str} (h : ∀ us : List Value, us.length = ps.length → bindArgs fd ⟨us, []⟩ = pure (ps.zip us)) : Binds K fd ps [] := fun s us _ hl => by
  rw [List.append_nil] at hl ⊢
  exact .of_eq (h us hl)

/-- an exception of a callee reaches what this body wants of exceptions -/
def Passes (CX : CXT) (X : Cx) (E : XK) : Prop := ∀ (pins : List (Addr × Obj)) (σ : St) (H : Hp) (s : Shared) (e : Value) (s' : Shared), Inv X pins σ H s → CX X.stack H s E e s' → X.xe e s'

section
variable {X : Cx} {CX : CXT} {k : Nat} {f C : Addr} {fd : FuncData} {ps : List Str} {sp : Sp} {dvs : List V} {ds : List Value} {E : XK} {x m : Str} {p pos apos : Pos} {e o : Expr} {es : List Expr} {ta : TE} {t : TA}

/-- the callee runs -/
theorem run_fn {pins : List (Addr × Obj)} {σ : St} {H : Hp} {s : Shared} {Q : VK} {us : List Value} {vs : List V} (F : FnOk X.prog X.w X.K X.mg X.base CX k f fd ps sp) (hr : Room k X.A) (hb : Binds X.K fd ps ds) (hd : Vals dvs ds) (hx : Passes CX X E)
    (I : Inv X pins σ H s) (r : Vals vs us) (h : sp (vs ++ dvs) H Q E) : wpAny (model X.prog X.w) X.A (call (.ref f) us) (EP X pins σ Q) X.xe s := by
  have r2 : Vals (vs ++ dvs) (us ++ ds) := r.append hd
  have hl : (us ++ ds).length = ps.length := by rw [← r2.length]; exact F.len _ _ _ _ h
  refine wpAny_call (codeAny_mono (F.run X.A X.stack s H ⟨us, []⟩ (us ++ ds) (vs ++ dvs) Q E hr I.env0 (hb s us I.kIn hl) r2 h) fun r s' hq => ?_)
  cases r with
  | error e => exact hx pins σ H s e s' I hq
  | ok fl =>
    cases fl with
    | ret u => exact I.after hq
    | next => exact False.elim hq
    | brk => exact False.elim hq
    | cont => exact False.elim hq

theorem pe_call (F : FnOk X.prog X.w X.K X.mg X.base CX k f fd ps sp) (hr : Room k X.A) (hg : Gl X x) (hm : X.mg x = some (.ref f)) (hk : PySem.W.keepIn X.K (.ref f) = true) (hb : Binds X.K fd ps ds) (hd : Vals dvs ds) (hx : Passes CX X E)
    (ha : PA X (e :: es) t) (hdb : (x == ("__debug__" : Str)) = false := by decide) (he : starEach (e :: es) X.env = (false, eval e X.env) :: starEach es X.env := by rfl) (hpl : (backTo pos (starEach es X.env)).any (·.1) = false := by rfl) :
    PE X (.Call (.Name x p) (e :: es) [] pos) (tCall sp dvs E t) := by
  intro pins s σ H Q I h
  refine wpAny_Call_Name_kw (ld_glob I hg hm ?_ hdb)
  refine PySem.W.callWith_K (h₀ := X.base) I.ok.mod.kin hk (thn (ha pos pins s σ H _ I h) fun us s1 ⟨vs, H1, I1, r, q⟩ => ⟨I1.kIn, ?_⟩) he hpl
  exact run_fn F hr hb hd hx I1 r q

/-- o.m(e, ..) -/
theorem pe_meth {pl : Sem Bool} (he : PE X o ta) (c : Cls X.K C) (hm : Meth X.K C m f) (F : FnOk X.prog X.w X.K X.mg X.base CX k f fd ps sp) (hr : Room k X.A) (hb : Binds X.K fd ps ds) (hd : Vals dvs ds) (hx : Passes CX X E) (ha : PA X (e :: es) t)
    (hst : starEach (e :: es) X.env = (false, eval e X.env) :: starEach es X.env := by rfl) (hpl : (backTo pos (starEach es X.env)).any (·.1) = false := by rfl)
    (ht : eval (.Call (.Attribute o m apos) (e :: es) [] pos) X.env = (do
      let ov ← eval o X.env
      standAt apos.atName
      let (f, first) ← holding [ov] (getMethod ov m pl)
      callWith pos f first (backTo pos (starEach (e :: es) X.env)) (backToKw pos (keywordEach [] X.env))) := by rfl) :
    PE X (.Call (.Attribute o m apos) (e :: es) [] pos) (tMeth C m sp dvs E ta t) := by
  intro pins s σ H Q I h
  refine PySem.W.methodCall_KW (pl := pl) (thn (he pins s σ H _ I h) fun u s1 ⟨x, H1, I1, rx, a, dx, fs, ex, ea, l, q⟩ => ?_) ht
  subst ex
  obtain rfl : u = Value.ref a := rx
  refine getmeth_ok I1 ea c hm l ?_
  refine PySem.W.callWith_K (first := [.ref a]) (h₀ := X.base) I.ok.mod.kin hm.kp (thn (ha pos pins s1 σ H1 _ I1 q) fun us s2 ⟨vs, H2, I2, r, q2⟩ => ⟨I2.kIn, ?_⟩) hst hpl
  exact run_fn (us := .ref a :: us) (vs := .ref a :: vs) F hr hb hd hx I2 (.cons rfl r) q2
/-- o.m() -/
theorem pe_meth0 {pl : Sem Bool} (he : PE X o ta) (c : Cls X.K C) (hm : Meth X.K C m f) (F : FnOk X.prog X.w X.K X.mg X.base CX k f fd ps sp) (hr : Room k X.A) (hb : Binds X.K fd ps ds) (hd : Vals dvs ds) (hx : Passes CX X E)
    (ht : eval (.Call (.Attribute o m apos) [] [] pos) X.env = (do
      let ov ← eval o X.env
      standAt apos.atName
      let (f, first) ← holding [ov] (getMethod ov m pl)
      callWith pos f first (backTo pos (starEach [] X.env)) (backToKw pos (keywordEach [] X.env))) := by rfl) :
    PE X (.Call (.Attribute o m apos) [] [] pos) (tMeth C m sp dvs E ta tNil) := by
  intro pins s σ H Q I h
  refine PySem.W.methodCall_KW (pl := pl) (thn (he pins s σ H _ I h) fun u s1 ⟨x, H1, I1, rx, a, dx, fs, ex, ea, l, q⟩ => ?_) ht
  subst ex
  obtain rfl : u = Value.ref a := rx
  refine getmeth_ok I1 ea c hm l ?_
  exact PySem.W.callWith_K0 (first := [.ref a]) I1.kIn hm.kp (run_fn (us := [.ref a]) (vs := [.ref a]) F hr hb hd hx I1 (.cons rfl .nil) q)

/-- what a class must have to be made -/
structure Mk (K : PySem.W.Frag) (C f : Addr) : Prop where
  makes : PySem.W.makesIn K C = true
  init : PySem.W.findIn K (.ref C) "__init__" = some (some (.ref f))
  fn : PySem.W.isFn K (.ref f) = true
  kp : PySem.W.keepIn K (.ref C) = true

theorem run_make {pins : List (Addr × Obj)} {σ : St} {H : Hp} {s : Shared} {Q : VK} {us : List Value} {vs : List V} (M : Mk X.K C f) (F : FnOk X.prog X.w X.K X.mg X.base CX k f fd ps sp) (hr : Room (k + 1) X.A) (hb : Binds X.K fd ps ds) (hd : Vals dvs ds)
    (hx : Passes CX X E) (I : Inv X pins σ H s) (r : Vals vs us)
    (h : ∀ x dx, H x = none → H dx = none → dx ≠ x → sp (.ref x :: (vs ++ dvs)) (upd (upd H dx (.own x)) x (.ins C dx [])) (fun v H2 => v = .non ∧ Q (.ref x) H2) E) :
    wpAny (model X.prog X.w) X.A (call (.ref C) us) (EP X pins σ Q) X.xe s := by
  have hq := h (s.heap.objs.size + 1) s.heap.objs.size (I.hok.fresh (Nat.le_succ _)) (I.hok.fresh (Nat.le_refl _)) (Nat.ne_of_lt (Nat.lt_succ_self _))
  have I2 := Inv.made (C := C) I
  have r2 : Vals (V.ref (s.heap.objs.size + 1) :: (vs ++ dvs)) (Value.ref (s.heap.objs.size + 1) :: (us ++ ds)) := .cons rfl (r.append hd)
  have hl : (Value.ref (s.heap.objs.size + 1) :: us ++ ds).length = ps.length := by
    have e := r2.length
    rw [F.len _ _ _ _ hq] at e
    exact e.symm
  refine wpAny_call (make_map (f := f) I.kIn M.makes M.init (beq_iff_eq.mp M.fn) (codeAny_mono (F.run _ X.stack _ _ ⟨Value.ref (s.heap.objs.size + 1) :: us, []⟩ (Value.ref (s.heap.objs.size + 1) :: (us ++ ds)) _ _ E (hr.make C us [])
    (I2.env0.make C us []) (hb _ (Value.ref (s.heap.objs.size + 1) :: us) I2.kIn hl) r2 hq) fun r s' hq' => ?_))
  cases r with
  | error e => exact hx pins σ _ _ e s' I2 hq'
  | ok fl =>
    cases fl with
    | ret u =>
      obtain ⟨v, H', I3, rv, ev, q3⟩ := I2.after hq'
      subst ev
      exact ⟨rv, ⟨V.ref (s.heap.objs.size + 1), H', I3, rfl, q3⟩⟩
    | next => exact False.elim hq'
    | brk => exact False.elim hq'
    | cont => exact False.elim hq'
theorem pe_make (M : Mk X.K C f) (F : FnOk X.prog X.w X.K X.mg X.base CX k f fd ps sp) (hr : Room (k + 1) X.A) (hg : Gl X x) (hm : X.mg x = some (.ref C)) (hb : Binds X.K fd ps ds) (hd : Vals dvs ds) (hx : Passes CX X E)
    (ha : PA X (e :: es) t) (hdb : (x == ("__debug__" : Str)) = false := by decide) (he : starEach (e :: es) X.env = (false, eval e X.env) :: starEach es X.env := by rfl) (hpl : (backTo pos (starEach es X.env)).any (·.1) = false := by rfl) :
    PE X (.Call (.Name x p) (e :: es) [] pos) (tMake C sp dvs E t) := by
  intro pins s σ H Q I h
  refine wpAny_Call_Name_kw (ld_glob I hg hm ?_ hdb)
  refine PySem.W.callWith_K (h₀ := X.base) I.ok.mod.kin M.kp (thn (ha pos pins s σ H _ I h) fun us s1 ⟨vs, H1, I1, r, q⟩ => ⟨I1.kIn, ?_⟩) he hpl
  exact run_make M F hr hb hd hx I1 r q
theorem pe_make0 (M : Mk X.K C f) (F : FnOk X.prog X.w X.K X.mg X.base CX k f fd ps sp) (hr : Room (k + 1) X.A) (hg : Gl X x) (hm : X.mg x = some (.ref C)) (hb : Binds X.K fd ps ds) (hd : Vals dvs ds) (hx : Passes CX X E)
    (hdb : (x == ("__debug__" : Str)) = false := by decide) : PE X (.Call (.Name x p) [] [] pos) (tMake C sp dvs E tNil) := by
  intro pins s σ H Q I h
  refine wpAny_Call_Name_kw (ld_glob I hg hm ?_ hdb)
  exact PySem.W.callWith_K0 I.kIn M.kp (run_make (us := []) M F hr hb hd hx I .nil h)
end
section
variable {X : Cx} {CX : CXT} {k : Nat} {f C : Addr} {fd : FuncData} {ps ks : List Str} {sp : Sp} {E : XK} {x m : Str} {p pos apos kpos : Pos} {e o : Expr} {es : List Expr} {kws : List Keyword} {te ta : TE} {t tk : TA} {nm : Option Str}
variable {g : List Value → List Value → List Value} {gV : List V → List V → List V}
end

/-- names: the parameters first -/
structure FnScope (N P : List Str) (sc : Scope) : Prop where
  kind : sc.kind = .function
  co : sc.isCoroutine = false
  gen : sc.isGenerator = false
  nd : N.Nodup
  pre : N.take P.length = P
  par : ∀ x ∈ P, sc.names.lookup x = some .local ∨ sc.names.lookup x = some .cell
  nofree : ∀ y ∈ sc.names, y.2 ≠ .free

theorem bindL_out {kindOf : Str → Option NameKind} {x : Str} : ∀ {binds : List (Str × Value)} {m : Str → Option Value}, (∀ v, (x, v) ∉ binds) → bindL kindOf binds m x = m x
  | [], _, _ => rfl
  | (n, v) :: r, m, h => by
    unfold bindL
    rw [bindL_out fun w hw => h w (List.mem_cons_of_mem _ hw)]
    split
    · have : x ≠ n := by rintro rfl; exact h v List.mem_cons_self
      simp [this]
    · rfl
theorem bindC_out {kindOf : Str → Option NameKind} {x : Str} : ∀ {binds : List (Str × Value)} {m : Str → Option Value}, (∀ v, (x, v) ∉ binds) → bindC kindOf binds m x = m x
  | [], _, _ => rfl
  | (n, v) :: r, m, h => by
    unfold bindC
    rw [bindC_out fun w hw => h w (List.mem_cons_of_mem _ hw)]
    split
    · rfl
    · have : x ≠ n := by rintro rfl; exact h v List.mem_cons_self
      simp [this]
theorem bindL_get {kindOf : Str → Option NameKind} {x : Str} {v : Value} : ∀ {P : List Str} {vs : List Value} {i : Nat} {m : Str → Option Value}, P.Nodup → P[i]? = some x → vs[i]? = some v → kindOf x = some .local →
    bindL kindOf (P.zip vs) m x = some v
  | [], _, _, _, _, h, _, _ => by simp at h
  | _ :: _, [], _, _, _, _, h, _ => by simp at h
  | p :: P, w :: vs, 0, m, nd, h1, h2, hk => by
    simp at h1 h2; subst h1; subst h2
    show bindL kindOf ((p, w) :: P.zip vs) m p = _
    unfold bindL
    rw [bindL_out fun v hv => (List.nodup_cons.mp nd).1 (List.of_mem_zip hv).1, if_pos hk]
    simp
  | p :: P, w :: vs, i + 1, m, nd, h1, h2, hk => by
    show bindL kindOf ((p, w) :: P.zip vs) m x = _
    unfold bindL
    exact bindL_get (i := i) (List.nodup_cons.mp nd).2 (by simpa using h1) (by simpa using h2) hk
theorem bindC_get {kindOf : Str → Option NameKind} {x : Str} {v : Value} : ∀ {P : List Str} {vs : List Value} {i : Nat} {m : Str → Option Value}, P.Nodup → P[i]? = some x → vs[i]? = some v → kindOf x ≠ some .local →
    bindC kindOf (P.zip vs) m x = some v
  | [], _, _, _, _, h, _, _ => by simp at h
  | _ :: _, [], _, _, _, _, h, _ => by simp at h
  | p :: P, w :: vs, 0, m, nd, h1, h2, hk => by
    simp at h1 h2; subst h1; subst h2
    show bindC kindOf ((p, w) :: P.zip vs) m p = _
    unfold bindC
    rw [bindC_out fun v hv => (List.nodup_cons.mp nd).1 (List.of_mem_zip hv).1, if_neg hk]
    simp
  | p :: P, w :: vs, i + 1, m, nd, h1, h2, hk => by
    show bindC kindOf ((p, w) :: P.zip vs) m x = _
    unfold bindC
    exact bindC_get (i := i) (List.nodup_cons.mp nd).2 (by simpa using h1) (by simpa using h2) hk

/-- the names' values at the entry -/
def start (N : List Str) (vs : List V) : St := vs.map some ++ List.replicate (N.length - vs.length) none

/-- the context of a def's body, at its entry; an exception leaves the frame, then lies as CX says -/
def cxOf (CX : CXT) (P : Program) (w : World) (K : PySem.W.Frag) (mg : Str → Option Value) (base : Heap) (N : List Str) (qual : Str) (scope : Scope) (f : Addr) (cd : Value) (A : Around) (outer : List Env) (s : Shared) (H : Hp) (E : XK) : Cx where
  prog := P
  w := w
  K := K
  mg := mg
  base := base
  A := A.deeper (envOfC qual scope s.heap.objs.size f cd)
  N := N
  s_0 := s
  H_0 := H
  env := envOfC qual scope s.heap.objs.size f cd
  outer := outer
  stack := envOfC qual scope s.heap.objs.size f cd :: outer
  ex := []
  calm := true
  fn := fun _ => true
  pn := []
  xe := fun e s' => wpAny (model P w) (A.deeper (envOfC qual scope s.heap.objs.size f cd)) (leaving (envOfC qual scope s.heap.objs.size f cd) e) (fun _ s'' => CX outer H s E e s'') (fun e' s'' => CX outer H s E e' s'') s'

theorem cell_has {sc : Scope} {n : Nat} {x : Str} (h : sc.names.lookup x = some .cell) : ∃ c, (cellsFrom n sc.names []).lookup x = some c := by
  have q := PySem.W.cellsFrom_some sc.names n [] (.inl h)
  exact Option.isSome_iff_exists.mp q

theorem inv_start {CX : CXT} {P : Program} {w : World} {K : PySem.W.Frag} {mg : Str → Option Value} {base : Heap} {N ps : List Str} {qual : Str} {scope : Scope} {f : Addr} {cd : Value} {A : Around} {outer : List Env} {s s1 : Shared} {H : Hp} {E : XK} {us : List Value} {vs : List V}
    (S : FnScope N ps scope) (hd : A.handled = none) (e0 : Env0 P w K mg base A outer s H) (hl : vs.length = ps.length) (r : Vals vs us)
    (x : InCallC s s.heap.objs.size (bindL (envOfC qual scope s.heap.objs.size f cd).kindOf (ps.zip us) fun _ => none) (cellsFrom (s.heap.objs.size + 1) scope.names []) (bindC (envOfC qual scope s.heap.objs.size f cd).kindOf (ps.zip us) fun _ => none) s1) :
    Inv (cxOf CX P w K mg base N qual scope f cd A outer s H E) [] (start N vs) H s1 := by
  have hpl : ps.length ≤ N.length := by have := congrArg List.length S.pre; rw [List.length_take] at this; omega
  obtain ⟨h1, tk, rfl, hk⟩ := x.done
  have noA : ∀ b : Addr, b ∉ (cxOf CX P w K mg base N qual scope f cd A outer s H E).ex := fun b z => absurd (show b ∈ ([] : List Addr) from z) (by simp)
  refine ⟨⟨e0.mod, S.kind, rfl, rfl, Nat.le_refl _, fun y z c h1 h2 => ?_, fun y hy => ?_, fun y c _ h => ?_, fun _ => hd, Around.frames_deeper e0.frames, .inr ⟨rfl, rfl⟩, fun b z => absurd z (noA b), e0.bs, e0.bsz, fun b _ _ => noA b, fun b z => absurd z (noA b), e0.funs, e0.frf⟩,
    rfl, e0.bare, Un.kept hk, ⟨_, x.toInCall.ns, fun i y v h1 h2 h3 => ?_⟩, fun y c h => ⟨_, x.cell y c h⟩, e0.hok.fresh (Nat.le_refl _), fun y c h => ?_, fun p hp => absurd (show p ∈ ([] : List (Addr × Obj)) from hp) (by simp), e0.hok.kept hk, ?_⟩
  · exact name_of_addr x.apart (PySem.mem_of_lookup h1) (PySem.mem_of_lookup h2)
  · have hy : scope.names.lookup y = some .cell ∨ scope.names.lookup y = some .free := hy
    rcases hy with hy | hy
    · exact cell_has hy
    · exact absurd rfl (S.nofree _ (PySem.mem_of_lookup hy))
  · exact Nat.le_of_lt (x.above y c (PySem.mem_of_lookup h))
  · have hi : i < vs.length := by
      unfold start at h2
      by_cases hi : i < vs.length
      · exact hi
      · rw [List.getElem?_append_right (by simpa using hi)] at h2
        rw [List.getElem?_replicate] at h2
        split at h2 <;> cases h2
    have ha : vs[i]? = some v := by
      unfold start at h2
      rw [List.getElem?_append_left (by simpa using hi), List.getElem?_map] at h2
      cases e : vs[i]? with
      | none => rw [e] at h2; cases h2
      | some a => rw [e] at h2; cases h2; rfl
    obtain ⟨u, hu, rv⟩ := r.get ha
    have hp : ps[i]? = some y := by
      rw [← S.pre, List.getElem?_take_of_lt (by omega)]; exact h1
    have ndP : ps.Nodup := by rw [← S.pre]; exact S.nd.sublist (List.take_sublist _ _)
    refine ⟨u, rv, ?_⟩
    rcases S.par y (List.mem_of_getElem? hp) with k | k
    · exact .inl ⟨k, bindL_get ndP hp hu k⟩
    · obtain ⟨c, e⟩ := cell_has (n := s.heap.objs.size + 1) k
      refine .inr ⟨.inl k, c, e, ?_⟩
      have q := x.cell y c e
      rw [bindC_get ndP hp hu (by show scope.names.lookup y ≠ _; rw [k]; decide)] at q
      exact q
  · exact e0.hok.fresh (Nat.le_of_lt (x.above y c (PySem.mem_of_lookup h)))
  · unfold start
    show _ = N.length
    rw [List.length_append, List.length_map, List.length_replicate]
    omega

/-- THE RULE: a def (or a method) of the text, by its body. The body's reading t is chosen for each entry; it is run at the parameters' values -/
theorem fn_of {CX : CXT} {P : Program} {w : World} {K : PySem.W.Frag} {mg : Str → Option Value} {base : Heap} {k : Nat} {f : Addr} {name qual : Str} {params : Arguments} {body : List Stmt} {scope : Scope} {dV kV doc pm cdv ct oc : Value} {an od : Option Addr}
    {osl : Array (Option Value)} {N ps : List Str} {sp : Sp} (lk : K.lookup f = some ⟨oc, od, .func (PySem.W.fnOf name qual params body scope dV kV doc pm an cdv ct), osl⟩) (hcd : PySem.W.codeIn K cdv qual = true) (S : FnScope N ps scope)
    (len : ∀ vs H Q E, sp vs H Q E → vs.length = ps.length)
    (hbody : ∀ (A : Around) (outer : List Env) (s : Shared) (H : Hp) (vs : List V) (Q : VK) (E : XK), Room k (A.deeper (envOfC qual scope s.heap.objs.size f cdv)) → sp vs H Q E →
      ∃ t, PSs (cxOf CX P w K mg base N qual scope f cdv A outer s H E) body t ∧ t { nx := fun _ H' => Q .non H', rt := Q } (start N vs) H) :
    FnOk P w K mg base CX (k + 1) f (PySem.W.fnOf name qual params body scope dV kV doc pm an cdv ct) ps sp := by
  refine ⟨len, fun A outer s H args us vs Q E hr e0 hb r hsp => ?_⟩
  have hl := len _ _ _ _ hsp
  have KX : K.In s.heap := e0.mod.kin.keeps fun b o e => (e0.bs b o e).1
  have lim : s.heap.NoLimit := e0.mod.nolimit.keeps fun b o e => (e0.bs b o e).1
  have hkind : ∀ y ∈ ps.zip us, scope.names.lookup y.1 = some .local ∨ (scope.names.lookup y.1 = some .cell ∧ ((cellsFrom (s.heap.objs.size + 1) scope.names []).lookup y.1).isSome = true) := fun ⟨n, v⟩ hy => by
    rcases S.par n (List.of_mem_zip hy).1 with q | q
    · exact .inl q
    · exact .inr ⟨q, PySem.W.cellsFrom_some _ _ _ (.inl q)⟩
  refine codeAny_call_function hr.depth (KX _ _ lk) rfl S.co S.gen rfl (PySem.W.codeRec_of KX hcd) (hb _ _ _ _ ?_)
  refine wpAny_newFunctionEnv_cells S.kind hkind fun env he s1 x => ?_
  subst he
  refine ⟨lim.keeps x.toInCall.keep, codeAny_func ?_⟩
  obtain ⟨t, ht, hq⟩ := hbody A outer s H vs Q E (hr.deeper _) hsp
  have I : Inv (cxOf CX P w K mg base N qual scope f cdv A outer s H E) [] (start N vs) H s1 := inv_start S hr.hd e0 hl r x
  refine wpAny_mono (ht [] s1 (start N vs) H _ I hq) (fun fl s' hs => ?_) fun e s' hs => hs
  have fin : ∀ {σ' : St} {H' : Hp} {v : V} {u : Value}, Inv (cxOf CX P w K mg base N qual scope f cdv A outer s H E) [] σ' H' s' → RelV v u → Q v H' → CE outer P w H s Q u s' :=
    fun {σ' H' v u} J rv q => ⟨v, H', J.os, J.bare, J.base, J.hok, rv, q⟩
  cases fl with
  | ret u =>
    obtain ⟨v, σ', H', J, rv, q⟩ := hs
    exact fin J rv q
  | next =>
    obtain ⟨σ', H', J, q⟩ := hs
    exact fin (v := V.non) (u := Value.none) J rfl q
  | brk =>
    obtain ⟨_, _, _, q⟩ := hs
    exact False.elim q
  | cont =>
    obtain ⟨_, _, _, q⟩ := hs
    exact False.elim q
end L2

namespace L2
open PySem PySem.Spec PyProof.Rows
section
variable {X : Cx} {x : Str} {p pos : Pos} {e : Expr} {es : List Expr} {t : TA} {id T : String} {r : List V → Hp → VK → Prop}

def tCB (r : List V → Hp → VK → Prop) (t : TA) : TE := fun σ H Q => t σ H fun vs H1 => r vs H1 Q
/-- f(e, ..), f a built-in function -/
theorem pe_callB (hc : CallR X (.builtin id) r) (hg : Gl X x) (hm : X.mg x = none) (hv : bootBuiltins x = some (.builtin id)) (ha : PA X (e :: es) t) (hn : x ≠ "__name__" := by decide) (hdb : (x == ("__debug__" : Str)) = false := by decide)
    (he : starEach (e :: es) X.env = (false, eval e X.env) :: starEach es X.env := by rfl) (hpl : (backTo pos (starEach es X.env)).any (·.1) = false := by rfl) : PE X (.Call (.Name x p) (e :: es) [] pos) (tCB r t) := by
  intro pins s σ H Q I h
  refine wpAny_Call_Name_kw (ld_blt I hg hm hv ?_ hn hdb)
  exact PyProof.Rows.callWith_builtin1 (thn (ha pos pins s σ H _ I h) fun us s1 ⟨vs, H1, I1, r1, q1⟩ => hc pins s1 σ H1 vs us Q I1 r1 q1) he hpl
/-- T(e, ..), T a built-in type -/
theorem pe_callTy (hc : CallR X (.type T) r) (hg : Gl X x) (hm : X.mg x = none) (hv : bootBuiltins x = some (.type T)) (ha : PA X (e :: es) t) (hn : x ≠ "__name__" := by decide) (hdb : (x == ("__debug__" : Str)) = false := by decide)
    (he : starEach (e :: es) X.env = (false, eval e X.env) :: starEach es X.env := by rfl) (hpl : (backTo pos (starEach es X.env)).any (·.1) = false := by rfl) : PE X (.Call (.Name x p) (e :: es) [] pos) (tCB r t) := by
  intro pins s σ H Q I h
  refine wpAny_Call_Name_kw (ld_blt I hg hm hv ?_ hn hdb)
  exact PyProof.Rows.callWith_type1 (thn (ha pos pins s σ H _ I h) fun us s1 ⟨vs, H1, I1, r1, q1⟩ => hc pins s1 σ H1 vs us Q I1 r1 q1) he hpl
end
end L2

namespace HT
open PySem PyProof.Rows

section
open PySem.SeqAt
open PySem.AutoSeq1 (wpAny_loadPart')
open PySem.MeetsSeq PySem.MeetsSeq2 PySem.MeetsSeq3
end

section
variable {prog : Program} {w : World} {A : Around} {E : Value → Shared → Prop} {s : Shared}

/-- a slice's bound as a place among n (d where it is left out) -/
def sIx (n d : Nat) : Option Int → Nat
  | none => d
  | some v => if v < 0 then (v + (n : Int)).toNat else min v.toNat n
theorem sIx_none (n d : Nat) : sIx n d none = d := rfl
theorem sIx_nat (n d k : Nat) : sIx n d (some (k : Int)) = min k n := by
  show (if (k : Int) < 0 then ((k : Int) + (n : Int)).toNat else min (k : Int).toNat n) = min k n
  rw [if_neg (by omega), Int.toNat_natCast]
end
end HT

namespace L2
open PySem PySem.Spec PyProof.Rows

abbrev TO := St → Hp → (Option Int → Hp → Prop) → Prop
/-- a slice's part (left out, or an int) -/
def PO (X : Cx) (e : Option Expr) (t : TO) : Prop :=
  ∀ (pins : List (Addr × Obj)) (s : Shared) (σ : St) (H : Hp) (Q : Option Int → Hp → Prop), Inv X pins σ H s → t σ H Q →
    wpAny (model X.prog X.w) X.A (evalPart e X.env) (fun u s' => ∃ o H', Inv X pins σ H' s' ∧ IsPart u o ∧ Q o H') X.xe s
def tNoPart : TO := fun _ H Q => Q none H
def tPart (t : TE) : TO := fun σ H Q => t σ H fun x H1 => ∃ i, x = .int i ∧ Q (some i) H1

section
variable {X : Cx} {e : Expr} {te : TE} {lo hi : Option Expr} {tl th : TO} {pos p2 : Pos}

theorem po_none : PO X none tNoPart := by
  intro pins s σ H Q I h
  rw [evalPart_none]
  exact wpAny_pure ⟨none, H, I, .none, h⟩
theorem po_some (h : PE X e te) : PO X (some e) (tPart te) := by
  intro pins s σ H Q I hw
  rw [evalPart_some]
  refine thn (h pins s σ H _ I hw) fun u s1 ⟨x, H1, I1, r1, q1⟩ => ?_
  obtain ⟨i, rfl, q⟩ := q1
  obtain ⟨t, rfl⟩ := r1
  exact ⟨some i, H1, I1, .int i t, q⟩

/-- what a slice of a value is, by values: the slice object stands at sl -/
def SlR (X : Cx) (r : V → Option Int → Option Int → Hp → VK → Prop) : Prop :=
  ∀ (pins : List (Addr × Obj)) (s : Shared) (σ : St) (H : Hp) (x : V) (v vl vu : Value) (lo hi : Option Int) (sl : Addr) (Q : VK), Inv X pins σ H s → RelV x v → s.heap.IsSliceOf sl vl vu .none → IsPart vl lo → IsPart vu hi → r x lo hi H Q →
    ∃ T id, typeLookup (.type T) "__getitem__" = pure (some (.builtin id)) ∧ s.TypeIs v T ∧ wpAny (model X.prog X.w) X.A (getItem v (.ref sl)) (EP X pins σ Q) X.xe s
def tSl (r : V → Option Int → Option Int → Hp → VK → Prop) (te : TE) (tl th : TO) : TE := fun σ H Q => te σ H fun x H1 => tl σ H1 fun l H2 => th σ H2 fun u H3 => r x l u H3 Q
/-- a[lo:hi], any a -/
theorem pe_slice {r : V → Option Int → Option Int → Hp → VK → Prop} (hr : SlR X r) (he : PE X e te) (hl : PO X lo tl) (hu : PO X hi th) : PE X (.Subscript e (.Slice lo hi none p2) pos) (tSl r te tl th) := by
  intro pins s σ H Q I h
  refine Subscript_ (thn (he pins s σ H _ I h) fun v s1 ⟨x, H1, I1, r1, q1⟩ => ?_)
  refine wpAny_Slice (thn (hl pins s1 σ H1 _ I1 q1) fun vl s2 ⟨l, H2, I2, pl, q2⟩ => thn (hu pins s2 σ H2 _ I2 q2) fun vu s3 ⟨u, H3, I3, pu, q3⟩ => ?_)
  rw [evalPart_none]
  refine wpAny_pure ?_
  have I4 : Inv X pins σ H3 { s3 with heap := s3.heap.push { cls := .type "slice", data := .fields #[vl, vu, .none] } } := I3.kept (t' := s3.toks) fun b ob q => Heap.get?_push_of_some _ q
  obtain ⟨T, id, hT, ht, hg⟩ := hr pins { s3 with heap := s3.heap.push { cls := .type "slice", data := .fields #[vl, vu, .none] } } σ H3 x v vl vu l u s3.heap.objs.size Q I4 r1 (Heap.IsSliceOf.new ..) pl pu q3
  show wpAny (model X.prog X.w) X.A (subscriptTail e (.Slice lo hi none p2) v (.ref s3.heap.objs.size)) (EP X pins σ Q) X.xe { s3 with heap := s3.heap.push { cls := .type "slice", data := .fields #[vl, vu, .none] } }
  exact tail_any (ops := [.ref s3.heap.objs.size, v]) ht hT hg (by with_unfolding_all rfl)

/-- the items of xs[lo:hi] -/
def cutV (xs : List V) (lo hi : Option Int) : List V := (xs.drop (HT.sIx xs.length 0 lo)).take (HT.sIx xs.length xs.length hi - HT.sIx xs.length 0 lo)
theorem cutV_length (xs : List V) (lo hi : Option Int) : (cutV xs lo hi).length ≤ xs.length := by
  unfold cutV
  rw [List.length_take, List.length_drop]
  omega
end
end L2

namespace L2
open PySem PySem.Spec PyProof.Rows

/-- the place that an index of any sign means -/
def ixN (n : Nat) (i : Int) : Option Nat := if 0 ≤ i then (if i < n then some i.toNat else none) else if -(n : Int) ≤ i then some (i + n).toNat else none
def atI {α : Type} (xs : List α) (i : Int) : Option α := (ixN xs.length i).bind fun j => xs[j]?
theorem ixN_seq {n : Nat} {i : Int} {j : Nat} (h : ixN n i = some j) : seqIndex? i n = some j ∧ j < n ∧ -(n : Int) ≤ i ∧ i < n := by
  unfold ixN at h
  by_cases h0 : 0 ≤ i
  · rw [if_pos h0] at h
    by_cases h1 : i < n
    · rw [if_pos h1] at h
      have e : i.toNat = j := Option.some.inj h
      exact ⟨by rw [seqIndex_of h0 h1, e], by omega, by omega, h1⟩
    · rw [if_neg h1] at h; cases h
  · rw [if_neg h0] at h
    by_cases h1 : -(n : Int) ≤ i
    · rw [if_pos h1] at h
      have e : (i + n).toNat = j := Option.some.inj h
      exact ⟨by rw [seqIndex_neg (by omega) h1, e], by omega, h1, by omega⟩
    · rw [if_neg h1] at h; cases h
theorem atI_get {α : Type} {xs : List α} {i : Int} {v : α} (h : atI xs i = some v) : ∃ j, seqIndex? i xs.length = some j ∧ xs[j]? = some v ∧ j < xs.length ∧ -(xs.length : Int) ≤ i ∧ i < xs.length := by
  unfold atI at h
  cases e : ixN xs.length i with
  | none => rw [e] at h; cases h
  | some j =>
    rw [e] at h
    obtain ⟨h1, h2, h3, h4⟩ := ixN_seq e
    exact ⟨j, h1, h, h2, h3, h4⟩
theorem atI_nat {α : Type} {xs : List α} {j : Nat} {v : α} (h : xs[j]? = some v) : atI xs (j : Int) = some v := by
  have hj : j < xs.length := (List.getElem?_eq_some_iff.mp h).1
  have e : ixN xs.length (j : Int) = some j := by
    unfold ixN
    rw [if_pos (by omega), if_pos (by omega)]; simp
  unfold atI; rw [e]; exact h

/-- what stands as an index of a plain subscript -/
def PlainIx (b : Expr) : Prop := ∀ o i, subscripted b false o i = operate [o, i] (getItem o i)
/-- a subscript by values -/
def IxR (X : Cx) (r : R2) : Prop :=
  ∀ (value slice : Expr) (pins : List (Addr × Obj)) (s : Shared) (σ : St) (H : Hp) (x y : V) (v u : Value) (Q : VK), Inv X pins σ H s → RelV x v → RelV y u → r x y H Q →
    subscripted slice false v u = operate [v, u] (getItem v u) → wpAny (model X.prog X.w) X.A (subscriptTail value slice v u) (EP X pins σ Q) X.xe s
/-- a call of a builtin's method by values: the receiver, the arguments -/
def MtR (X : Cx) (id : String) (r : V → List V → Hp → VK → Prop) : Prop :=
  ∀ (pins : List (Addr × Obj)) (s : Shared) (σ : St) (H : Hp) (x : V) (xs : List V) (v : Value) (us : List Value) (Q : VK), Inv X pins σ H s → RelV x v → Vals xs us → r x xs H Q →
    wpAny (model X.prog X.w) X.A (call (.builtin id) (v :: us)) (EP X pins σ Q) X.xe s
section
variable {X : Cx} {a b : Expr} {ta tb : TE} {pos : Pos}
/-- a[b] -/
theorem pe_ix {r : R2} (hr : IxR X r) (ha : PE X a ta) (hb : PE X b tb) (hs : PlainIx b) : PE X (.Subscript a b pos) (tOp r ta tb) := by
  intro pins s σ H Q I h
  exact Subscript_ (binT ha hb I h fun v u s2 x y H2 I2 rx ry q => hr a b pins s2 σ H2 x y v u Q I2 rx ry q (hs _ _))

def rIxL (K : PySem.W.Frag) : R2 := fun x y H Q => ∃ p xs i v, x = .ref p ∧ y = .int i ∧ SqL K H p xs ∧ atI xs i = some v ∧ Q v H
def rIxT (K : PySem.W.Frag) : R2 := fun x y H Q => ∃ p xs i v, x = .ref p ∧ y = .int i ∧ SqT K H p xs ∧ atI xs i = some v ∧ Q v H
theorem ix_list : IxR X (rIxL X.K) := by
  intro value slice pins s σ H x y v u Q I rx ry h hs
  obtain ⟨p, xs, i, z, rfl, rfl, hq, he, q⟩ := h
  cases rx
  obtain ⟨t, rfl⟩ := ry
  obtain ⟨its, r, pl, hz⟩ := I.list hq
  obtain ⟨j, h1, h2, h3, h4, h5⟩ := atI_get he
  obtain ⟨w, ew, rw'⟩ := r.get h2
  have hl := r.length
  have hn := line63
  have fin : EP X pins σ Q w s := ⟨z, H, I, rw', q⟩
  by_cases h0 : 0 ≤ i
  · have hj : i.toNat = j := by
      rw [seqIndex_of h0 h5] at h1
      exact Option.some.inj h1
    exact item_listR pl.isList h0 (by omega) (by rw [hj]; simpa using ew) fin hs
  · have hj : (i + (its.toArray.size : Int)).toNat = j := by
      rw [seqIndex_neg (by omega) h4] at h1
      rw [List.size_toArray, ← hl]
      exact Option.some.inj h1
    exact subscriptTail_builtinR (x := w) pl.isList.typeIs slot_list_getitem.lookup
      (wpAny_getItem_list_neg (Q := fun r s' => r = w ∧ EP X pins σ Q r s') pl.isList (by omega) (by rw [List.size_toArray] <;> omega) (by omega) (by rw [hj]; simpa using ew) ⟨rfl, fin⟩) hs
theorem ix_tup : IxR X (rIxT X.K) := by
  intro value slice pins s σ H x y v u Q I rx ry h hs
  obtain ⟨p, xs, i, z, rfl, rfl, hq, he, q⟩ := h
  cases rx
  obtain ⟨t, rfl⟩ := ry
  obtain ⟨its, r, pl, hz⟩ := I.tuple hq
  obtain ⟨j, h1, h2, h3, h4, h5⟩ := atI_get he
  obtain ⟨w, ew, rw'⟩ := r.get h2
  have hl := r.length
  have hn := line63
  have fin : EP X pins σ Q w s := ⟨z, H, I, rw', q⟩
  exact subscriptTail_builtinR (x := w) pl.typeIs slot_tuple_getitem.lookup
    (getItem_tuple (j := j) (Q := fun r s' => r = w ∧ EP X pins σ Q r s') pl (by omega) (by omega) (by rw [List.size_toArray, ← hl]; exact h1) (by simpa using ew) ⟨rfl, fin⟩) hs

/-- the list's object behind a store -/
theorem mapSeq_set (its : List Value) (n j : Nat) (u : Value) : Obj.mapSeq (·.setIfInBounds j u) { cls := .type "list", data := .seq its.toArray n } = { cls := .type "list", data := .seq (its.set j u).toArray n } := by
  simp [Obj.mapSeq]
theorem Inv.lst {pins : List (Addr × Obj)} {σ : St} {H : Hp} {s : Shared} {p : Addr} {xs : List V} (I : Inv X pins σ H s) (h : H p = some (.lst xs)) :
    ∃ (its : List Value) (n : Nat), Vals xs its ∧ s.heap.get? p = some { cls := .type "list", data := .seq its.toArray n } ∧ xs.length ≤ sizeLine := by
  obtain ⟨z, its, n, r, e⟩ := I.hok p _ h
  exact ⟨its, n, r, e, z⟩
/-- the list at p is written by an update of its object -/
theorem Inv.lstUpd {pins : List (Addr × Obj)} {σ : St} {H : Hp} {s : Shared} {p : Addr} {xs ys : List V} {its its' : List Value} {n n' : Nat} {f : Obj → Obj} (I : Inv X pins σ H s) (h : H p = some (.lst xs))
    (ho : s.heap.get? p = some { cls := .type "list", data := .seq its.toArray n }) (hf : f { cls := .type "list", data := .seq its.toArray n } = { cls := .type "list", data := .seq its'.toArray n' }) (r : Vals ys its') (hz : ys.length ≤ sizeLine) (t : Nat) :
    Inv X pins σ (upd H p (.lst ys)) { s with heap := s.heap.update p f, toks := t } := by
  have e : (s.heap.update p f).get? p = some { cls := .type "list", data := .seq its'.toArray n' } := by
    rw [Heap.get?_update_self f ho (by rw [hf] <;> rfl), hf]
  refine I.write (x := p) (e := p) (by rw [h]; trivial) (.inl rfl) (fun b u hb q => (Heap.get?_update_other _ _ (Ne.symm hb)).trans q) ⟨_, e⟩ ?_
  exact ⟨hz, its', n', r, e⟩
def rSetL : V → V → V → Hp → (Hp → Prop) → Prop := fun o i v H Q => ∃ p xs k j, o = .ref p ∧ i = .int k ∧ H p = some (.lst xs) ∧ ixN xs.length k = some j ∧ Q (upd H p (.lst (xs.set j v)))
theorem set_list : PSet X rSetL := by
  intro pins s σ H o i v ov iv u Q I ro ri rv h
  obtain ⟨p, xs, k, j, rfl, rfl, hp, hj, q⟩ := h
  cases ro
  obtain ⟨t, rfl⟩ := ri
  obtain ⟨its, n, r, ho, hz⟩ := I.lst hp
  obtain ⟨h1, h2, h3, h4⟩ := ixN_seq hj
  have hl := r.length
  have hn := line63
  have I' : Inv X pins σ (upd H p (.lst (xs.set j v))) { s with heap := s.heap.update p (Obj.mapSeq (·.setIfInBounds j u)) } :=
    I.lstUpd hp ho (mapSeq_set its n j u) (r.set rv j) (by rw [List.length_set]; exact hz) s.toks
  by_cases h0 : 0 ≤ k
  · have hk : k.toNat = j := by
      rw [seqIndex_of h0 h4] at h1
      exact Option.some.inj h1
    exact PySem.W.ki_setAt ho h0 (by omega) (by rw [List.size_toArray, ← hl]; exact h4) (by rw [hk]; exact ⟨_, I', q⟩)
  · have hk : (k + (its.toArray.size : Int)).toNat = j := by
      rw [seqIndex_neg (by omega) h3] at h1
      rw [List.size_toArray, ← hl]
      exact Option.some.inj h1
    exact PySem.W.ki_setBack ho (by omega) (by rw [List.size_toArray, ← hl]; exact h3) (by omega) (by rw [hk]; exact ⟨_, I', q⟩)

theorem slice_bounds (lo hi : Option Int) (n : Nat) : (sliceBounds lo hi none n).1 = ((HT.sIx n 0 lo : Nat) : Int) ∧ (sliceBounds lo hi none n).2.1 = ((HT.sIx n n hi : Nat) : Int) ∧ (sliceBounds lo hi none n).2.2 = 1 := by
  refine ⟨?_, ?_, rfl⟩
  · cases lo with
    | none => simp [sliceBounds, HT.sIx]
    | some i =>
      simp only [sliceBounds, HT.sIx, Option.getD_none, show (1 : Int) > 0 by decide, if_true]
      by_cases h : i < 0
      · simp only [h, if_true] <;> omega
      · simp only [h, if_false] <;> omega
  · cases hi with
    | none => simp [sliceBounds, HT.sIx]
    | some i =>
      simp only [sliceBounds, HT.sIx, Option.getD_none, show (1 : Int) > 0 by decide, if_true]
      by_cases h : i < 0
      · simp only [h, if_true] <;> omega
      · simp only [h, if_false] <;> omega
theorem slicePick_cut (its : List Value) (lo hi : Option Int) : slicePick its.toArray lo hi none = ((its.drop (HT.sIx its.length 0 lo)).take (HT.sIx its.length its.length hi - HT.sIx its.length 0 lo)).toArray := by
  obtain ⟨h1, h2, h3⟩ := slice_bounds lo hi its.toArray.size
  unfold slicePick
  rw [h1, h2, h3]
  simp only [sliceRange_one, pick_run, List.size_toArray] <;> rfl
/-- xs[lo:hi] of a list: a new list -/
def rSlL (K : PySem.W.Frag) : V → Option Int → Option Int → Hp → VK → Prop := fun x lo hi H Q => ∃ a xs, x = .ref a ∧ SqL K H a xs ∧ ∀ p, H p = none → Q (.ref p) (upd H p (.lst (cutV xs lo hi)))
theorem sl_list : SlR X (rSlL X.K) := by
  intro pins s σ H x v vl vu lo hi sl Q I rx hs pl pu h
  obtain ⟨a, xs, rfl, hx, q⟩ := h
  cases rx
  obtain ⟨its, r, ht, hz⟩ := I.list hx
  have hlen := r.length
  refine ⟨"list", _, slot_list_getitem.lookup, ht.isList.typeIs, ?_⟩
  refine wpAny_getItem_list_slice ht.isList hs pl pu .none (by simp) ?_ (by rw [List.size_toArray] <;> omega)
  rw [slicePick_cut, ← hlen]
  refine ⟨.ref s.heap.objs.size, _, I.laid (t' := s.toks) (o := .lst (cutV xs lo hi)) (fun b ob q => Heap.get?_push_of_some _ q) (Nat.le_refl _) ?_, rfl, q _ (I.hok.fresh (Nat.le_refl _))⟩
  exact ⟨Nat.le_trans (cutV_length xs lo hi) hz, _, 0, (r.drop (HT.sIx xs.length 0 lo)).take (HT.sIx xs.length xs.length hi - HT.sIx xs.length 0 lo), Heap.get?_push_size _ rfl⟩

def flatV : V → Bool
  | .non => true
  | .bl _ => true
  | .int _ => true
  | .str _ => true
  | _ => false
/-- == of flat values -/
def eqV : V → V → Bool
  | .non, .non => true
  | .bl a, .bl b => a == b
  | .bl a, .int b => (if a then 1 else 0) == b
  | .int a, .bl b => a == (if b then 1 else 0)
  | .int a, .int b => a == b
  | .str a, .str b => a == b
  | _, _ => false
theorem eqAt_V {A : Around} {s : Shared} {y x : V} {u v : Value} (ry : RelV y u) (rx : RelV x v) (fy : flatV y = true) (fx : flatV x = true) : SeqAt.EqAt A s u v (eqV y x) := by
  cases y with
  | non =>
    cases ry
    cases x with
    | non => cases rx; exact SeqAt.EqAt.same _
    | bl b => cases rx; exact SeqAt.EqAt.none_bool b
    | int b => obtain ⟨t, rfl⟩ := rx; exact SeqAt.EqAt.none_int b t
    | str b => obtain ⟨t, rfl⟩ := rx; exact SeqAt.EqAt.none_str b t
    | _ => exact absurd (show false = true from fx) Bool.false_ne_true
  | bl a =>
    cases ry
    cases x with
    | non => cases rx; exact SeqAt.EqAt.bool_none a
    | bl b => cases rx; exact SeqAt.EqAt.bool_bool a b
    | int b => obtain ⟨t, rfl⟩ := rx; exact SeqAt.EqAt.bool_int a b t
    | str b => obtain ⟨t, rfl⟩ := rx; exact SeqAt.EqAt.bool_str a b t
    | _ => exact absurd (show false = true from fx) Bool.false_ne_true
  | int a =>
    obtain ⟨t', rfl⟩ := ry
    cases x with
    | non => cases rx; exact SeqAt.EqAt.int_none a t'
    | bl b => cases rx; exact SeqAt.EqAt.int_bool a t' b
    | int b => obtain ⟨t, rfl⟩ := rx; exact SeqAt.EqAt.int_int a t' b t
    | str b => obtain ⟨t, rfl⟩ := rx; exact SeqAt.EqAt.int_str a t' b t
    | _ => exact absurd (show false = true from fx) Bool.false_ne_true
  | str a =>
    obtain ⟨t', rfl⟩ := ry
    cases x with
    | non => cases rx; exact SeqAt.EqAt.str_none a t'
    | bl b => cases rx; exact SeqAt.EqAt.str_bool a t' b
    | int b => obtain ⟨t, rfl⟩ := rx; exact SeqAt.EqAt.str_int a t' b t
    | str b => obtain ⟨t, rfl⟩ := rx; exact SeqAt.EqAt.str_str a t' b t
    | _ => exact absurd (show false = true from fx) Bool.false_ne_true
  | _ => exact absurd (show false = true from fy) Bool.false_ne_true
/-- the items' answers, read off the values (a value's own answer does not lean on its token) -/
def eqU (x : V) (u : Value) : Bool := match u with
  | .none => eqV .non x
  | .bool b => eqV (.bl b) x
  | .int i _ => eqV (.int i) x
  | .str z _ => eqV (.str z) x
  | _ => false
theorem eqU_of {x y : V} {u : Value} (r : RelV y u) (f : flatV y = true) : eqU x u = eqV y x := by
  cases y with
  | non => cases r; rfl
  | bl b => cases r; rfl
  | int i => obtain ⟨t, rfl⟩ := r; rfl
  | str z => obtain ⟨t, rfl⟩ := r; rfl
  | _ => exact absurd (show false = true from f) Bool.false_ne_true
theorem any_eqU {x : V} : ∀ {xs : List V} {us : List Value}, Vals xs us → xs.all flatV = true → us.any (eqU x) = xs.any fun y => eqV y x
  | _, _, .nil, _ => rfl
  | y :: xs, u :: us, .cons r t, f => by
    rw [List.all_cons, Bool.and_eq_true] at f
    rw [List.any_cons, List.any_cons, eqU_of r f.1, any_eqU t f.2]
theorem mem_eqAt {A : Around} {s : Shared} {x : V} {v : Value} (rx : RelV x v) (fx : flatV x = true) : ∀ {xs : List V} {us : List Value}, Vals xs us → xs.all flatV = true → ∀ u ∈ us, SeqAt.EqAt A s u v (eqU x u)
  | _, _, .nil, _ => fun u hu => by cases hu
  | y :: xs, u :: us, .cons r t, f => fun u' hu => by
    rw [List.all_cons, Bool.and_eq_true] at f
    rcases List.mem_cons.mp hu with rfl | hu
    · rw [eqU_of r f.1]; exact eqAt_V r rx f.1 fx
    · exact mem_eqAt rx fx t f.2 u' hu
def inV (x : V) (xs : List V) : Bool := xs.any fun y => eqV y x
/-- x in a list or tuple of flat items -/
def rIn (K : PySem.W.Frag) (neg : Bool) : R2 := fun x y H Q => ∃ p xs, y = .ref p ∧ (SqL K H p xs ∨ SqT K H p xs) ∧ flatV x = true ∧ xs.all flatV = true ∧ Q (.bl (if neg then !inV x xs else inV x xs)) H
theorem op_in_seq : OpR X (compareOp .In) (rIn X.K false) := by
  intro pins s σ H x y v u Q I rx ry h
  obtain ⟨p, xs, rfl, hq, fx, fs, q⟩ := h
  cases ry
  rcases hq with hq | hq
  · obtain ⟨its, r, pl, hz⟩ := I.list hq
    refine SeqAt.in_listAt (eqU x) pl.isList (fun w hw => mem_eqAt rx fx r fs w (by simpa using hw)) ⟨.bl _, H, I, rfl, ?_⟩
    rw [show its.toArray.any (eqU x) = its.any (eqU x) by simp, any_eqU r fs]
    exact q
  · obtain ⟨its, r, pl, hz⟩ := I.tuple hq
    refine SeqAt.in_tupleAt (eqU x) pl (fun w hw => mem_eqAt rx fx r fs w (by simpa using hw)) ⟨.bl _, H, I, rfl, ?_⟩
    rw [show its.toArray.any (eqU x) = its.any (eqU x) by simp, any_eqU r fs]
    exact q

theorem call_len_seq : CallR X (.builtin "len") (fun xs H Q => ∃ p ys, xs = [.ref p] ∧ (SqL X.K H p ys ∨ SqT X.K H p ys) ∧ Q (.int ys.length) H) := by
  intro pins s σ H xs us Q I r h
  obtain ⟨p, ys, rfl, hq, q⟩ := h
  obtain ⟨u, rfl, rx⟩ := vals1 r
  cases rx
  have hn := line63
  rcases hq with hq | hq
  · obtain ⟨its, r', pl, hz⟩ := I.list hq
    have hlen := r'.length
    exact Calls.call_len_list pl.isList (by simp only [List.size_toArray] <;> omega) ⟨.int ys.length, H, I.tok _, ⟨s.toks + 1, by rw [List.size_toArray, hlen]⟩, q⟩
  · obtain ⟨its, r', pl, hz⟩ := I.tuple hq
    have hlen := r'.length
    exact len_tuple pl (by simp only [List.size_toArray] <;> omega) ⟨.int ys.length, H, I.tok _, ⟨s.toks + 1, by rw [List.size_toArray, hlen]⟩, q⟩
theorem call_list_of : CallR X (.type "list") (fun xs H Q => ∃ p ys, xs = [.ref p] ∧ (SqL X.K H p ys ∨ SqT X.K H p ys) ∧ ∀ l, H l = none → Q (.ref l) (upd H l (.lst ys))) := by
  intro pins s σ H xs us Q I r h
  obtain ⟨p, ys, rfl, hq, q⟩ := h
  obtain ⟨u, rfl, rx⟩ := vals1 r
  cases rx
  have fin : ∀ (its : List Value), Vals ys its → ys.length ≤ sizeLine → ∀ (h' : Heap) (c' : Nat), (∀ b o', s.heap.get? b = some o' → h'.get? b = some o') →
      h'.get? s.heap.objs.size = some { cls := .type "list", dict := none, data := .seq its.toArray c', slots := #[] } → EP X pins σ Q (.ref s.heap.objs.size) { s with heap := h' } := fun its r' hz h' c' kp e =>
    ⟨.ref s.heap.objs.size, _, I.laid (t' := s.toks) kp (Nat.le_refl _) (show ObjOk X.prog X.w _ h' _ (.lst ys) from ⟨hz, its, c', r', e⟩), rfl, q _ (I.hok.fresh (Nat.le_refl _))⟩
  rcases hq with hq | hq
  · obtain ⟨its, r', pl, hz⟩ := I.list hq
    have hlen := r'.length
    obtain ⟨o, ho, hc, n, hd⟩ := pl.isList
    exact call_list_seq p (.inl rfl) ho hc hd (fun h' c' kp e => fin its r' hz h' c' kp e) (by simp only [List.size_toArray] <;> omega)
  · obtain ⟨its, r', pl, hz⟩ := I.tuple hq
    have hlen := r'.length
    obtain ⟨o, ho, hc, n, hd⟩ := pl
    exact call_list_seq p (.inr rfl) ho hc hd (fun h' c' kp e => fin its r' hz h' c' kp e) (by simp only [List.size_toArray] <;> omega)

/-- the value is of that builtin type -/
def tyV (K : PySem.W.Frag) (T : String) (x : V) (H : Hp) : Prop := match x with
  | .str _ => T = "str"
  | .int _ => T = "int"
  | .ref p => (T = "list" ∧ ∃ xs, SqL K H p xs) ∨ (T = "tuple" ∧ ∃ o, K.lookup p = some o ∧ o.cls = .type "tuple" ∧ o.dict = none) ∨
      (T = "dict" ∧ ((∃ kvs, H p = some (.dK kvs)) ∨ ∃ kvs, H p = some (.dT kvs))) ∨ (T = "set" ∧ ∃ S n, H p = some (.set S n))
  | _ => False
theorem tyV_is {pins : List (Addr × Obj)} {σ : St} {H : Hp} {s : Shared} {T : String} {x : V} {v : Value} (I : Inv X pins σ H s) (r : RelV x v) (ty : tyV X.K T x H) :
    s.TypeIs v T ∧ ∀ a, v = .ref a → ∃ ob, s.heap.get? a = some ob ∧ ob.dict = none := by
  cases x with
  | str z =>
    obtain ⟨t, rfl⟩ := r
    cases (show T = "str" from ty)
    exact ⟨typeIs_str s z t, fun _ e => nomatch e⟩
  | int i =>
    obtain ⟨t, rfl⟩ := r
    cases (show T = "int" from ty)
    exact ⟨typeIs_int s i t, fun _ e => nomatch e⟩
  | ref p =>
    cases r
    rcases ty with ⟨rfl, xs, hq⟩ | ⟨rfl, o, hk, hc, hd⟩ | ⟨rfl, hk⟩ | ⟨rfl, S, n, hk⟩
    · obtain ⟨its, _, pl, _⟩ := I.list hq
      refine ⟨pl.isList.typeIs, fun a e => ?_⟩
      cases e
      obtain ⟨o, n, e, c, hd, _⟩ := pl
      exact ⟨o, e, hd⟩
    · refine ⟨⟨o, I.kIn p o hk, hc⟩, fun a e => ?_⟩
      cases e
      exact ⟨o, I.kIn _ o hk, hd⟩
    · have z : ∃ o, s.heap.get? p = some o ∧ o.ExactDict := by
        rcases hk with ⟨kvs, hk⟩ | ⟨kvs, hk⟩
        · obtain ⟨_, _, _, _, o, _, _, e, ex, _⟩ := I.hok p _ hk
          exact ⟨o, e, ex⟩
        · obtain ⟨_, _, _, _, o, _, _, e, ex, _⟩ := I.hok p _ hk
          exact ⟨o, e, ex⟩
      obtain ⟨o, e, ex⟩ := z
      refine ⟨⟨o, e, ex.1⟩, fun a e2 => ?_⟩
      cases e2
      exact ⟨o, e, ex.2.1⟩
    · obtain ⟨o, _, _, _, e, ex, _⟩ := I.hok p _ hk
      refine ⟨⟨o, e, ex.1⟩, fun a e2 => ?_⟩
      cases e2
      exact ⟨o, e, ex.2.1⟩
  | _ => exact False.elim ty
def tBM (K : PySem.W.Frag) (T : String) (r : V → List V → Hp → VK → Prop) (to : TE) (t : TA) : TE := fun σ H Q => to σ H fun x H1 => tyV K T x H1 ∧ t σ H1 fun xs H2 => r x xs H2 Q
variable {o e : Expr} {es : List Expr} {to : TE} {t : TA} {name : Str} {apos cpos : Pos} {T id : String} {r : V → List V → Hp → VK → Prop}
theorem pe_bm (pa : PlainAttrs T) (slot : Slot T name id) (hty : typeOf (.builtin id) = pure (.type "method_descriptor")) (hm : MtR X id r) (ho : PE X o to) (ha : PA X (e :: es) t)
    (hbase : attributeBase o name X.env (eval o X.env) = eval o X.env := by rfl)
    (hfew : ((backTo cpos (starEach (e :: es) X.env)).all (fun x => !x.1) && (backToKw cpos (keywordEach [] X.env)).all (fun x => x.1.isSome)
      && decide ((e :: es).length + ([] : List Keyword).length + (if ([] : List Keyword).isEmpty then 0 else 1) < 30)) = true := by rfl)
    (hline : (apos.endLine == cpos.line) = true := by rfl) (hs : starEach (e :: es) X.env = (false, eval e X.env) :: starEach es X.env := by rfl) (hplain : (backTo cpos (starEach es X.env)).any (·.1) = false := by rfl) :
    PE X (.Call (.Attribute o name apos) (e :: es) [] cpos) (tBM X.K T r to t) := by
  intro pins s σ H Q I h
  refine wpAny_Call_method_late hbase hfew hline rfl (thn (ho pins s σ H _ I h) fun v s1 ⟨x, H1, I1, r1, ty, q1⟩ => ?_)
  obtain ⟨h1, h2⟩ := tyV_is I1 r1 ty
  refine ⟨T, id, pa, slot, hty, h1, h2, ?_⟩
  have hA := ha cpos pins s1 σ H1 _ I1 q1
  rw [hs] at hA ⊢
  refine Calls.callWith_builtin (by show (false || (backTo cpos (starEach es X.env)).any (·.1)) = false; rw [hplain] <;> rfl) (Calls.evalArgs_plain ?_)
  exact thn hA fun us s2 ⟨vs, H2, I2, r2, q2⟩ => hm pins s2 σ H2 x vs v us Q I2 r1 r2 q2
end
end L2

namespace L2
open PySem PySem.Spec PyProof.Rows

def MtM (X : Cx) (id : String) (r : V → List V → Hp → VK → Prop) : Prop :=
  ∀ (pins : List (Addr × Obj)) (s : Shared) (σ : St) (H : Hp) (x : V) (xs : List V) (v : Value) (us : List Value) (Q : VK), Inv X pins σ H s → RelV x v → Vals xs us → r x xs H Q →
    wpAny (model X.prog X.w) X.A (call (.builtin id) (v :: us)) (EP X pins σ Q) X.xe s

theorem Vals.one : ∀ {x : V} {us : List Value}, Vals [x] us → ∃ u, us = [u] ∧ RelV x u
  | _, _, .cons r .nil => ⟨_, rfl, r⟩
theorem Vals.rep {xs : List V} {us : List Value} (h : Vals xs us) : ∀ k : Nat, Vals (List.replicate k xs).flatten (List.replicate k us).flatten
  | 0 => .nil
  | k + 1 => by
    rw [List.replicate_succ, List.replicate_succ, List.flatten_cons, List.flatten_cons]
    exact Vals.append h (Vals.rep h k)
theorem foldl_rep (its : List Value) : ∀ (k : Nat) (acc : List Value),
    List.foldl (fun x1 x2 => x1 ++ x2) acc.toArray (List.replicate k its.toArray) = (acc ++ (List.replicate k its).flatten).toArray
  | 0, acc => by simp
  | k + 1, acc => by
    have e : acc.toArray ++ its.toArray = (acc ++ its).toArray := by simp
    have e2 : (acc ++ its) ++ (List.replicate k its).flatten = acc ++ (List.replicate (k + 1) its).flatten := by
      rw [List.replicate_succ, List.flatten_cons, List.append_assoc]
    rw [← e2, ← foldl_rep its k (acc ++ its), ← e, List.replicate_succ, List.foldl_cons]

section
variable {X : Cx} {pins : List (Addr × Obj)} {σ : St} {H : Hp} {s : Shared} {l b : Addr} {xs ys zs : List V}

theorem Inv.lset {its its' : List Value} {n : Nat} {f : Array Value → Array Value} {t' : Nat} (I : Inv X pins σ H s) (hH : H l = some (.lst xs))
    (e : s.heap.get? l = some { cls := .type "list", data := .seq its.toArray n }) (hf : f its.toArray = its'.toArray) (hv : Vals ys its') (hz : ys.length ≤ sizeLine) :
    Inv X pins σ (upd H l (.lst ys)) { s with heap := s.heap.update l (Obj.mapSeq f), toks := t' } := by
  have q := PySem.IsL.update e f
  rw [hf] at q
  refine I.write (x := l) (e := l) (by rw [hH]; exact trivial) (.inl rfl) (fun b' u hb hu => (Heap.get?_update_other s.heap (Obj.mapSeq f) (Ne.symm hb)).trans hu) ⟨_, q⟩ ?_
  exact ⟨hz, its', _, hv, q⟩
theorem Inv.lnew {its : List Value} {t' : Nat} (I : Inv X pins σ H s) (hv : Vals ys its) (hz : ys.length ≤ sizeLine) :
    Inv X pins σ (upd H s.heap.objs.size (.lst ys)) { s with heap := s.heap.push { cls := .type "list", data := .seq its.toArray }, toks := t' } :=
  I.laid (fun _ _ q => Heap.get?_push_of_some _ q) (Nat.le_refl _) ⟨hz, its, 0, hv, Heap.get?_push_size _ rfl⟩
theorem Inv.fresh (I : Inv X pins σ H s) : H s.heap.objs.size = none := I.hok.fresh (Nat.le_refl _)
theorem Inv.lstM (I : Inv X pins σ H s) (hH : H l = some (.lst xs)) : xs.length ≤ sizeLine ∧ ∃ (its : List Value) (n : Nat), Vals xs its ∧ xs.length = its.length ∧ s.heap.get? l = some { cls := .type "list", data := .seq its.toArray n } := by
  obtain ⟨z, its, n, r, e⟩ := I.hok l _ hH
  exact ⟨z, its, n, r, r.length, e⟩

theorem notLongL {n : Nat} (h : n ≤ sizeLine) : Builtin.List.listTooLong n = false := by
  unfold Builtin.List.listTooLong
  exact decide_eq_false (by omega)
end

section
variable {X : Cx}

def rAppend : V → List V → Hp → VK → Prop := fun x vs H Q => ∃ l xs y, x = .ref l ∧ vs = [y] ∧ H l = some (.lst xs) ∧ xs.length < sizeLine ∧ Q .non (upd H l (.lst (xs ++ [y])))
theorem mt_append : MtM X "list.append" rAppend := by
  intro pins s σ H x vs v us Q I rx rv h
  obtain ⟨l, xs, y, rfl, rfl, hH, hz, q⟩ := h
  cases rx
  obtain ⟨u, rfl, ru⟩ := rv.one
  obtain ⟨z, its, n, r, hl, e⟩ := I.lstM hH
  refine call_meets F.slot_list_append ⟨_, e, rfl⟩ F.entry_list_append (F.args_list_append_2 _ _) (PySem.list_append l its.toArray n u (by rw [List.size_toArray]; omega)) ⟨e, ?_⟩
  refine ⟨.non, _, I.lset (its' := its ++ [u]) hH e (by simp) (r.append (.cons ru .nil)) ?_, rfl, q⟩
  rw [List.length_append, List.length_singleton]
  omega

def rExtend : V → List V → Hp → VK → Prop := fun x vs H Q => ∃ l b xs zs, x = .ref l ∧ vs = [.ref b] ∧ H l = some (.lst xs) ∧ H b = some (.lst zs) ∧ xs.length + zs.length ≤ sizeLine ∧ Q .non (upd H l (.lst (xs ++ zs)))
theorem mt_extend : MtM X "list.extend" rExtend := by
  intro pins s σ H x vs v us Q I rx rv h
  obtain ⟨l, b, xs, zs, rfl, rfl, hH, hB, hz, q⟩ := h
  cases rx
  obtain ⟨u, rfl, ru⟩ := rv.one
  cases ru
  obtain ⟨z, its, n, r, hl, e⟩ := I.lstM hH
  obtain ⟨z2, its2, n2, r2, hl2, e2⟩ := I.lstM hB
  have hsz : its.toArray.size + its2.toArray.size ≤ sizeLine := by rw [List.size_toArray, List.size_toArray]; omega
  have hlong : ¬ (!its.toArray.isEmpty && Builtin.List.listTooLong (its.toArray.size + its2.toArray.size)) = true := by
    rw [notLongL hsz, Bool.and_false]
    exact Bool.false_ne_true
  refine call_meets F.slot_list_extend ⟨_, e, rfl⟩ F.entry_list_extend (F.args_list_extend_2 _ _)
    (AutoSeq1.list_extend_list_list_0 l its.toArray n b its2.toArray n2 hlong (by rw [List.size_toArray]; omega) (by omega)) ⟨e, e2, ?_⟩
  refine ⟨.non, _, I.lset (its' := its ++ its2) hH e (by simp) (r.append r2) ?_, rfl, q⟩
  rw [List.length_append]
  omega

def rCat : R2 := fun x y H Q => ∃ l b xs zs, x = .ref l ∧ y = .ref b ∧ H l = some (.lst xs) ∧ H b = some (.lst zs) ∧ xs.length + zs.length ≤ sizeLine ∧ ∀ p, H p = none → Q (.ref p) (upd H p (.lst (xs ++ zs)))
theorem op_cat : OpR X (binaryOp .Add) rCat := by
  intro pins s σ H x y v u Q I rx ry h
  obtain ⟨l, b, xs, zs, rfl, rfl, hH, hB, hz, q⟩ := h
  cases rx
  cases ry
  obtain ⟨z, its, n, r, hl, e⟩ := I.lstM hH
  obtain ⟨z2, its2, n2, r2, hl2, e2⟩ := I.lstM hB
  refine PySem.P.add_list e e2 ?_ (by rw [List.size_toArray, List.size_toArray]; omega)
  have ea : its.toArray ++ its2.toArray = (its ++ its2).toArray := by simp
  rw [ea]
  exact ⟨.ref _, _, I.lnew (t' := s.toks) (r.append r2) (by rw [List.length_append]; omega), rfl, q _ I.fresh⟩
/-- a list times an int (a negative one is nothing) -/
def rRep : R2 := fun x y H Q => ∃ l k xs, x = .ref l ∧ y = .int k ∧ H l = some (.lst xs) ∧ -(2 ^ 63) ≤ k ∧ k < 2 ^ 63 ∧ xs.length * k.toNat ≤ sizeLine ∧
  ∀ p, H p = none → Q (.ref p) (upd H p (.lst (List.replicate k.toNat xs).flatten))
theorem len_rep {α : Type} (xs : List α) (k : Nat) : (List.replicate k xs).flatten.length = k * xs.length := by
  induction k with
  | zero => simp
  | succ k ih => rw [List.replicate_succ, List.flatten_cons, List.length_append, ih, Nat.succ_mul, Nat.add_comm]
theorem op_rep : OpR X (binaryOp .Mult) rRep := by
  intro pins s σ H x y v u Q I rx ry h
  obtain ⟨l, k, xs, rfl, rfl, hH, h1, h2, hz, q⟩ := h
  cases rx
  obtain ⟨t, rfl⟩ := ry
  obtain ⟨z, its, n, r, hl, e⟩ := I.lstM hH
  have hlen : its.toArray.size * k.toNat ≤ sizeLine := by rw [List.size_toArray, ← hl]; exact hz
  have hcap : ¬ its.toArray.size * k.toNat > (2 ^ 63 - 1) / 8 := by
    have : (sizeLine : Nat) ≤ (2 ^ 63 - 1) / 8 := by decide
    omega
  have hfit : ¬ (!Builtin.List.listFitsIndex k) = true := by
    rw [fitsIndex_both h1 h2]
    exact Bool.false_ne_true
  have hlong : ¬ Builtin.List.listTooLong (its.toArray.size * k.toNat) = true := by
    rw [notLongL hlen]
    exact Bool.false_ne_true
  have hnew : List.foldl (fun x1 x2 => x1 ++ x2) #[] (List.replicate (if its.toArray.isEmpty = true then 0 else k.toNat) its.toArray) = (List.replicate k.toNat its).flatten.toArray := by
    have f0 : ∀ m : Nat, List.foldl (fun x1 x2 => x1 ++ x2) #[] (List.replicate m its.toArray) = (List.replicate m its).flatten.toArray := fun m => by
      have := foldl_rep its m []
      rw [List.nil_append] at this
      exact this
    rw [f0]
    cases its with
    | nil => simp
    | cons a r' => rw [if_neg (by simp)]
  refine wpAny_binaryOp_repeat_ref (T := "list") (U := "int") (by decide) ⟨_, e, rfl⟩ (fun s' => typeIs_int s' k t) noFill_list_mul F.fills_int_mul F.slot_int_rmul repeat_list F.slot_int_index.lookup
    (call_meets F.slot_int_rmul (typeIs_int s k t) F.entry_int_rmul (F.args_int_rmul_2 _ _) (int___rmul___int_list k t l its.toArray n)
      ⟨e, rfl, ⟨_, e, rfl⟩, call_meets F.slot_list_mul ⟨_, e, rfl⟩ F.entry_list_mul (F.args_list_mul_2 _ _) (AutoListH.list___mul___list_int_3 l its.toArray n k t hfit hcap hlong) ⟨e, ?_⟩⟩)
  rw [hnew]
  exact ⟨.ref _, _, I.lnew (t' := s.toks) (r.rep k.toNat) (by rw [len_rep, Nat.mul_comm]; exact hz), rfl, q _ I.fresh⟩
end

section
variable {prog : Program} {w : World} {A : Around} {E : Value → Shared → Prop} {s : Shared}
set_option maxRecDepth 100000 in
end

section
variable {X : Cx}
end
end L2

namespace L2
open PySem PySem.Spec PyProof.Rows
theorem vals_of_ints : ∀ {us : List Value} {ns : List Int}, IntsAre us ns → Vals (ns.map V.int) us
  | _, _, .nil => by rw [List.map_nil]; exact Paired.nil
  | _, _, .cons n t h => by rw [List.map_cons]; exact Paired.cons (show RelV (V.int n) (Value.int n t) from ⟨t, rfl⟩) (vals_of_ints h)
theorem Vals.bls : ∀ {bs : List Bool} {us : List Value}, Vals (bs.map V.bl) us → us = bs.map Value.bool
  | [], us, h => by
    rw [List.map_nil] at h
    cases h
    rfl
  | b :: bs, us, h => by
    rw [List.map_cons] at h
    cases h with
    | cons r t =>
      cases r
      rw [Vals.bls t, List.map_cons]
theorem Vals.ref1 {a : Addr} {us : List Value} (r : Vals [V.ref a] us) : us = [Value.ref a] := by
  cases r with
  | cons r t =>
    cases t
    cases r
    rfl

section
variable {prog : Program} {w : World} {A : Around} {E : Value → Shared → Prop} {s : Shared} {l : Addr} {its : List Value} {ns : List Int} {Q : Value → Shared → Prop}
end

section
variable {X : Cx}
end

section
variable {X : Cx}
end

section
variable {X : Cx}
end

theorem iter_any {prog : Program} {w : World} {A : Around} {E : Value → Shared → Prop} {s : Shared} {l : Addr} {items : Array Value} {Q : Value → Shared → Prop} (hl : s.heap.IsList l items)
    (h : ∀ s₂ : Shared, s₂ = { s with heap := s.heap.push { cls := .type "list_iterator", data := .fields #[.ref l, .int 0 0] } } →
      (s₂.heap.IsListIter s.heap.objs.size l 0 ∧ s₂.heap.IsList l items) → l ≠ s.heap.objs.size → Q (.ref s.heap.objs.size) s₂) : wpAny (model prog w) A (pyIter (.ref l)) Q E s := by
  have hlt : l < s.heap.objs.size := by obtain ⟨_, e, _⟩ := hl; exact Heap.lt_size e
  exact wpAny_pyIter_list hl (h _ rfl ⟨⟨_, Heap.get?_push_size _ rfl, rfl, rfl⟩, hl.push _⟩ (Nat.ne_of_lt hlt))
theorem truth_bools {prog : Program} {w : World} {A : Around} {bs : List Bool} {its : List Value} (e : its = bs.map Value.bool) :
    TruthOf prog w A (fun i v => its.toArray[i]? = some v) (fun i => bs.getD i false) := fun i v s Q E hv hq => by
  have hv' : its[i]? = some v := by simpa using hv
  rw [e, List.getElem?_map] at hv'
  obtain ⟨b, hb, rfl⟩ := Option.map_eq_some_iff.mp hv'
  have hg : bs.getD i false = b := by rw [List.getD_eq_getElem?_getD, hb] <;> rfl
  have hq' : Q (bs.getD i false) s := hq
  rw [hg] at hq'
  exact wpAny_truthy_bool hq'
theorem any_range : ∀ bs : List Bool, (List.range bs.length).any (fun i => bs.getD i false) = bs.any id
  | [] => rfl
  | b :: bs => by
    rw [List.length_cons, List.range_succ_eq_map, List.any_cons, List.any_map, List.any_cons, ← any_range bs]
    all_goals rfl
section
variable {X : Cx}
def rAny (K : PySem.W.Frag) : List V → Hp → VK → Prop := fun vs H Q => ∃ (a : Addr) (bs : List Bool), vs = [V.ref a] ∧ SqL K H a (bs.map V.bl) ∧ Q (.bl (bs.any id)) H
theorem cr_any (hc : X.calm = true) : CallR X (.builtin "any") (rAny X.K) := by
  intro pins s σ H vs us Q I r h
  obtain ⟨a, bs, rfl, hs, q⟩ := h
  obtain ⟨its, rv, hl, _⟩ := I.list hs
  rw [Vals.ref1 r]
  have hb := rv.bls
  refine call_any_walk (iter_any hl.isList fun s₂ e2 st hne => ?_)
  subst e2
  refine ⟨_, _, _, _, _, _, _, rfl, Walks.list (A := X.A.in1) (I.ok.hd hc) _ a hne its.toArray, st, truth_bools hb, fun h' tk hk => ?_⟩
  refine ⟨.bl _, H, I.kept fun b o eo => hk b o (fun hmem => ?_) (Heap.get?_push_of_some _ eo), ?_, q⟩
  · rcases List.mem_cons.mp hmem with e1 | hmem
    · exact absurd (e1 ▸ Heap.lt_size eo) (Nat.lt_irrefl _)
    · cases hmem
  · show Value.bool _ = Value.bool _
    rw [← any_range, hb, List.size_toArray, List.length_map]
end

mutual
inductive Dp (K : PySem.W.Frag) (H : Hp) : V → PyData → Prop
  | non : Dp K H .non .none
  | bl (b : Bool) : Dp K H (.bl b) (.bool b)
  | int (i : Int) : Dp K H (.int i) (.int i)
  | str (x : Str) : Dp K H (.str x) (.str x)
  | lst {a : Addr} {xs : List V} {ds : List PyData} : SqL K H a xs → DpAll K H xs ds → Dp K H (.ref a) (.list ds)
  | tup {a : Addr} {xs : List V} {ds : List PyData} : SqT K H a xs → DpAll K H xs ds → Dp K H (.ref a) (.tuple ds)
inductive DpAll (K : PySem.W.Frag) (H : Hp) : List V → List PyData → Prop
  | nil : DpAll K H [] []
  | cons {v : V} {vs : List V} {d : PyData} {ds : List PyData} : Dp K H v d → DpAll K H vs ds → DpAll K H (v :: vs) (d :: ds)
end
section
variable {X : Cx} {pins : List (Addr × Obj)} {σ : St} {H : Hp} {s : Shared}
mutual
theorem Dp.reads (I : Inv X pins σ H s) : ∀ (d : PyData) (v : V) (u : Value), Dp X.K H v d → RelV v u → ∃ as, Reads s.heap u d as
  | .none, _, _, h, r => by
    cases h
    cases r
    exact ⟨_, Reads.none⟩
  | .bool b, _, _, h, r => by
    cases h
    cases r
    exact ⟨_, Reads.bool b⟩
  | .int i, _, _, h, r => by
    cases h
    obtain ⟨t, rfl⟩ := r
    exact ⟨_, Reads.int i t⟩
  | .str x, _, _, h, r => by
    cases h
    obtain ⟨t, rfl⟩ := r
    exact ⟨_, Reads.str x t⟩
  | .list ds, _, _, h, r => by
    cases h with
    | lst hs ha =>
      cases r
      obtain ⟨its, rv, ⟨o, n, ho, hc, _, hd⟩, _⟩ := I.list hs
      obtain ⟨as, hr⟩ := Dp.readsAll I ds _ its ha rv
      exact ⟨_, Reads.list ho hc hd hr⟩
  | .tuple ds, _, _, h, r => by
    cases h with
    | tup hs ha =>
      cases r
      obtain ⟨its, rv, ⟨o, ho, hc, n, hd⟩, _⟩ := I.tuple hs
      obtain ⟨as, hr⟩ := Dp.readsAll I ds _ its ha rv
      exact ⟨_, Reads.tuple ho hc hd hr⟩
  | .dict _, _, _, h, _ => by cases h
theorem Dp.readsAll (I : Inv X pins σ H s) : ∀ (ds : List PyData) (vs : List V) (us : List Value), DpAll X.K H vs ds → Vals vs us → ∃ as, ReadsAll s.heap us ds as
  | [], _, _, h, r => by
    cases h
    cases r
    exact ⟨_, ReadsAll.nil⟩
  | d :: ds, _, _, h, r => by
    cases h with
    | cons h1 h2 =>
      cases r with
      | cons r1 r2 =>
        obtain ⟨as, q1⟩ := Dp.reads I d _ _ h1 r1
        obtain ⟨bs, q2⟩ := Dp.readsAll I ds _ _ h2 r2
        exact ⟨_, ReadsAll.cons q1 q2⟩
end
end
section
variable {X : Cx}
def rEqD (K : PySem.W.Frag) : R2 := fun x y H Q => ∃ d e, Dp K H x d ∧ Dp K H y e ∧ SeqAt.shaped d = true ∧ SeqAt.shaped e = true ∧ Q (.bl (PyData.eqv d e)) H
def rNeD (K : PySem.W.Frag) : R2 := fun x y H Q => ∃ d e, Dp K H x d ∧ Dp K H y e ∧ SeqAt.shaped d = true ∧ SeqAt.shaped e = true ∧ Q (.bl (!PyData.eqv d e)) H
theorem op_eqD (hu : X.A.units + 64 < cLine) : OpR X (compareOp .Eq) (rEqD X.K) := by
  intro pins s σ H x y v u Q I rx ry h
  obtain ⟨d, e, hd, he, sd, se, q⟩ := h
  obtain ⟨as, r1⟩ := Dp.reads I d x v hd rx
  obtain ⟨bs, r2⟩ := Dp.reads I e y u he ry
  exact SeqAt.compareEq_shaped r1 r2 sd se hu ⟨.bl _, H, I, rfl, q⟩
theorem op_neD (hu : X.A.units + 64 < cLine) : OpR X (compareOp .NotEq) (rNeD X.K) := by
  intro pins s σ H x y v u Q I rx ry h
  obtain ⟨d, e, hd, he, sd, se, q⟩ := h
  obtain ⟨as, r1⟩ := Dp.reads I d x v hd rx
  obtain ⟨bs, r2⟩ := Dp.reads I e y u he ry
  exact SeqAt.compareNe_shaped r1 r2 sd se hu ⟨.bl _, H, I, rfl, q⟩
end
end L2

namespace L2
open PySem PySem.Spec PyProof.Rows
abbrev CellAt (h : Heap) (c : Addr) (v : Option Value) : Prop := h.IsCell c v
def relS (scope sc : Scope) : Scope :=
  { scope with names := scope.names.map fun (n, k) => if (k == .free && sc.kind == .function && sc.names.lookup n == some .cell) then (n, .cell) else (n, k) }

def cloFrom (cells : List (Str × Addr)) : List (Str × NameKind) → List (Str × Addr) → List (Str × Addr)
  | [], acc => acc
  | (n, k) :: r, acc => if k == .free then cloFrom cells r ((n, (cells.lookup n).getD 0) :: acc) else cloFrom cells r acc

theorem closure_loop (env : Env) (f : Str × NameKind → List (Str × Addr) → Sem (ForInStep (List (Str × Addr))))
    (hf : ∀ n k c, f (n, k) c = if k == .free then (do let a ← cellOf env n; pure (.yield ((n, a) :: c))) else pure (.yield c)) :
    ∀ (names : List (Str × NameKind)) (acc : List (Str × Addr)), (∀ y ∈ names, y.2 = .free → ∃ c, env.cells.lookup y.1 = some c) → forIn names acc f = pure (cloFrom env.cells names acc)
  | [], acc, _ => by rw [List.forIn_nil]; rfl
  | (n, k) :: r, acc, h => by
    rw [List.forIn_cons, hf]
    have ih := fun acc => closure_loop env f hf r acc fun y hy => h y (List.mem_cons_of_mem _ hy)
    unfold cloFrom
    by_cases hk : (k == NameKind.free) = true
    · rw [if_pos hk, if_pos hk]
      obtain ⟨c, hc⟩ := h (n, k) List.mem_cons_self (by simpa using hk)
      have e : cellOf env n = pure c := by unfold cellOf; rw [hc]
      rw [e]
      have e2 : (env.cells.lookup n).getD 0 = c := by rw [hc]; rfl
      rw [e2]
      exact ih _
    · rw [if_neg hk, if_neg hk]
      exact ih _
theorem closure_ok {scope : Scope} {env : Env} (h : ∀ y ∈ scope.names, y.2 = .free → ∃ c, env.cells.lookup y.1 = some c) : closureFor scope env = pure (cloFrom env.cells scope.names []) := by
  simp only [closureFor]
  rw [closure_loop env _ (fun n k c => rfl) scope.names [] h]
  rfl

theorem mem_lookup {α : Type} : ∀ {l : List (Str × α)} {n : Str} {c : α}, (n, c) ∈ l → ∃ c', l.lookup n = some c'
  | (k, v) :: r, n, c, h => by
    rw [List.lookup_cons]
    cases hb : n == k with
    | true => exact ⟨_, rfl⟩
    | false =>
      rcases List.mem_cons.mp h with e | h
      · cases e; simp at hb
      · exact mem_lookup h

theorem cloFrom_mem {cells : List (Str × Addr)} : ∀ {names : List (Str × NameKind)} {acc : List (Str × Addr)} {n : Str} {c : Addr}, (n, c) ∈ cloFrom cells names acc → (n, c) ∈ acc ∨ ((n, .free) ∈ names ∧ c = (cells.lookup n).getD 0)
  | [], _, _, _, h => .inl h
  | (m, k) :: r, acc, n, c, h => by
    unfold cloFrom at h
    split at h
    · rename_i hk
      have hk : k = .free := by simpa using hk
      rcases cloFrom_mem h with h | ⟨h1, h2⟩
      · rcases List.mem_cons.mp h with e | h
        · cases e; exact .inr ⟨hk ▸ List.mem_cons_self, rfl⟩
        · exact .inl h
      · exact .inr ⟨List.mem_cons_of_mem _ h1, h2⟩
    · rcases cloFrom_mem h with h | ⟨h1, h2⟩
      · exact .inl h
      · exact .inr ⟨List.mem_cons_of_mem _ h1, h2⟩
theorem cloFrom_acc {cells : List (Str × Addr)} : ∀ {names : List (Str × NameKind)} {acc : List (Str × Addr)} {p : Str × Addr}, p ∈ acc → p ∈ cloFrom cells names acc
  | [], _, _, h => h
  | (m, k) :: r, acc, p, h => by
    unfold cloFrom
    split
    · exact cloFrom_acc (List.mem_cons_of_mem _ h)
    · exact cloFrom_acc h
theorem cloFrom_has {cells : List (Str × Addr)} : ∀ {names : List (Str × NameKind)} {acc : List (Str × Addr)} {n : Str}, (n, .free) ∈ names → (n, (cells.lookup n).getD 0) ∈ cloFrom cells names acc
  | (m, k) :: r, acc, n, h => by
    unfold cloFrom
    rcases List.mem_cons.mp h with e | h
    · cases e
      exact cloFrom_acc List.mem_cons_self
    · split
      · exact cloFrom_has h
      · exact cloFrom_has h

theorem cells_mem : ∀ {names : List (Str × NameKind)} {h : Heap} {acc : List (Str × Addr)} {x : Str} {c : Addr}, (x, c) ∈ cellsFrom h.objs.size names acc →
    (x, c) ∈ acc ∨ ((x, .cell) ∈ names ∧ h.objs.size ≤ c ∧ CellAt (pushCells h names) c none)
  | [], _, _, _, _, h => .inl h
  | (n, k) :: r, h, acc, x, c, hm => by
    unfold cellsFrom at hm
    unfold pushCells
    split at hm
    · rename_i hk
      rw [if_pos hk]
      have hk : k = .cell := by simpa using hk
      rw [← Heap.size_push h { cls := .type "cell", data := .cell none }] at hm
      rcases cells_mem hm with hm | ⟨h1, h2, h3⟩
      · rcases List.mem_cons.mp hm with e | hm
        · cases e
          exact .inr ⟨hk ▸ List.mem_cons_self, Nat.le_refl _, _, pushCells_keeps r _ _ _ (Heap.get?_push_size _ rfl), rfl⟩
        · exact .inl hm
      · rw [Heap.size_push] at h2
        exact .inr ⟨List.mem_cons_of_mem _ h1, Nat.le_of_succ_le h2, h3⟩
    · rename_i hk
      rw [if_neg hk]
      rcases cells_mem hm with hm | ⟨h1, h2, h3⟩
      · exact .inl hm
      · exact .inr ⟨List.mem_cons_of_mem _ h1, h2, h3⟩
theorem cells_acc : ∀ {names : List (Str × NameKind)} {n : Nat} {acc : List (Str × Addr)} {p : Str × Addr}, p ∈ acc → p ∈ cellsFrom n names acc
  | [], _, _, _, h => h
  | (m, k) :: r, n, acc, p, h => by
    unfold cellsFrom
    split
    · exact cells_acc (List.mem_cons_of_mem _ h)
    · exact cells_acc h
theorem cells_has : ∀ {names : List (Str × NameKind)} {n : Nat} {acc : List (Str × Addr)} {x : Str}, (x, .cell) ∈ names → ∃ c, (x, c) ∈ cellsFrom n names acc
  | (m, k) :: r, n, acc, x, h => by
    unfold cellsFrom
    rcases List.mem_cons.mp h with e | h
    · cases e
      exact ⟨n, cells_acc List.mem_cons_self⟩
    · split
      · exact cells_has h
      · exact cells_has h
theorem cells_inj : ∀ {names : List (Str × NameKind)} {h : Heap} {acc : List (Str × Addr)} {x y : Str} {c : Addr}, (∀ p ∈ acc, p.2 < h.objs.size) → (∀ x y c, (x, c) ∈ acc → (y, c) ∈ acc → x = y) →
    (x, c) ∈ cellsFrom h.objs.size names acc → (y, c) ∈ cellsFrom h.objs.size names acc → x = y
  | [], _, _, _, _, _, _, hi, h1, h2 => hi _ _ _ h1 h2
  | (n, k) :: r, h, acc, x, y, c, hl, hi, h1, h2 => by
    unfold cellsFrom at h1 h2
    split at h1
    · rename_i hk
      rw [if_pos hk] at h2
      rw [← Heap.size_push h { cls := .type "cell", data := .cell none }] at h1 h2
      refine cells_inj (h := h.push _) (fun p hp => ?_) (fun x y c a b => ?_) h1 h2
      · rw [Heap.size_push]
        rcases List.mem_cons.mp hp with rfl | hp
        · exact Nat.lt_succ_self _
        · exact Nat.lt_succ_of_lt (hl p hp)
      · rcases List.mem_cons.mp a with e | a <;> rcases List.mem_cons.mp b with e' | b
        · cases e; cases e'; rfl
        · cases e; exact absurd (hl _ b) (Nat.lt_irrefl _)
        · cases e'; exact absurd (hl _ a) (Nat.lt_irrefl _)
        · exact hi _ _ _ a b
    · rename_i hk
      rw [if_neg hk] at h2
      exact cells_inj hl hi h1 h2

theorem newEnv_comp {M : Model} {A : Around} {E : Value → Shared → Prop} {s : Shared} {scope : Scope} {globals : Addr} {closure : List (Str × Addr)} {qual : Str} {func : Option Addr} {code : Value} {around : Env} {builtins : Addr} {Q : Env → Shared → Prop}
    (h : Q (newEnv scope s.heap.objs.size globals (cellsFrom (s.heap.objs.size + 1) scope.names closure) qual func code (some around) builtins)
      { s with heap := pushCells (s.heap.push { cls := .type "dict", data := .dict #[] }) scope.names }) :
    wpAny M A (newFunctionEnv scope globals closure [] qual func code (some around) builtins) Q E s := by
  simp only [newFunctionEnv, Option.isSome_some, if_true]
  refine wpAny_bind (wpAny_alloc ?_)
  refine wpAny_bind (wpAny_layCells _ (fun n k c => rfl) scope.names closure _ _ ?_)
  rw [show ({ s with heap := s.heap.push { cls := .type "dict", data := .dict #[] } } : Shared).heap.objs.size = s.heap.objs.size + 1 from Heap.size_push ..]
  rw [List.forIn_nil]
  exact wpAny_bind (wpAny_pure (wpAny_pure h))

/-- every name of the written scope, in the scope that runs -/
theorem lookup_relS {sc : Scope} : ∀ {names : List (Str × NameKind)} {x : Str} {k : NameKind},
    (names.map fun (n, k) => if (k == NameKind.free && sc.kind == .function && sc.names.lookup n == some .cell) then (n, NameKind.cell) else (n, k)).lookup x = some k →
    ∃ k', names.lookup x = some k' ∧ (k = k' ∨ (k' = .free ∧ k = .cell))
  | [], _, _, h => by simp at h
  | (n, k₀) :: r, x, k, h => by
    have ih := @lookup_relS sc r x k
    have h' : List.lookup x ((if (k₀ == NameKind.free && sc.kind == .function && sc.names.lookup n == some .cell) = true then (n, NameKind.cell) else (n, k₀)) :: (r.map _)) = some k := h
    cases hx : x == n with
    | true =>
      simp only [List.lookup_cons, hx]
      by_cases hc : (k₀ == NameKind.free && sc.kind == .function && sc.names.lookup n == some .cell) = true
      · rw [if_pos hc] at h'
        simp only [List.lookup_cons, hx] at h'
        cases h'
        simp only [Bool.and_eq_true, beq_iff_eq] at hc
        exact ⟨k₀, rfl, .inr ⟨hc.1.1, rfl⟩⟩
      · rw [if_neg hc] at h'
        simp only [List.lookup_cons, hx] at h'
        cases h'
        exact ⟨_, rfl, .inl rfl⟩
    | false =>
      simp only [List.lookup_cons, hx]
      by_cases hc : (k₀ == NameKind.free && sc.kind == .function && sc.names.lookup n == some .cell) = true
      · rw [if_pos hc] at h'
        simp only [List.lookup_cons, hx] at h'
        exact ih h'
      · rw [if_neg hc] at h'
        simp only [List.lookup_cons, hx] at h'
        exact ih h'


/-- the names of a comprehension's block: its own (with their places in N), or captured -/
structure BlkOk (N : List Str) (sc scope : Scope) (own : List (Str × Nat)) : Prop where
  kind : scope.kind = .function
  uniq : ∀ y ∈ scope.names, scope.names.lookup y.1 = some y.2
  ix : ∀ p ∈ own, N[p.2]? = some p.1
  free : ∀ y ∈ scope.names, y.2 = .free → sc.names.lookup y.1 = some .cell ∨ sc.names.lookup y.1 = some .free
  own : ∀ y ∈ scope.names, y.2 = .local ∨ y.2 = .cell → y.1 ∈ own.map (·.1) ∨ y.1 ∉ N
/-- the slots of the block's own names forgotten -/
def wipe (σ : St) : List Nat → St
  | [] => σ
  | v :: vs => (wipe σ vs).set v none
theorem wipe_length (σ : St) : ∀ vs : List Nat, (wipe σ vs).length = σ.length
  | [] => rfl
  | v :: vs => by unfold wipe; rw [List.length_set, wipe_length σ vs]
theorem wipe_some {σ : St} {i : Nat} {x : V} : ∀ {vs : List Nat}, (wipe σ vs)[i]? = some (some x) → σ[i]? = some (some x) ∧ i ∉ vs
  | [], h => ⟨h, by simp⟩
  | v :: vs, h => by
    unfold wipe at h
    by_cases hi : v = i
    · subst hi
      by_cases hv : v < (wipe σ vs).length
      · rw [List.getElem?_set_self hv] at h; cases h
      · rw [List.getElem?_eq_none (by simpa using hv)] at h; cases h
    · rw [List.getElem?_set_ne hi] at h
      obtain ⟨h1, h2⟩ := wipe_some h
      exact ⟨h1, by simp only [List.mem_cons, not_or]; exact ⟨fun e => hi e.symm, h2⟩⟩

/-- the context of a block that starts at s, its iterator's objects at fp -/
abbrev Cx.blk (X : Cx) (s : Shared) (H : Hp) (scope : Scope) (cenv : Env) (fp : List Addr) : Cx := { X with s_0 := s, H_0 := H, env := cenv, outer := X.stack, ex := fp, fn := fun x => scope.names.lookup x == some .cell, pn := [], xe := fun _ _ => False }
section
variable {X : Cx} {pins : List (Addr × Obj)} {σ : St} {H : Hp} {s : Shared}
theorem block_start {scope : Scope} {own : List (Str × Nat)} {fp : List Addr} (I : Inv X pins σ H s) (ok : BlkOk X.N X.env.scope scope own) (hN : X.N.Nodup) (hfp : ∀ b ∈ fp, FpOk X pins H b ∧ b < s.heap.objs.size) :
    Inv (X.blk s H scope (compEnvC scope (cellsFrom (s.heap.objs.size + 1) scope.names (cloFrom X.env.cells scope.names [])) s.heap.objs.size X.env) fp) [] (wipe σ (own.map (·.2))) H { s with heap := pushCells (s.heap.push { cls := .type "dict", data := .dict #[] }) scope.names } := by
  have hfree : ∀ y ∈ scope.names, y.2 = .free → ∃ c, X.env.cells.lookup y.1 = some c := fun y hy e => by
    rcases ok.free y hy e with k | k
    · exact I.ok.has _ (.inl k)
    · exact I.ok.has _ (.inr k)
  generalize hcenv : compEnvC scope (cellsFrom (s.heap.objs.size + 1) scope.names (cloFrom X.env.cells scope.names [])) s.heap.objs.size X.env = cenv
  have kp : ∀ b o, s.heap.get? b = some o → (pushCells (s.heap.push { cls := .type "dict", data := .dict #[] }) scope.names).get? b = some o := fun b o e => pushCells_keeps _ _ _ _ (Heap.get?_push_of_some _ e)
  have hL : cenv.locals = s.heap.objs.size := by rw [← hcenv]; rfl
  have hcl : cenv.cells = cellsFrom (s.heap.objs.size + 1) scope.names (cloFrom X.env.cells scope.names []) := by rw [← hcenv]; rfl
  have hsc : cenv.scope = relS scope X.env.scope := by rw [← hcenv]; rfl
  rw [← Heap.size_push s.heap { cls := .type "dict", data := .dict #[] }] at hcl
  have cm : ∀ {y c}, (y, c) ∈ cloFrom X.env.cells scope.names [] → X.env.cells.lookup y = some c ∧ c < s.heap.objs.size := fun {y c} hm => by
    rcases cloFrom_mem hm with hm | ⟨h1, rfl⟩
    · cases hm
    · obtain ⟨c, hc⟩ := hfree _ h1 rfl
      rw [hc]
      obtain ⟨w, z⟩ := I.cell _ _ hc
      exact ⟨rfl, z.lt⟩
  have mem : ∀ {y c}, cenv.cells.lookup y = some c → (X.env.cells.lookup y = some c ∧ c < s.heap.objs.size) ∨ (s.heap.objs.size + 1 ≤ c ∧ CellAt (pushCells (s.heap.push { cls := .type "dict", data := .dict #[] }) scope.names) c none) := fun {y c} e => by
    rw [hcl] at e
    rcases cells_mem (PySem.mem_of_lookup e) with hm | ⟨_, h2, h3⟩
    · exact .inl (cm hm)
    · rw [Heap.size_push] at h2; exact .inr ⟨h2, h3⟩
  have look : ∀ {y}, scope.names.lookup y = some .free → ∃ c, cenv.cells.lookup y = some c ∧ X.env.cells.lookup y = some c := fun {y} hl => by
    have hy : (y, NameKind.free) ∈ scope.names := PySem.mem_of_lookup hl
    obtain ⟨c', e'⟩ := mem_lookup (cells_acc (names := scope.names) (n := (s.heap.push { cls := .type "dict", data := .dict #[] }).objs.size) (cloFrom_has (cells := X.env.cells) (acc := []) hy))
    rw [← hcl] at e'
    refine ⟨c', e', ?_⟩
    rw [hcl] at e'
    rcases cells_mem (PySem.mem_of_lookup e') with hm | ⟨h1, _, _⟩
    · exact (cm hm).1
    · have := ok.uniq _ h1
      rw [hl] at this; cases this
  have okB : (X.blk s H scope cenv fp).Ok := by
    refine ⟨I.ok.mod, by show cenv.scope.kind = _; rw [hsc]; exact ok.kind, by show cenv.globals = _; rw [← hcenv]; exact I.ok.glob, by show cenv.builtins = _; rw [← hcenv]; exact I.ok.blt, by show s.heap.objs.size ≤ cenv.locals; rw [hL]; exact Nat.le_refl _,
      fun y z c e1 e2 => ?_, fun y hy => ?_, fun y c z e => ?_, I.ok.hd, I.ok.frames, .inl rfl, fun b hb => ⟨?_, fun y c e z => ?_⟩, I.bs, Nat.le_trans I.ok.bsz I.sz, fun b o e hb => ?_, fun b hb z => ?_, I.stack, I.stkFree⟩
    · have e1 : cenv.cells.lookup y = some c := e1
      have e2 : cenv.cells.lookup z = some c := e2
      rw [hcl] at e1 e2
      refine cells_inj (fun p hp => ?_) (fun y z c a b => I.ok.inj y z c (cm a).1 (cm b).1) (PySem.mem_of_lookup e1) (PySem.mem_of_lookup e2)
      rw [Heap.size_push]
      exact Nat.lt_succ_of_lt (cm (y := p.1) (c := p.2) hp).2
    · show ∃ c, cenv.cells.lookup y = some c
      have key : ∀ k, cenv.kindOf y = some k → (k = .cell ∨ k = .free) → ∃ c, cenv.cells.lookup y = some c := fun k hk hk' => by
        unfold Env.kindOf at hk
        rw [hsc] at hk
        obtain ⟨k', e, r⟩ := lookup_relS hk
        have : k' = .cell ∨ k' = .free := by
          rcases r with rfl | ⟨rfl, _⟩
          · exact hk'
          · exact .inr rfl
        rcases this with rfl | rfl
        · obtain ⟨c, hm⟩ := cells_has (n := (s.heap.push { cls := .type "dict", data := .dict #[] }).objs.size) (acc := cloFrom X.env.cells scope.names []) (PySem.mem_of_lookup e)
          obtain ⟨c', e'⟩ := mem_lookup hm
          exact ⟨c', by rw [hcl]; exact e'⟩
        · obtain ⟨c, h1, _⟩ := look e
          exact ⟨c, h1⟩
      rcases hy with hy | hy
      · exact key _ hy (.inl rfl)
      · exact key _ hy (.inr rfl)
    · have z : (scope.names.lookup y == some NameKind.cell) = true := z
      have z : scope.names.lookup y = some .cell := by simpa using z
      have e : cenv.cells.lookup y = some c := e
      rw [hcl] at e
      rcases cells_mem (PySem.mem_of_lookup e) with hm | ⟨_, h2, _⟩
      · rcases cloFrom_mem hm with hm | ⟨h1, _⟩
        · cases hm
        · have q := ok.uniq _ h1
          rw [z] at q; cases q
      · rw [Heap.size_push] at h2
        exact Nat.le_of_succ_le h2
    · show b ≠ cenv.locals
      rw [hL]; exact Nat.ne_of_lt (hfp b hb).2
    · have e : cenv.cells.lookup y = some c := e
      rcases mem e with ⟨h1, _⟩ | ⟨h1, _⟩
      · exact (hfp b hb).1.2.2.2.2.1 y c h1 z
      · have h2 : s.heap.objs.size + 1 ≤ b := by rw [← z]; exact h1
        exact absurd (Nat.lt_of_lt_of_le (hfp b hb).2 (Nat.le_of_succ_le h2)) (Nat.lt_irrefl _)
    · rcases (hfp b hb).1.2.2.2.1 with z | z
      · exact I.ok.noex b o e z
      · exact absurd (Nat.lt_of_lt_of_le (Heap.lt_size e) (Nat.le_trans I.ok.bsz z)) (Nat.lt_irrefl _)
    · rcases List.mem_cons.mp (I.stkSub b z) with z | z
      · exact (hfp b hb).1.2.1 z
      · exact (hfp b hb).1.2.2.1 z
  refine ⟨okB, rfl, I.bare, Un.kept kp, ⟨fun _ => none, ?_, fun i y av e1 e2 e3 => ?_⟩, fun y c e => ?_, ?_, fun y c e => ?_, fun p hp => ?_, I.hok.kept kp, by rw [wipe_length]; exact I.len⟩
  · show Heap.Ns _ cenv.locals _
    rw [hL]
    exact Heap.Ns.keeps (Heap.Ns.new ..) fun b o e => pushCells_keeps _ _ _ _ e
  · obtain ⟨e2, hne⟩ := wipe_some e2
    have hfr : scope.names.lookup y = some .free ∧ (cenv.kindOf y = some .cell ∨ cenv.kindOf y = some .free) := by
      have key : ∀ k, cenv.scope.names.lookup y = some k → k = .local ∨ k = .cell ∨ k = .free → scope.names.lookup y = some .free ∧ (cenv.kindOf y = some .cell ∨ cenv.kindOf y = some .free) := fun k hk hk' => by
        have hk0 := hk
        rw [hsc] at hk
        obtain ⟨k', e, r⟩ := lookup_relS hk
        have no : ¬ (k' = .local ∨ k' = .cell) := fun hh => by
          rcases ok.own _ (PySem.mem_of_lookup e) hh with e' | e'
          · obtain ⟨p, hp, hpy⟩ := List.mem_map.mp e'
            have e3 := ok.ix p hp
            have : p.1 = y := hpy
            rw [this] at e3
            exact hne (List.mem_map.mpr ⟨p, hp, nodup_ix hN e3 e1⟩)
          · exact e' (List.mem_of_getElem? e1)
        rcases r with rfl | ⟨rfl, rfl⟩
        · rcases hk' with rfl | rfl | rfl
          · exact absurd (.inl rfl) no
          · exact absurd (.inr rfl) no
          · exact ⟨e, .inr hk0⟩
        · exact ⟨e, .inl hk0⟩
      have e3 : Vis cenv.scope y := e3
      rcases e3 with e3 | e3 | e3
      · exact key _ e3 (.inl rfl)
      · exact key _ e3 (.inr (.inl rfl))
      · exact key _ e3 (.inr (.inr rfl))
    obtain ⟨m, hn, hl⟩ := I.loc
    have hvis : Vis X.env.scope y := (ok.free _ (PySem.mem_of_lookup hfr.1) rfl).elim (fun k => .inr (.inl k)) (fun k => .inr (.inr k))
    obtain ⟨w, r, q⟩ := hl i y av e1 e2 hvis
    refine ⟨w, r, .inr ⟨hfr.2, ?_⟩⟩
    obtain ⟨c, h1, h2⟩ := look hfr.1
    rcases q with ⟨k, _⟩ | ⟨_, c', e', z⟩
    · have k : X.env.scope.names.lookup y = some .local := k
      rcases ok.free _ (PySem.mem_of_lookup hfr.1) rfl with k' | k' <;> rw [show X.env.scope.names.lookup y = _ from k'] at k <;> cases k
    · rw [h2] at e'; cases e'
      exact ⟨c, h1, z.keeps kp⟩
  · have e : cenv.cells.lookup y = some c := e
    rcases mem e with ⟨h1, _⟩ | ⟨_, z⟩
    · obtain ⟨w, z⟩ := I.cell y c h1
      exact ⟨w, z.keeps kp⟩
    · exact ⟨_, z⟩
  · show H cenv.locals = none
    rw [hL]; exact I.hok.fresh (Nat.le_refl _)
  · have e : cenv.cells.lookup y = some c := e
    rcases mem e with ⟨h1, _⟩ | ⟨h1, _⟩
    · exact I.freeC y c h1
    · exact I.hok.fresh (Nat.le_of_succ_le h1)
  · exact absurd (show p ∈ ([] : List (Addr × Obj)) ++ [] from hp) (by simp)

/-- an item appended to a tracked list -/
theorem app_ok {E : Value → Shared → Prop} {D : Addr} {xs : List V} {y : V} {v : Value} {Q : Value → Shared → Prop} (I : Inv X pins σ H s) (hD : H D = some (.lst xs)) (hz : xs.length < sizeLine) (r : RelV y v)
    (h : ∀ s', Inv X pins σ (upd H D (.lst (xs ++ [y]))) s' → Q .none s') : wpAny (model X.prog X.w) X.A (call (.builtin "list.append") [.ref D, v]) Q E s := by
  obtain ⟨hz', its, n, ri, e⟩ := I.hok D _ hD
  have hl := ri.length
  refine append_at (hsz := by rw [List.size_toArray]; omega) e fun h' sb ho' => ?_
  refine h { s with heap := h' } (I.write (t' := s.toks) (by rw [hD]; trivial) (.inl rfl) (fun b u hb q => (sb.2 b hb).trans q) ⟨_, ho'⟩ ⟨by rw [List.length_append]; exact hz, its ++ [v], n + 1, ri.append (.cons r .nil), ?_⟩)
  rw [ho']
  simp

/-- a clause's tests -/
def PTs (X : Cx) (ifs : List Expr) (t : TT) : Prop :=
  ∀ (pins : List (Addr × Obj)) (s : Shared) (σ : St) (H : Hp) (Q : Bool → Hp → Prop), Inv X pins σ H s → t σ H Q →
    wpAny (model X.prog X.w) X.A (forIn ifs true fun c r => if r = true then do let ok ← isTrue c X.env (eval c X.env); pure (ForInStep.yield ok) else pure (ForInStep.yield r)) (TP X pins σ Q) X.xe s
def tYes : TT := fun _ H Q => Q true H
theorem pts_nil : PTs X [] tYes := fun _ _ _ H _ I h => wpAny_tests_nil ⟨H, I, h⟩
end

theorem thnF {α : Type} {t : Sem α} {Q Q' : α → Shared → Prop} {M : Model} {A : Around} {E : Value → Shared → Prop} {s : Shared} (h : wpAny M A t Q (fun _ _ => False) s) (hQ : ∀ a s, Q a s → Q' a s) : wpAny M A t Q' E s := wpAny_mono h hQ fun _ _ z => False.elim z

/-- the loop of a list comprehension's block, the target of any form (codeAny_compLoop_tests asks a target that no tuple goes to; statement and proof follow it, PyProof/CompMap.lean:41-61, with the step letOwnedTupleGo kept) -/
theorem compLoop_any {prog : Program} {w : World} {A : Around} {R : Result → Shared → Prop} {s : Shared} {elt target iter : Expr} {ifs : List Expr} {scope : Scope} {pos : Pos} {it acc : Value} {env : Env} (I : Nat → Shared → Prop)
    (turn : ∀ n s, I n s → wpAny (model prog w) A (pyNext it) (fun r s₁ => match r with
      | none => R (.ok .next) s₁
      | some v => wpAny (model prog w) A (letOwnedTupleGo target it v) (fun _ s₁' => wpAny (model prog w) A (assign target env v) (fun _ s₂ =>
          wpAny (model prog w) A (forIn ifs true fun c r => if r = true then do let ok ← isTrue c env (eval c env); pure (ForInStep.yield ok) else pure (ForInStep.yield r)) (fun ok s₃ =>
            if ok = true then wpAny (model prog w) A (eval elt env) (fun x s₄ =>
              wpAny (model prog w) A (call (.builtin "list.append") [acc, x]) (fun _ s₅ => ∃ m, m < n ∧ I m s₅) (notedBy (model prog w) A env fun e s' => R (.error e) s') s₄) (notedBy (model prog w) A env fun e s' => R (.error e) s') s₃
            else ∃ m, m < n ∧ I m s₃) (notedBy (model prog w) A env fun e s' => R (.error e) s') s₂) (notedBy (model prog w) A env fun e s' => R (.error e) s') s₁') (notedBy (model prog w) A env fun e s' => R (.error e) s') s₁) (notedBy (model prog w) A env fun e s' => R (.error e) s') s)
    (n : Nat) (h : I n s) :
    codeAny (model prog w) A (.compLoop (.ListComp elt [⟨target, iter, ifs, 0⟩] scope pos) 0 it acc env) R s := by
  refine codeAny_loop rfl I (fun n s hI => ?_) n h
  show wpAny _ A ((compTurn (.ListComp elt [⟨target, iter, ifs, 0⟩] scope pos) 0 it acc env).onRaise (fun x => do noteFrame x env; theTreesLotGoes x)) _ _ s
  refine wpAny_noted ?_
  rw [compTurn_list]
  refine wpAny_bind (wpAny_standAt (wpAny_bind (wpAny_mono (turn n s hI) (fun r s₁ h₁ => ?_) fun _ _ h' => h')))
  cases r with
  | none => exact wpAny_pure h₁
  | some v =>
    refine wpAny_bind (wpAny_mono h₁ (fun _ s₁' h₁' => ?_) fun _ _ h' => h')
    refine wpAny_bind (wpAny_mono h₁' (fun _ s₂ h₂ => wpAny_bind (wpAny_mono h₂ (fun ok s₃ h₃ => ?_) fun _ _ h' => h')) fun _ _ h' => h')
    cases ok with
    | false => exact wpAny_pure ⟨rfl, h₃⟩
    | true =>
      exact wpAny_bind (wpAny_bind (wpAny_mono h₃ (fun x s₄ h₄ => wpAny_bind (wpAny_mono h₄ (fun _ s₅ h₅ => wpAny_pure (wpAny_pure ⟨rfl, h₅⟩)) fun _ _ h' => h')) fun _ _ h' => h'))

section
variable {X : Cx}
/-- [elt for target in iter if ..]: D the new list; W by the turn and a measure, Nx what a turn is to reach -/
def tLc (wi : TI) (g : TG) (tt : TT) (te : TE) (vs : List Nat) : TE := fun σ H Q => wi σ H fun J H1 => ∀ D, H1 D = none → ∃ W : Nat → Nat → Hp → Prop, (∃ m, W 0 m (upd H1 D (.lst []))) ∧ ∀ i m H, W i m H →
  (J.stop i H ∧ Q (.ref D) H) ∨ (J.go i H ∧ ∃ Nx : Hp → Prop, (∀ H', Nx H' → ∃ m', m' < m ∧ W (i + 1) m' H') ∧ ∀ x H', J.yld i H x H' → g x (wipe σ vs) H' fun σ2 H2 => wipe σ2 vs = wipe σ vs ∧ tt σ2 H2 fun b H3 =>
    if b = true then te σ2 H3 fun y H4 => ∃ acc, H4 D = some (.lst acc) ∧ acc.length < sizeLine ∧ Nx (upd H4 D (.lst (acc ++ [y]))) else Nx H3)
theorem lc_core {pins : List (Addr × Obj)} {s : Shared} {σ : St} {H : Hp} {Q : VK} {elt tg iter : Expr} {ifs : List Expr} {scope : Scope} {own : List (Str × Nat)} {pos pos' : Pos} {wi : TI} {g : TG} {tt : TT} {te : TE} {use : Option (Value → Sem Unit)} {Qf : Value → Shared → Prop}
    (hc : X.calm = true) (hN : X.N.Nodup) (I : Inv X pins σ H s) (hi : PI X tg iter wi) (ok : BlkOk X.N X.env.scope scope own)
    (hg : ∀ (s : Shared) (H : Hp) (C : Addr) (cl : List (Str × Addr)) (fp : List Addr), PG (X.blk s H scope (compEnvC scope cl C X.env) fp) tg g) (ht : ∀ (s : Shared) (H : Hp) (C : Addr) (cl : List (Str × Addr)) (fp : List Addr), PTs (X.blk s H scope (compEnvC scope cl C X.env) fp) ifs tt)
    (he : ∀ (s : Shared) (H : Hp) (C : Addr) (cl : List (Str × Addr)) (fp : List Addr), PE (X.blk s H scope (compEnvC scope cl C X.env) fp) elt te) (hs : ∀ x, foldedSetIterable iter X.env x = pure x)
    (h : tLc wi g tt te (own.map (·.2)) σ H Q)
    (hRR : ∀ D C s' m H', Inv X pins σ H' s' → Q (.ref D) H' → s'.heap.Ns C m → FpOk X pins H' C → compPost (model X.prog X.w) X.A X.xe use Qf (.ref D) C (.ok .next) s') :
    wpAny (model X.prog X.w) X.A (comprehension (.ListComp elt [⟨tg, iter, ifs, 0⟩] scope pos) scope X.env pos' (newList []) false (eval iter X.env) use) Qf X.xe s := by
  have hfree : ∀ y ∈ scope.names, y.2 = .free → ∃ c, X.env.cells.lookup y.1 = some c := fun y hy e => by
    rcases ok.free y hy e with k | k
    · exact I.ok.has _ (.inl k)
    · exact I.ok.has _ (.inr k)
  refine wpAny_comprehension_free (use := use) rfl hs (closure_ok hfree) ok.kind (fun y hy e => by rw [ok.uniq y hy, e])
    (thn (hi pins s σ H _ I h) fun xv s1 hx => thn hx fun itv s2 h2 => ?_)
  obtain ⟨it, fp, tn, J, H2, e, I2, T, st2, f2, q⟩ := h2
  subst e
  refine wpAny_newObj_type (newEnv_comp ?_) (by show 0 ≤ sizeLine; decide)
  generalize hD : s2.heap.objs.size = D
  have hDn : H2 D = none := I2.hok.fresh (Nat.le_of_eq hD)
  obtain ⟨W, ⟨m0, w0⟩, turn⟩ := q D hDn
  -- the new list
  generalize hs3 : ({ s2 with heap := s2.heap.push { cls := .type "list", data := .seq ([] : List Value).toArray } } : Shared) = s3
  have I3 : Inv X pins σ (upd H2 D (.lst [])) s3 := by
    rw [← hs3]
    refine I2.laid (t' := s2.toks) (fun b o e => Heap.get?_push_of_some _ e) (Nat.le_of_eq hD) ⟨Nat.zero_le _, [], 0, .nil, ?_⟩
    rw [← hD]
    exact Heap.get?_push_size _ rfl
  have h3 : s3.heap = s2.heap.push { cls := .type "list", data := .seq ([] : List Value).toArray } := by rw [← hs3]
  have sz : ∀ b ∈ fp, b < s2.heap.objs.size := fun b hb => by
    obtain ⟨o, e, _⟩ := T.obj _ _ st2 b hb
    exact Heap.lt_size e
  have f3 : ∀ b ∈ fp, FpOk X pins (upd H2 D (.lst [])) b ∧ b < s3.heap.objs.size := fun b hb => by
    have hlt := sz b hb
    refine ⟨⟨?_, (f2 b hb).2⟩, by rw [h3, Heap.size_push]; exact Nat.lt_succ_of_lt hlt⟩
    rw [upd_ne (by rw [← hD]; exact Nat.ne_of_lt hlt)]
    exact (f2 b hb).1
  have st3 : tn 0 s3.heap := T.keep _ _ _ st2 fun b _ o e => by rw [h3]; exact Heap.get?_push_of_some _ e
  have I4 := block_start I3 ok hN f3
  have pg := hg s3 (upd H2 D (.lst [])) s3.heap.objs.size (cellsFrom (s3.heap.objs.size + 1) scope.names (cloFrom X.env.cells scope.names [])) fp
  have pt := ht s3 (upd H2 D (.lst [])) s3.heap.objs.size (cellsFrom (s3.heap.objs.size + 1) scope.names (cloFrom X.env.cells scope.names [])) fp
  have pe := he s3 (upd H2 D (.lst [])) s3.heap.objs.size (cellsFrom (s3.heap.objs.size + 1) scope.names (cloFrom X.env.cells scope.names [])) fp
  show codeAny _ _ (.compStart (.ListComp elt [⟨tg, iter, ifs, 0⟩] scope pos) 0 (.ref it) (.ref D) (compEnvC scope (cellsFrom (s3.heap.objs.size + 1) scope.names (cloFrom X.env.cells scope.names [])) s3.heap.objs.size X.env)) (compPost (model X.prog X.w) X.A X.xe use Qf (.ref D) s3.heap.objs.size) { s3 with heap := pushCells (s3.heap.push { cls := .type "dict", data := .dict #[] }) scope.names }
  have nfp : ∀ b ∈ fp, (upd H2 D (.lst [])) b = none := fun b hb => (f3 b hb).1.1
  generalize hce : compEnvC scope (cellsFrom (s3.heap.objs.size + 1) scope.names (cloFrom X.env.cells scope.names [])) s3.heap.objs.size X.env = ce at I4 pg pt pe ⊢
  have cL : ce.locals = s3.heap.objs.size := by subst hce; rfl
  generalize hH3 : upd H2 D (.lst []) = H3 at I3 I4 pg pt pe w0 nfp f3
  generalize hs4 : ({ s3 with heap := pushCells (s3.heap.push { cls := .type "dict", data := .dict #[] }) scope.names } : Shared) = s4 at I4 ⊢
  have st4 : tn 0 s4.heap := T.keep _ _ _ st3 fun b _ o e => by rw [← hs4]; exact pushCells_keeps _ _ _ _ (Heap.get?_push_of_some _ e)
  have stat : ∀ {σ' : St} {H' : Hp} {s' : Shared}, Inv (X.blk s3 H3 scope ce fp) [] σ' H' s' → (∀ b ∈ fp, H' b = none) → ∀ b ∈ fp, FpOk (X.blk s3 H3 scope ce fp) [] H' b := fun {σ' H' s'} I' hn b hb =>
    ⟨hn b hb, (I'.ok.exf b hb).1, I'.ok.exfs b hb, .inl hb, fun x c e => (I'.ok.exf b hb).2 x c e, fun p hp => absurd (show p ∈ ([] : List (Addr × Obj)) ++ [] from hp) (by simp)⟩
  have loop : codeAny (model X.prog X.w) X.A (.compLoop (.ListComp elt [⟨tg, iter, ifs, 0⟩] scope pos) 0 (.ref it) (.ref D) ce) (compPost (model X.prog X.w) X.A X.xe use Qf (.ref D) s3.heap.objs.size) s4 := by
    refine compLoop_any (fun n s' => ∃ i H', Inv (X.blk s3 H3 scope ce fp) [] (wipe σ (own.map (·.2))) H' s' ∧ tn i s'.heap ∧ (∀ b ∈ fp, H' b = none) ∧ W i n H') ?_ m0 ⟨0, H3, I4, st4, nfp, w0⟩
    rintro n s5 ⟨i, H5, I5, st5, n5, w5⟩
    rcases turn i n H5 w5 with ⟨stop, qq⟩ | ⟨go, Nx, hNx, step⟩
    · have td := T.done (X.blk s3 H3 scope ce fp) rfl rfl rfl hc i [] s5 _ H5 (fun _ _ => False) I5 (stat I5 n5) st5 stop
      refine thnF td fun r s6 ⟨hr, I6⟩ => ?_
      subst hr
      -- back in the def's context
      have I7 : Inv X pins σ H5 s6 := I3.call' (ch := fp) I6.os I6.base I6.hok I6.bare fun b hb => ⟨(f3 b hb).1.2.2.2.1, (f3 b hb).1.2.1, (f3 b hb).1.2.2.2.2.1, (f3 b hb).1.2.2.2.2.2⟩
      have nC : H5 s3.heap.objs.size = none := by
        have z : H5 ce.locals = none := I6.free
        rw [cL] at z
        exact z
      obtain ⟨m, hn, _⟩ := I6.loc
      have hn : s6.heap.Ns ce.locals m := hn
      rw [cL] at hn
      exact hRR D s3.heap.objs.size s6 m H5 I7 qq hn (I3.fpOk (Nat.le_refl _) nC)
    · have ti := T.item (X.blk s3 H3 scope ce fp) rfl rfl rfl hc i [] s5 _ H5 (fun _ _ => False) I5 (stat I5 n5) st5 go
      refine thnF ti fun r s6 ⟨u, hr, h6⟩ => ?_
      subst hr
      refine thnF h6 fun _ s7 ⟨x, H7, I7, r7, y7, st7, n7⟩ => ?_
      have I7' := I7.pinned (stat I7 n7) (T.obj _ _ st7)
      refine thnF (pg _ s7 _ H7 x u _ I7' r7 (step x H7 y7)) fun _ s8 ⟨σ8, H8, I8, hw8, q8⟩ => ?_
      refine thnF (pt _ s8 σ8 H8 _ I8 q8) fun b s9 ⟨H9, I9, q9⟩ => ?_
      -- the turn's end
      have fin : ∀ {s' : Shared} {H' : Hp}, Inv (X.blk s3 H3 scope ce fp) ([] ++ pinsAt fp s7.heap) σ8 H' s' → Nx H' → ∃ m, m < n ∧ ∃ i H', Inv (X.blk s3 H3 scope ce fp) [] (wipe σ (own.map (·.2))) H' s' ∧ tn i s'.heap ∧ (∀ b ∈ fp, H' b = none) ∧ W i m H' := fun {s' H'} I' nx => by
        obtain ⟨m', hm, w'⟩ := hNx H' nx
        have pin' : ∀ b ∈ fp, ∀ o, s7.heap.get? b = some o → s'.heap.get? b = some o ∧ H' b = none := fun b hb o e =>
          let z := I'.pin (b, o) (List.mem_append_right _ (List.mem_append_right _ (mem_pinsAt hb e)))
          ⟨z.1, z.2.1⟩
        have hl : (wipe σ (own.map (·.2))).length = σ8.length := by rw [← hw8, wipe_length]
        refine ⟨m', hm, i + 1, H', (I'.unpinned (pins := [])).weak hl (fun j v e => ?_), T.keep _ _ _ st7 fun b hb o e => (pin' b hb o e).1, fun b hb => ?_, w'⟩
        · rw [← hw8] at e
          exact (wipe_some e).1
        · obtain ⟨o, e, _⟩ := T.obj _ _ st7 b hb
          exact (pin' b hb o e).2
      cases b with
      | false =>
        simp only [Bool.false_eq_true, if_false] at q9 ⊢
        exact fin I9 q9
      | true =>
        simp only [if_true] at q9 ⊢
        refine thnF (pe _ s9 σ8 H9 _ I9 q9) fun z s10 ⟨yv, H10, I10, r10, acc, hD10, hz10, nx⟩ => ?_
        exact app_ok (X := X.blk s3 H3 scope ce fp) I10 hD10 hz10 r10 fun s11 I11 => fin I11 nx
  exact codeAny_compStart_list loop (T.self X.A 0 _ _ _ st4 loop)
/-- as a value -/
theorem pe_lc {elt tg iter : Expr} {ifs : List Expr} {scope : Scope} {own : List (Str × Nat)} {pos : Pos} {wi : TI} {g : TG} {tt : TT} {te : TE} (hc : X.calm = true) (hN : X.N.Nodup) (hi : PI X tg iter wi) (ok : BlkOk X.N X.env.scope scope own)
    (hg : ∀ (s : Shared) (H : Hp) (C : Addr) (cl : List (Str × Addr)) (fp : List Addr), PG (X.blk s H scope (compEnvC scope cl C X.env) fp) tg g) (ht : ∀ (s : Shared) (H : Hp) (C : Addr) (cl : List (Str × Addr)) (fp : List Addr), PTs (X.blk s H scope (compEnvC scope cl C X.env) fp) ifs tt)
    (he : ∀ (s : Shared) (H : Hp) (C : Addr) (cl : List (Str × Addr)) (fp : List Addr), PE (X.blk s H scope (compEnvC scope cl C X.env) fp) elt te) (hs : ∀ x, foldedSetIterable iter X.env x = pure x := by intro _; rfl) :
    PE X (.ListComp elt [⟨tg, iter, ifs, 0⟩] scope pos) (tLc wi g tt te (own.map (·.2))) := by
  intro pins s σ H Q I h
  rw [eval_ListComp]
  refine lc_core hc hN I hi ok hg ht he hs h fun D C s' m H' I' q hn f => ⟨m, hn, fun h'' sb => ?_⟩
  obtain ⟨f0, f1, f2, f3, f4, f5⟩ := f
  exact ⟨.ref D, H', I'.turned (t' := s'.toks) (fun b o hb e => (sb.2 b hb).trans e) f0 f1 f3 f4 f5, rfl, q⟩
/-- name = [..] on one line, the name a local -/
theorem ps_setLc {i : Nat} {y : Str} {py : Pos} {elt tg iter : Expr} {ifs : List Expr} {scope : Scope} {own : List (Str × Nat)} {pos spos : Pos} {wi : TI} {g : TG} {tt : TT} {te : TE} (hc : X.calm = true) (hN : X.N.Nodup) (hy : X.N[i]? = some y) (hyl : X.env.scope.names.lookup y = some .local)
    (hsw : swapsWith (.ListComp elt [⟨tg, iter, ifs, 0⟩] scope pos) (some (.Name y py)) spos.line X.env = pure true) (hi : PI X tg iter wi) (ok : BlkOk X.N X.env.scope scope own)
    (hg : ∀ (s : Shared) (H : Hp) (C : Addr) (cl : List (Str × Addr)) (fp : List Addr), PG (X.blk s H scope (compEnvC scope cl C X.env) fp) tg g) (ht : ∀ (s : Shared) (H : Hp) (C : Addr) (cl : List (Str × Addr)) (fp : List Addr), PTs (X.blk s H scope (compEnvC scope cl C X.env) fp) ifs tt)
    (he : ∀ (s : Shared) (H : Hp) (C : Addr) (cl : List (Str × Addr)) (fp : List Addr), PE (X.blk s H scope (compEnvC scope cl C X.env) fp) elt te) (hs : ∀ x, foldedSetIterable iter X.env x = pure x := by intro _; rfl) :
    PS X (.Assign [.Name y py] (.ListComp elt [⟨tg, iter, ifs, 0⟩] scope pos) spos) (tAsg (tLc wi g tt te (own.map (·.2))) (gName i)) := by
  intro pins s σ H D I h
  rw [exec_Assign_Name_used _ _ _ _ hsw]
  refine wpAny_bind (wpAny_standAt (wpAny_bind ?_))
  show wpAny _ X.A (do let _ ← comprehension (.ListComp elt [⟨tg, iter, ifs, 0⟩] scope pos) scope X.env (firstIterPos [⟨tg, iter, ifs, 0⟩] pos) (newList []) false (eval iter X.env) (some (assign (.Name y py) X.env))) _ _ s
  have h : tLc wi g tt te (own.map (·.2)) σ H (fun x H1 => gName i x σ H1 D.nx) := h
  refine wpAny_bind (thn (lc_core (Qf := fun _ s' => SP X pins D .next s') hc hN I hi ok hg ht he hs h fun L C s' m H' I' q hn f => ?_) fun _ s' hq => wpAny_pure (wpAny_pure hq))
  show wpAny _ _ (assign (.Name y py) X.env (.ref L)) _ _ _
  refine wpAny_assign_Name (store_ok2 (v := V.ref L) I' hN hy (.inl hyl) rfl (fun s2 I2 ⟨a, sb, ha⟩ => ?_) (.inr hyl))
  obtain ⟨f0, f1, f2, f3, f4, f5⟩ := f
  have haC : C ≠ a := by
    rcases ha with z | z
    · rw [z]; exact f1
    · exact fun e => f4 y a z e.symm
  refine ⟨m, hn.sameBut sb haC, fun h3 sb3 => ?_⟩
  exact ⟨_, H', I2.turned (t' := s2.toks) (fun b o hb e => (sb3.2 b hb).trans e) f0 f1 f3 f4 f5, q⟩
theorem sw_true {elt : Expr} {gs : List Comprehension} {scope : Scope} {pos py : Pos} {y : Str} {l : Nat} {env : Env} (hk : env.scope.kind = .function) (hy : env.scope.names.lookup y = some .local) (hl : (py.line == pos.line) = true)
    (ha : (scope.names.any fun (n, k) => n == y && (k == .local || k == .cell)) = false) : swapsWith (.ListComp elt gs scope pos) (some (.Name y py)) l env = pure true := by
  have ky : env.kindOf y = some .local := hy
  have hb : env.blockKind = .function := by unfold Env.blockKind; rw [hk]; rfl
  unfold swapsWith
  simp only [hb, ky, ha, Expr.pos, hl]
  rfl
end
/-- over a list that the block leaves as it is -/
theorem lc_list {K : PySem.W.Frag} {a : Addr} {xs : List V} {g : TG} {tt : TT} {te : TE} {vs : List Nat} {σ : St} {H1 : Hp} {D : Addr} {Qd : Hp → Prop} (Pv : Nat → Hp → Prop) (h0 : Pv 0 (upd H1 D (.lst []))) (hl : ∀ i H, i ≤ xs.length → Pv i H → SqL K H a xs)
    (hs : ∀ i x H, xs[i]? = some x → Pv i H → g x (wipe σ vs) H fun σ2 H2 => wipe σ2 vs = wipe σ vs ∧ tt σ2 H2 fun b H3 =>
      if b = true then te σ2 H3 fun y H4 => ∃ acc, H4 D = some (.lst acc) ∧ acc.length < sizeLine ∧ Pv (i + 1) (upd H4 D (.lst (acc ++ [y]))) else Pv (i + 1) H3) (hd : ∀ H, Pv xs.length H → Qd H) :
    ∃ W : Nat → Nat → Hp → Prop, (∃ m, W 0 m (upd H1 D (.lst []))) ∧ ∀ i m H, W i m H →
      ((Itl K a).stop i H ∧ Qd H) ∨ ((Itl K a).go i H ∧ ∃ Nx : Hp → Prop, (∀ H', Nx H' → ∃ m', m' < m ∧ W (i + 1) m' H') ∧ ∀ x H', (Itl K a).yld i H x H' → g x (wipe σ vs) H' fun σ2 H2 => wipe σ2 vs = wipe σ vs ∧ tt σ2 H2 fun b H3 =>
        if b = true then te σ2 H3 fun y H4 => ∃ acc, H4 D = some (.lst acc) ∧ acc.length < sizeLine ∧ Nx (upd H4 D (.lst (acc ++ [y]))) else Nx H3) := by
  refine ⟨fun i m H => m = xs.length - i ∧ i ≤ xs.length ∧ Pv i H, ⟨xs.length, by simp, Nat.zero_le _, h0⟩, ?_⟩
  rintro i m H ⟨rfl, hi, p⟩
  have q := hl i H hi p
  by_cases hlt : i < xs.length
  · refine .inr ⟨⟨xs, xs[i], q, by simp [hlt]⟩, Pv (i + 1), fun H' p' => ⟨xs.length - (i + 1), by omega, rfl, hlt, p'⟩, fun x H' y => ?_⟩
    obtain ⟨e, y⟩ := y
    subst e
    exact hs i x _ (y xs q) p
  · have e : i = xs.length := by omega
    subst e
    exact .inl ⟨⟨xs, q, Nat.le_refl _⟩, hd H p⟩
/-- over a tuple -/
theorem lc_tup {K : PySem.W.Frag} {a : Addr} {xs : List V} {g : TG} {tt : TT} {te : TE} {vs : List Nat} {σ : St} {H1 : Hp} {D : Addr} {Qd : Hp → Prop} (Pv : Nat → Hp → Prop) (h0 : Pv 0 (upd H1 D (.lst []))) (hl : ∀ i H, i ≤ xs.length → Pv i H → SqT K H a xs)
    (hs : ∀ i x H, xs[i]? = some x → Pv i H → g x (wipe σ vs) H fun σ2 H2 => wipe σ2 vs = wipe σ vs ∧ tt σ2 H2 fun b H3 =>
      if b = true then te σ2 H3 fun y H4 => ∃ acc, H4 D = some (.lst acc) ∧ acc.length < sizeLine ∧ Pv (i + 1) (upd H4 D (.lst (acc ++ [y]))) else Pv (i + 1) H3) (hd : ∀ H, Pv xs.length H → Qd H) :
    ∃ W : Nat → Nat → Hp → Prop, (∃ m, W 0 m (upd H1 D (.lst []))) ∧ ∀ i m H, W i m H →
      ((Itt K a).stop i H ∧ Qd H) ∨ ((Itt K a).go i H ∧ ∃ Nx : Hp → Prop, (∀ H', Nx H' → ∃ m', m' < m ∧ W (i + 1) m' H') ∧ ∀ x H', (Itt K a).yld i H x H' → g x (wipe σ vs) H' fun σ2 H2 => wipe σ2 vs = wipe σ vs ∧ tt σ2 H2 fun b H3 =>
        if b = true then te σ2 H3 fun y H4 => ∃ acc, H4 D = some (.lst acc) ∧ acc.length < sizeLine ∧ Nx (upd H4 D (.lst (acc ++ [y]))) else Nx H3) := by
  refine ⟨fun i m H => m = xs.length - i ∧ i ≤ xs.length ∧ Pv i H, ⟨xs.length, by simp, Nat.zero_le _, h0⟩, ?_⟩
  rintro i m H ⟨rfl, hi, p⟩
  have q := hl i H hi p
  by_cases hlt : i < xs.length
  · refine .inr ⟨⟨xs, xs[i], q, by simp [hlt]⟩, Pv (i + 1), fun H' p' => ⟨xs.length - (i + 1), by omega, rfl, hlt, p'⟩, fun x H' y => ?_⟩
    obtain ⟨e, y⟩ := y
    subst e
    exact hs i x _ (y xs q) p
  · have e : i = xs.length := by omega
    subst e
    exact .inl ⟨⟨xs, q, Nat.le_refl _⟩, hd H p⟩
def blkC (N : List Str) (sc scope : Scope) (own : List (Str × Nat)) : Bool :=
  (match scope.kind with | .function => true | _ => false) && (scope.names.all fun y => decide (scope.names.lookup y.1 = some y.2)) && (own.all fun p => decide (N[p.2]? = some p.1)) &&
    (scope.names.all fun y => match y.2 with
      | .free => (match sc.names.lookup y.1 with | some .cell => true | some .free => true | _ => false)
      | .local => decide (y.1 ∈ own.map (·.1)) || decide (y.1 ∉ N)
      | .cell => decide (y.1 ∈ own.map (·.1)) || decide (y.1 ∉ N)
      | _ => true)
theorem blkOk_by {N : List Str} {sc scope : Scope} {own : List (Str × Nat)} (h : blkC N sc scope own = true) : BlkOk N sc scope own := by
  unfold blkC at h
  simp only [Bool.and_eq_true, List.all_eq_true, decide_eq_true_eq] at h
  obtain ⟨⟨⟨h1, h2⟩, h3⟩, h4⟩ := h
  refine ⟨?_, h2, h3, fun y hy e => ?_, fun y hy e => ?_⟩
  · split at h1
    · assumption
    · cases h1
  · have q := h4 y hy
    simp only [e] at q
    split at q <;> first | exact .inl (by assumption) | exact .inr (by assumption) | cases q
  · have q := h4 y hy
    rcases e with e | e <;> (simp only [e, Bool.or_eq_true, decide_eq_true_eq] at q; exact q)
end L2

namespace L2
open PySem PySem.Spec PyProof.Rows

section
variable {prog : Program} {w : World} {A : Around} {R : Result → Shared → Prop} {s : Shared} {elt t0 i0 t1 i1 : Expr} {ifs0 ifs1 : List Expr} {scope : Scope} {pos : Pos} {it acc : Value} {env : Env}
end
section
variable {X : Cx}
end
end L2

namespace L2
open PySem PySem.Spec PyProof.Rows

section
variable {κ : Type} [DecidableEq κ]
def valV (kvs : List (κ × V)) (k : κ) : Option V := (kvs.find? fun kv => decide (kv.1 = k)).map (·.2)
/-- in its place, or at the end -/
def putK (kvs : List (κ × V)) (k : κ) (v : V) : List (κ × V) :=
  if (kvs.any fun kv => decide (kv.1 = k)) = true then kvs.map (fun kv => if kv.1 = k then (kv.1, v) else kv) else kvs ++ [(k, v)]
theorem valV_pos {p : κ × V} {r : List (κ × V)} {k : κ} (e : p.1 = k) : valV (p :: r) k = some p.2 := by simp [valV, List.find?_cons, e]
theorem valV_neg {p : κ × V} {r : List (κ × V)} {k : κ} (e : ¬ p.1 = k) : valV (p :: r) k = valV r k := by simp [valV, List.find?_cons, e]
theorem valV_any (k : κ) : ∀ kvs : List (κ × V), (kvs.any fun kv => decide (kv.1 = k)) = (valV kvs k).isSome
  | [] => rfl
  | p :: r => by
    rw [List.any_cons]
    by_cases e : p.1 = k
    · simp only [valV_pos e, decide_eq_true e, Bool.true_or, Option.isSome_some]
    · rw [valV_neg e, decide_eq_false e, Bool.false_or]; exact valV_any k r
theorem valV_map (k j : κ) (y : V) : ∀ kvs : List (κ × V), valV (kvs.map fun kv => if kv.1 = k then (kv.1, y) else kv) j = (valV kvs j).map fun x => if j = k then y else x
  | [] => rfl
  | p :: r => by
    have ih := valV_map k j y r
    rw [List.map_cons]
    by_cases h : p.1 = k
    · rw [if_pos h]
      by_cases e : p.1 = j
      · rw [valV_pos (p := (p.1, y)) e, valV_pos e, Option.map_some, if_pos (e.symm.trans h)]
      · rw [valV_neg (p := (p.1, y)) e, valV_neg e, ih]
    · rw [if_neg h]
      by_cases e : p.1 = j
      · rw [valV_pos (p := p) e, valV_pos e, Option.map_some, if_neg (fun z => h (e.trans z))]
      · rw [valV_neg (p := p) e, valV_neg e, ih]
theorem valV_snoc (k j : κ) (y : V) : ∀ kvs : List (κ × V), valV kvs k = none → valV (kvs ++ [(k, y)]) j = if j = k then some y else valV kvs j
  | [], _ => by
    by_cases e : k = j
    · rw [if_pos e.symm]; exact valV_pos (p := (k, y)) e
    · rw [if_neg (fun z => e z.symm)]; exact valV_neg (p := (k, y)) e
  | p :: r, hn => by
    rw [List.cons_append]
    have hk : ¬ p.1 = k := fun z => by rw [valV_pos z] at hn; cases hn
    rw [valV_neg hk] at hn
    have ih := valV_snoc k j y r hn
    by_cases e : p.1 = j
    · rw [valV_pos e, valV_pos e, if_neg (fun z => hk (e.trans z))]
    · rw [valV_neg e, valV_neg e, ih]
theorem valV_put (kvs : List (κ × V)) (k j : κ) (y : V) : valV (putK kvs k y) j = if j = k then some y else valV kvs j := by
  unfold putK
  by_cases a : (kvs.any fun kv => decide (kv.1 = k)) = true
  · rw [if_pos a, valV_map]
    rw [valV_any] at a
    by_cases e : j = k
    · obtain ⟨x, hx⟩ := Option.isSome_iff_exists.mp a
      rw [if_pos e, e, hx, Option.map_some, if_pos rfl]
    · rw [if_neg e]
      cases valV kvs j with
      | none => rfl
      | some x => rw [Option.map_some, if_neg e]
  · rw [if_neg a]
    refine valV_snoc k j y kvs ?_
    rw [valV_any] at a
    cases q : valV kvs k with
    | none => rfl
    | some x => rw [q] at a; exact (a rfl).elim
theorem length_putK (kvs : List (κ × V)) (k : κ) (v : V) : (putK kvs k v).length ≤ kvs.length + 1 := by
  unfold putK
  split
  · rw [List.length_map]; omega
  · rw [List.length_append, List.length_cons, List.length_nil]; omega
theorem putK_new {kvs : List (κ × V)} {k : κ} (v : V) (h : valV kvs k = none) : putK kvs k v = kvs ++ [(k, v)] := by
  unfold putK
  rw [valV_any, h]
  exact if_neg (by decide)

theorem RelO.isSome_eq {o : Option V} {u : Option Value} (r : RelO o u) : o.isSome = u.isSome := by
  cases o with
  | none => cases u with
    | none => rfl
    | some _ => exact (show False from r).elim
  | some _ => cases u with
    | none => exact (show False from r).elim
    | some _ => rfl
theorem RelO.getD {o : Option V} {u : Option Value} {d : V} {d' : Value} (r : RelO o u) (rd : RelV d d') : RelV (o.getD d) (u.getD d') := by
  cases o with
  | none => cases u with
    | none => exact rd
    | some _ => exact (show False from r).elim
  | some _ => cases u with
    | none => exact (show False from r).elim
    | some _ => exact r

/-- raw tables of the same keys -/
theorem KV.val {kvs : List (κ × V)} {vs : List (κ × Value)} (r : KV kvs vs) (k : κ) : RelO (valV kvs k) (valueAt vs k) := by
  unfold KV at r
  induction r with
  | nil => exact True.intro
  | @cons p q ps qs h t ih =>
    obtain ⟨h1, h2⟩ := h
    by_cases e : p.1 = k
    · have e' : q.1 = k := h1.symm.trans e
      have b : valueAt (q :: qs) k = some q.2 := by simp [valueAt, List.find?_cons, e']
      rw [valV_pos e, b]; exact h2
    · have e' : ¬ q.1 = k := fun z => e (h1.trans z)
      have b : valueAt (q :: qs) k = valueAt qs k := by simp [valueAt, List.find?_cons, e']
      rw [valV_neg e, b]; exact ih
theorem KV.any {kvs : List (κ × V)} {vs : List (κ × Value)} (r : KV kvs vs) (k : κ) : (kvs.any fun kv => decide (kv.1 = k)) = vs.any fun kv => decide (kv.1 = k) := by
  unfold KV at r
  induction r with
  | nil => rfl
  | cons h t ih => rw [List.any_cons, List.any_cons, ih, h.1]
theorem KV.repl {kvs : List (κ × V)} {vs : List (κ × Value)} (r : KV kvs vs) (k : κ) {y : V} {u : Value} (ry : RelV y u) :
    KV (kvs.map fun kv => if kv.1 = k then (kv.1, y) else kv) (vs.map fun kv => if kv.1 = k then (kv.1, u) else kv) := by
  unfold KV at r ⊢
  induction r with
  | nil => exact .nil
  | @cons p q ps qs h t ih =>
    rw [List.map_cons, List.map_cons]
    refine .cons ?_ ih
    obtain ⟨h1, h2⟩ := h
    by_cases e : p.1 = k
    · rw [if_pos e, if_pos (h1.symm.trans e)]; exact ⟨h1, ry⟩
    · rw [if_neg e, if_neg (fun z => e (h1.trans z))]; exact ⟨h1, h2⟩
theorem KV.put {kvs : List (κ × V)} {vs : List (κ × Value)} (r : KV kvs vs) (k : κ) {y : V} {u : Value} (ry : RelV y u) : KV (putK kvs k y) (stored vs k u) := by
  unfold putK stored
  rw [r.any k]
  by_cases e : (vs.any fun kv => decide (kv.1 = k)) = true
  · rw [if_pos e, if_pos e]; exact r.repl k ry
  · rw [if_neg e, if_neg e]; exact Paired.snoc r ⟨rfl, ry⟩
theorem KV.length {kvs : List (κ × V)} {vs : List (κ × Value)} (r : KV kvs vs) : kvs.length = vs.length := Paired.length r
end


theorem kV_is {P : Program} {w : World} {k : Key} {u : Value} (r : RelV (kV k) u) : (mixKind P w).is k u = true := by
  cases k with
  | inl i => obtain ⟨t, e⟩ := (show ∃ t, u = Value.int i t from r); subst e; exact mixKind_int P w i t
  | inr x => obtain ⟨t, e⟩ := (show ∃ t, u = Value.str x t from r); subst e; exact mixKind_str P w x t
theorem items_are {P : Program} {w : World} : ∀ {ks : List Key} {us : List Value}, Vals (ks.map kV) us → ItemsAre (mixKind P w) ks us
  | [], _, r => by rw [List.map_nil] at r; cases r; exact .nil
  | k :: ks, _, r => by
    rw [List.map_cons] at r
    cases r with
    | cons h t => exact .cons (kV_is h) (items_are t)

/-- raw entries of a dict with tuple keys -/
abbrev KT (H : Hp) : List (List Key × V) → List (List Key × Addr × Value) → Prop := Paired fun p q => p.1 = q.1 ∧ H q.2.1 = some (.tup (p.1.map kV)) ∧ RelV p.2 q.2.2
theorem KT.val {H : Hp} {kvs : List (List Key × V)} {xs : List (List Key × Addr × Value)} (r : KT H kvs xs) (k : List Key) : RelO (valV kvs k) ((atKey xs k).map (·.2)) := by
  induction r with
  | nil => exact True.intro
  | @cons p q ps qs h t ih =>
    obtain ⟨h1, _, h2⟩ := h
    by_cases e : p.1 = k
    · have e' : q.1 = k := h1.symm.trans e
      have b : atKey (q :: qs) k = some q.2 := by simp [atKey, List.find?_cons, e']
      rw [valV_pos e, b]; exact h2
    · have e' : ¬ q.1 = k := fun z => e (h1.trans z)
      have b : atKey (q :: qs) k = atKey qs k := by simp [atKey, List.find?_cons, e']
      rw [valV_neg e, b]; exact ih
theorem KT.repl {H : Hp} {kvs : List (List Key × V)} {xs : List (List Key × Addr × Value)} (r : KT H kvs xs) (k : List Key) {y : V} {u : Value} (ry : RelV y u) :
    KT H (kvs.map fun kv => if kv.1 = k then (kv.1, y) else kv) (xs.map (putAt k u)) := by
  induction r with
  | nil => exact .nil
  | @cons p q ps qs h t ih =>
    rw [List.map_cons, List.map_cons]
    refine .cons ?_ ih
    obtain ⟨h1, h2, h3⟩ := h
    unfold putAt
    by_cases e : p.1 = k
    · rw [if_pos e, if_pos (h1.symm.trans e)]; exact ⟨h1, h2, ry⟩
    · rw [if_neg e, if_neg (fun z => e (h1.trans z))]; exact ⟨h1, h2, h3⟩
theorem KT.put {H : Hp} {kvs : List (List Key × V)} {xs : List (List Key × Addr × Value)} (r : KT H kvs xs) (k : List Key) {b : Addr} {y : V} {u : Value} (hb : H b = some (.tup (k.map kV))) (ry : RelV y u) :
    KT H (putK kvs k y) (storedH xs k b u) := by
  have e : (kvs.any fun kv => decide (kv.1 = k)) = (atKey xs k).isSome := by
    rw [valV_any, (r.val k).isSome_eq, Option.isSome_map]
  unfold putK storedH
  rw [e]
  by_cases q : (atKey xs k).isSome = true
  · rw [if_pos q, if_pos q]; exact r.repl k ry
  · rw [if_neg q, if_neg q]; exact Paired.snoc r ⟨rfl, hb, ry⟩
theorem KT.keeps {H H' : Hp} {kvs : List (List Key × V)} {xs : List (List Key × Addr × Value)} (r : KT H kvs xs) (ht : ∀ b ys, H b = some (.tup ys) → H' b = some (.tup ys)) : KT H' kvs xs :=
  Paired.mapP r fun _ _ z => ⟨z.1, ht _ _ z.2.1, z.2.2⟩

section
variable {P : Program} {w : World} {H : Hp} {h : Heap} {a : Addr}
theorem rd_of {u : HO} (ok : HOk P w H h) (e : Rd H a u) : ObjOk P w H h a u := e.ok ok
theorem dk_rd {kvs : List (Key × V)} (ok : HOk P w H h) (e : Rd H a (.dK kvs)) : kvs.length ≤ sizeLine ∧ (a == sysModules) = false ∧ ∃ vs, KV kvs vs ∧ h.DictOf (mixKind P w) a vs :=
  show ObjOk P w H h a (.dK kvs) from rd_of ok e
theorem dk_of {kvs : List (Key × V)} (ok : HOk P w H h) (e : H a = some (.dK kvs)) : kvs.length ≤ sizeLine ∧ (a == sysModules) = false ∧ ∃ vs, KV kvs vs ∧ h.DictOf (mixKind P w) a vs := dk_rd ok (.inl e)
/-- a tracked tuple of ints and texts is a key -/
theorem key_of {ks : List Key} (ok : HOk P w H h) (e : H a = some (.tup (ks.map kV))) : (tupleKind (mixKind P w)).is h ks a := by
  obtain ⟨_, its, r, o, h1, h2, n, h3⟩ := (show ObjOk P w H h a (.tup (ks.map kV)) from ok a _ e)
  exact ⟨o, its.toArray, n, h1, h2, h3, by simpa using items_are r⟩
theorem dt_rd {kvs : List (List Key × V)} (ok : HOk P w H h) (e : Rd H a (.dT kvs)) : kvs.length ≤ sizeLine ∧ (a == sysModules) = false ∧
    ∃ xs, KT H kvs xs ∧ h.DictOfH (tupleKind (mixKind P w)) a xs := by
  obtain ⟨z, y, xs, r, o, es, ep, h1, h2, h3, h4, h5⟩ := (show ObjOk P w H h a (.dT kvs) from rd_of ok e)
  refine ⟨z, y, xs, r, o, es, ep, h1, h2, h3, h4, fun x hx => ?_, h5⟩
  have all : ∀ {l : List (List Key × V)} {m : List (List Key × Addr × Value)}, KT H l m → ∀ x ∈ m, (tupleKind (mixKind P w)).is h x.1 x.2.1 := by
    intro l m q
    induction q with
    | nil => intro x hx; exact nomatch hx
    | @cons p q ps qs hq t ih =>
      intro x hx
      rcases List.mem_cons.mp hx with e | hx
      · subst e
        exact key_of ok (by rw [← hq.1]; exact hq.2.1)
      · exact ih x hx
  exact all r x hx
theorem dt_of {kvs : List (List Key × V)} (ok : HOk P w H h) (e : H a = some (.dT kvs)) : kvs.length ≤ sizeLine ∧ (a == sysModules) = false ∧
    ∃ xs, KT H kvs xs ∧ h.DictOfH (tupleKind (mixKind P w)) a xs := dt_rd ok (.inl e)
end

/-- what the dict at a holds at the key y -/
def DGet (H : Hp) (a : Addr) (y : V) (r : Option V) : Prop :=
  (∃ kvs k, Rd H a (.dK kvs) ∧ y = kV k ∧ r = valV kvs k) ∨ ∃ kvs k b, Rd H a (.dT kvs) ∧ y = .ref b ∧ H b = some (.tup (k.map kV)) ∧ r = valV kvs k
/-- the heap behind a[y] = v -/
def DPut (H : Hp) (a : Addr) (y v : V) (H' : Hp) : Prop :=
  (∃ kvs k, H a = some (.dK kvs) ∧ y = kV k ∧ kvs.length < sizeLine ∧ H' = upd H a (.dK (putK kvs k v))) ∨
  ∃ kvs k b, H a = some (.dT kvs) ∧ y = .ref b ∧ H b = some (.tup (k.map kV)) ∧ kvs.length < sizeLine ∧ H' = upd H a (.dT (putK kvs k v))
theorem DGet.k {H : Hp} {a : Addr} {kvs : List (Key × V)} {k : Key} (e : H a = some (.dK kvs)) : DGet H a (kV k) (valV kvs k) := .inl ⟨kvs, k, .inl e, rfl, rfl⟩
theorem DPut.k {H : Hp} {a : Addr} {kvs : List (Key × V)} {k : Key} {v : V} (e : H a = some (.dK kvs)) (hl : kvs.length < sizeLine) : DPut H a (kV k) v (upd H a (.dK (putK kvs k v))) := .inl ⟨kvs, k, e, rfl, hl, rfl⟩


section
variable {X : Cx} {pins : List (Addr × Obj)} {σ : St} {H : Hp} {s : Shared} {a : Addr} {y v : V} {u r : Value} {o : Option V} {A : Around} {E : Value → Shared → Prop}

theorem Inv.big (I : Inv X pins σ H s) : sysModules < s.heap.objs.size := by
  have h : mainGlobals < s.heap.objs.size := (I.mod.glob.keeps I.bk).lt
  exact Nat.lt_trans (by decide) h
/-- a dict's object is replaced -/
theorem d_write {h' : Heap} {t' : Nat} {ob : HO} (I : Inv X pins σ H s) (mu : Mut (H a)) (hs : Heap.SameBut a s.heap h') (he : ∃ q, h'.get? a = some q) (new : ObjOk X.prog X.w (upd H a ob) h' a ob) :
    Inv X pins σ (upd H a ob) { s with heap := h', toks := t' } :=
  I.write (x := a) (e := a) mu (.inl rfl) (fun b q hb z => (hs.2 b hb).trans z) he new
theorem dk_new {P : Program} {w : World} {H' : Hp} {h' : Heap} {kvs : List (Key × V)} {vs : List (Key × Value)} (z : kvs.length ≤ sizeLine) (hd : (a == sysModules) = false) (rel : KV kvs vs) (dd : h'.DictOf (mixKind P w) a vs) :
    ObjOk P w H' h' a (.dK kvs) := ⟨z, hd, vs, rel, dd⟩
/-- d[y] = v -/
theorem d_setItem {H' : Hp} {Q : Unit → Shared → Prop} (hu : A.units + 1 < cLine) (I : Inv X pins σ H s) (g : DPut H a y v H') (ry : RelV y u) (rv : RelV v r) (h : ∀ s', Inv X pins σ H' s' → Q () s') :
    wpAny (model X.prog X.w) A (setItem (.ref a) u r) Q E s := by
  rcases g with ⟨kvs, k, e, ey, l, eH⟩ | ⟨kvs, k, b, e, ey, eb, l, eH⟩
  · subst ey eH
    obtain ⟨z, hd, vs, rel, dd⟩ := dk_of I.hok e
    have hz : vs.length ≤ sizeLine := by rw [← rel.length]; exact z
    have hl : (putK kvs k v).length ≤ sizeLine := by have := length_putK kvs k v; omega
    refine wpAny_setItem_pairs (hsz := hz) (kV_is ry) dd fun h' dd' hs => h _ ?_
    have he : ∃ q, h'.get? a = some q := let ⟨q, _, _, hq, _⟩ := dd'; ⟨q, hq⟩
    exact d_write I (by rw [e]; exact True.intro) hs he (dk_new hl hd (rel.put k rv) dd')
  · subst ey eH
    cases (show u = Value.ref b from ry)
    obtain ⟨z, hd, xs, rel, dd⟩ := dt_of I.hok e
    have hz : xs.length ≤ sizeLine := by rw [← Paired.length rel]; exact z
    have hl : (putK kvs k v).length ≤ sizeLine := by have := length_putK kvs k v; omega
    refine wpAny_setItem_heap (hsz := hz) (tupleKind_room_in1 hu) (key_of I.hok eb) dd fun h' dd' hs => h _ ?_
    obtain ⟨q, es, ep, hq, h2, h3, h4, _, h5⟩ := dd'
    refine d_write I (by rw [e]; exact True.intro) hs ⟨q, hq⟩ ⟨hl, hd, _, (rel.put k eb rv).keeps fun c ys ec => ?_, q, es, ep, hq, h2, h3, h4, h5⟩
    rw [upd_ne (ne_of ec e (fun z => nomatch z))]
    exact ec
end

section
variable {X : Cx} {pins : List (Addr × Obj)} {σ : St} {H : Hp} {s : Shared} {a : Addr} {kvs : List (Key × V)} {k : Key} {u : Value} {A : Around} {E : Value → Shared → Prop}
end
/-- d[y] = v -/
def sDPut (td ty tv : TE) : TS := fun D σ H => tv σ H fun v H1 => td σ H1 fun x H2 => ty σ H2 fun y H3 => ∃ a H4, x = .ref a ∧ DPut H3 a y v H4 ∧ D.nx σ H4

section
variable {X : Cx} {o i e value : Expr} {pos pos' tpos : Pos} {td ty tv : TE}
theorem ps_dput (hu : X.A.units + 1 < cLine) (ho : PE X o td) (hi : PE X i ty) (hv : PE X value tv) (hs : swapsWith value (some (.Subscript o i pos')) pos.line X.env = pure false) :
    PS X (.Assign [.Subscript o i pos'] value pos) (sDPut td ty tv) := by
  intro pins s σ H D I h
  refine wpAny_Assign_Subscript (thn (hv pins s σ H _ I h) fun r s1 ⟨v, H1, I1, rv, q1⟩ => thn (ho pins s1 σ H1 _ I1 q1) fun u s2 ⟨x, H2, I2, rx, q2⟩ => thn (hi pins s2 σ H2 _ I2 q2) fun iv s3 ⟨y, H3, I3, ry, a, H4, ex, g, q3⟩ => ?_) hs
  subst ex
  obtain rfl : u = Value.ref a := rx
  exact d_setItem hu I3 g ry rv fun s4 I4 => ⟨σ, H4, I4, q3⟩
end


theorem dk_empty {P : Program} {w : World} {H : Hp} (h : Heap) (hb : sysModules < h.objs.size) : ObjOk P w H (h.push { cls := .type "dict", data := .dict #[] }) h.objs.size (.dK []) :=
  ⟨Nat.zero_le _, beq_eq_false_iff_ne.mpr (Ne.symm (Nat.ne_of_lt hb)), [], .nil, Heap.DictOf.new h⟩
/-- {}, to be a dict of the kind that is wanted -/
def tDNewK : TE := fun _ H Q => ∀ p, H p = none → Q (.ref p) (upd H p (.dK []))
section
variable {X : Cx} {pos : Pos}
theorem pe_dnewK : PE X (.Dict [] [] pos) tDNewK := fun pins s σ H Q I h =>
  wpAny_Dict_empty ⟨.ref s.heap.objs.size, _, I.laid (a := s.heap.objs.size) (o := .dK []) (t' := s.toks) (fun _ _ q => Heap.get?_push_of_some _ q) (Nat.le_refl _) (dk_empty s.heap I.big), rfl, h _ (I.hok.fresh (Nat.le_refl _))⟩
end


/-- a method call o.m(e) of a built-in, with one argument: what must be seen of the text -/
structure M1 (X : Cx) (o : Expr) (m : Str) (apos : Pos) (e : Expr) (cpos : Pos) : Prop where
  base : attributeBase o m X.env (eval o X.env) = eval o X.env
  few : ((backTo cpos (starEach [e] X.env)).all (fun x => !x.1) && (backToKw cpos (keywordEach [] X.env)).all (fun x => x.1.isSome)
    && decide (([e] : List Expr).length + ([] : List Keyword).length + (if ([] : List Keyword).isEmpty then 0 else 1) < 30)) = true
  line : (apos.endLine == cpos.line) = true
  trees : backTo cpos (starEach [e] X.env) = [(false, eval e X.env)]

/-- a is a dict, whatever its keys -/
def IsD (H : Hp) (a : Addr) : Prop := (∃ kvs, Rd H a (.dK kvs)) ∨ ∃ kvs, Rd H a (.dT kvs)
theorem isD_at {X : Cx} {pins : List (Addr × Obj)} {σ : St} {H : Hp} {s : Shared} {a : Addr} (I : Inv X pins σ H s) (d : IsD H a) :
    s.TypeIs (.ref a) "dict" ∧ (∀ b, Value.ref a = .ref b → ∃ ob, s.heap.get? b = some ob ∧ ob.dict = none) ∧ (a == sysModules) = false := by
  rcases d with ⟨kvs, e⟩ | ⟨kvs, e⟩
  · obtain ⟨_, hd, vs, _, dd⟩ := dk_rd I.hok e
    refine ⟨dd.typeIs, fun b q => ?_, hd⟩
    cases q
    obtain ⟨ob, _, _, h1, h2, _⟩ := dd
    exact ⟨ob, h1, h2.2.1⟩
  · obtain ⟨_, hd, xs, _, dd⟩ := dt_rd I.hok e
    refine ⟨dd.typeIs, fun b q => ?_, hd⟩
    cases q
    obtain ⟨ob, _, _, h1, h2, _⟩ := dd
    exact ⟨ob, h1, h2.2.1⟩

section
variable {X : Cx} {pins : List (Addr × Obj)} {σ : St} {H : Hp} {s : Shared} {a : Addr} {y d : V} {u r : Value} {o : Option V} {A : Around} {E : Value → Shared → Prop}
/-- d.get(y) -/
theorem d_get1 {Q : Value → Shared → Prop} (hu : A.units + 1 < cLine) (I : Inv X pins σ H s) (g : DGet H a y o) (ry : RelV y u) (h : ∀ w' s', Inv X pins σ H s' → RelV (o.getD .non) w' → Q w' s') :
    wpAny (model X.prog X.w) A (call (.builtin "dict.get") [.ref a, u]) Q E s := by
  rcases g with ⟨kvs, k, e, ey, l⟩ | ⟨kvs, k, b, e, ey, eb, l⟩
  · subst ey
    obtain ⟨z, hd, vs, rel, dd⟩ := dk_rd I.hok e
    refine call_meetsIn PySem.F.slot_dict_get dd.typeIs PySem.F.entry_dict_get (PySem.F.args_dict_get_2 _ _) (meets_dict_get (mixKind X.prog X.w) a (kV_is ry) hd) ⟨_, dd.mapOf, h _ _ (I.tok _) ?_⟩
    rw [l]
    exact (rel.val k).getD rfl
  · subst ey
    cases (show u = Value.ref b from ry)
    obtain ⟨z, hd, xs, rel, dd⟩ := dt_rd I.hok e
    refine call_meetsIn PySem.F.slot_dict_get dd.typeIs PySem.F.entry_dict_get (PySem.F.args_dict_get_2 _ _) (meetsH_dict_get (tupleKind (mixKind X.prog X.w)) a b hd) ⟨tupleKind_room_in1 hu, k, xs, key_of I.hok eb, dd, h _ _ (I.tok _) ?_⟩
    rw [l]
    exact (rel.val k).getD rfl
end

def tDGet1 (td ty : TE) : TE := fun σ H Q => td σ H fun x H1 => ∃ a, x = .ref a ∧ IsD H1 a ∧ ty σ H1 fun y H2 => ∃ o, DGet H2 a y o ∧ Q (o.getD .non) H2
section
variable {X : Cx} {o e f : Expr} {apos cpos : Pos} {td ty tx : TE}
theorem pe_dget1 (hu : X.A.units + 1 < cLine) (ho : PE X o td) (he : PE X e ty) (m : M1 X o "get" apos e cpos) : PE X (.Call (.Attribute o "get" apos) [e] [] cpos) (tDGet1 td ty) := by
  intro pins s σ H Q I h
  refine wpAny_Call_method m.base m.few m.line PySem.F.plainAttrs_dict PySem.F.slot_dict_get PySem.F.type_dict_get (thn (ho pins s σ H _ I h) fun u s1 ⟨x, H1, I1, rx, a, ex, d, q1⟩ => ?_)
  subst ex
  obtain rfl : u = Value.ref a := rx
  obtain ⟨t1, t2, _⟩ := isD_at I1 d
  refine ⟨t1, t2, ?_⟩
  rw [m.trees]
  refine Calls.callWith_builtin rfl (Calls.evalArgs_plain (Calls.spliced_cons (thn (he pins s1 σ H1 _ I1 q1) fun iv s2 ⟨y, H2, I2, ry, ov, g, q2⟩ => Calls.spliced_nil ?_)))
  exact d_get1 hu I2 g ry fun w' s3 I3 rw' => ⟨_, H2, I3, rw', q2⟩
end

section
variable {X : Cx} {pins : List (Addr × Obj)} {σ : St} {H : Hp} {s : Shared} {a : Addr} {kvs : List (Key × V)} {A : Around} {E : Value → Shared → Prop}
end


section
variable {X : Cx} {pins : List (Addr × Obj)} {σ : St} {H : Hp} {s : Shared} {a : Addr} {y : V} {u : Value} {A : Around} {E : Value → Shared → Prop}
end
end L2

namespace L2
open PySem PySem.Spec PyProof.Rows

section
variable {prog : Program} {w : World} {A : Around} {E : Value → Shared → Prop}
end

section
variable {X : Cx}
end
end L2

namespace L2
open PySem PySem.Spec PyProof.Rows

section
variable {X : Cx} {pins : List (Addr × Obj)} {σ : St} {H : Hp} {s : Shared} {h' : Heap}
/-- .. and one new object is laid -/
theorem Inv.turnedNew {t' : Nat} {ch : List Addr} {T : Addr} {ob : HO} (I : Inv X pins σ H s) (k : ∀ b o, b ∉ ch → s.heap.get? b = some o → h'.get? b = some o) (hf : ∀ b ∈ ch, FpOk X pins H b) (hT : s.heap.objs.size ≤ T)
    (new : ObjOk X.prog X.w (upd H T ob) h' T ob) : Inv X pins σ (upd H T ob) { s with heap := h', toks := t' } := by
  have hn : H T = none := I.hok.fresh hT
  have nit : ∀ b u, H b = some u → b ∉ ch := fun b u e z => by
    have q := (hf b z).1
    rw [q] at e; cases e
  refine I.step (g' := s.gens) (d' := s.drawn) (ch := ch) (fun b hb => ⟨(hf b hb).2.2.2.1, (hf b hb).2.1, (hf b hb).2.2.2.2.1, (hf b hb).2.2.2.2.2⟩) (fun b o _ _ hc e _ => k b o hc e) (fun b o _ _ hc e _ => ⟨o.slots, k b o hc e⟩)
    (fun b o _ e n => ?_) (fun b o hc e => ⟨o, k b o hc e⟩) (fun b xs e => ?_) (fun b o u e => ?_) (fun b ps e => ⟨#[], ?_⟩) (fun m hm => ?_) (fun b u e => ?_) I.bare
  · rw [upd_ne (Nat.ne_of_lt (Nat.lt_of_lt_of_le (Heap.lt_size e) hT))]; exact n
  · rw [upd_ne (ne_of_none e hn)]; exact e
  · rw [upd_ne (ne_of_none e hn)]; exact e
  · rw [upd_ne (ne_of_none e hn), e]; simp
  · obtain ⟨o, es, ep, ho, r⟩ := hm
    exact ⟨o, es, ep, k _ o (fun z => (hf _ z).2.1 rfl) ho, r⟩
  · by_cases hb : b = T
    · subst hb
      rw [upd_same] at e
      cases e
      exact new
    · rw [upd_ne hb] at e
      refine (I.hok b u e).stay (fun c v hc q => k c v ?_ q) (fun c q => by rw [upd_ne (ne_of_none q hn)]; exact q) fun c xs q => by rw [upd_ne (ne_of_none q hn)]; exact q
      rcases hc with z | z
      · rw [z]; exact nit b u e
      · exact nit c _ z
end
section
variable {X : Cx}
end
section
variable {X : Cx} {tg : Expr}
end
section
variable {X : Cx} {tg : Expr}
end

section
variable {prog : Program} {w : World} {A : Around} {E : Value → Shared → Prop} {s : Shared}
end
section
variable {X : Cx} {pins : List (Addr × Obj)} {σ : St} {H : Hp} {s : Shared} {d : Addr} {o : Obj}
end
section
variable {P : Program} {w : World} {K : PySem.W.Frag} {tg : Expr} {d : Addr} {o : Obj} {es : Array DictEntry} {ep : Nat}
end
section
variable {X : Cx} {tg e : Expr} {td : TE} {apos cpos : Pos}
end

/-- the list at a as it stands at each turn, each item in a new pair -/
def Ite (K : PySem.W.Frag) (a : Addr) : It :=
  ⟨fun i H => ∃ (xs : List V) (x : V), SqL K H a xs ∧ xs[i]? = some x, fun i H v H' => ∃ T x, v = .ref T ∧ H T = none ∧ H' = upd H T (.tup [.int (i : Nat), x]) ∧ ∀ xs, SqL K H a xs → xs[i]? = some x, fun i H => ∃ xs : List V, SqL K H a xs ∧ xs.length ≤ i⟩
theorem turn_enum {P : Program} {w : World} {K : PySem.W.Frag} {elts : List Expr} {kk : Nat} {tpos : Pos} (a e it : Addr) :
    Turn P w K (.Tuple elts kk tpos) (Ite K a) [e, it] e (fun i h => (∃ old, IsEnum h e it ((i : Nat) : Int) old) ∧ h.IsListIter it a i ∧ e ≠ it) where
  mem := by simp
  obj := fun i h st b hb => by
    obtain ⟨⟨old, he⟩, ⟨o, ho, hc, hd⟩, _⟩ := st
    have e' : b = e ∨ b = it := by simpa using hb
    rcases e' with z | z
    · rw [z]; exact ⟨_, he, fun v q => nomatch q⟩
    · rw [z]; exact ⟨o, ho, fun v q => by rw [hd] at q; cases q⟩
  keep := fun i h h' st k => let ⟨⟨old, he⟩, hi, hne⟩ := st; ⟨⟨old, k e (by simp) _ he⟩, hi.at fun o q => k it (by simp) o q, hne⟩
  item := by
    intro X hP hw hK hc i pins s σ H E I hf st hg
    subst hP hw hK
    obtain ⟨⟨old, he⟩, hit, hne⟩ := st
    obtain ⟨xs, x, hq, hx⟩ := hg
    obtain ⟨its, rv, p, hz⟩ := I.list hq
    obtain ⟨u, hu, ru⟩ := rv.get hx
    have hel : e < s.heap.objs.size := Heap.lt_size he
    have hil : it < s.heap.objs.size := by obtain ⟨_, q, _⟩ := hit; exact Heap.lt_size q
    refine wpAny_pyNext_enum_item he hit p.isList (x := u) (by simpa using hu) hne fun h' ho hit' hT hsz hk => ?_
    refine ⟨_, rfl, wpAny_letOwnedTupleGo_enum (s := { s with heap := h', toks := s.toks + 1 }) ho fun h'' he' sb => ?_⟩
    have hT2 : h''.get? s.heap.objs.size = some { cls := .type "tuple", data := .seq #[.int i s.toks, u] } := (sb.2 _ (Nat.ne_of_gt hel)).trans hT
    have new : ObjOk X.prog X.w (upd H s.heap.objs.size (.tup [.int (i : Nat), x])) h'' s.heap.objs.size (.tup [.int (i : Nat), x]) :=
      ⟨by show 2 ≤ sizeLine; decide, [.int i s.toks, u], .cons ⟨_, rfl⟩ (.cons ru .nil), ⟨_, hT2, rfl, _, rfl⟩⟩
    have I1 : Inv X pins σ (upd H s.heap.objs.size (.tup [.int (i : Nat), x])) { s with heap := h'', toks := s.toks + 1 } :=
      I.turnedNew (ch := [e, it]) (fun b ob hb q => (sb.2 b (fun z => hb (by simp [z]))).trans (hk b ob (fun z => hb (by simp [z])) (fun z => hb (by simp [z])) q)) hf (Nat.le_refl _) new
    refine ⟨.ref s.heap.objs.size, _, I1, rfl, ⟨_, x, rfl, I.hok.fresh (Nat.le_refl _), rfl, fun ys hy => by rw [I.list_inj hy hq]; exact hx⟩, ⟨⟨u, ?_⟩, hit'.at fun o q => (sb.2 it (Ne.symm hne)).trans q, hne⟩, fun b hb => ?_⟩
    · have e1 : ((i + 1 : Nat) : Int) = (i : Int) + 1 := by omega
      rw [e1]; exact he'
    · have hb' : b < s.heap.objs.size := by
        have e' : b = e ∨ b = it := by simpa using hb
        rcases e' with z | z
        · rw [z]; exact hel
        · rw [z]; exact hil
      rw [upd_ne (Nat.ne_of_lt hb')]
      exact (hf b hb).1
  done := by
    intro X hP hw hK hc i pins s σ H E I hf st hg
    subst hP hw hK
    obtain ⟨⟨old, he⟩, hit, hne⟩ := st
    obtain ⟨xs, hq, hx⟩ := hg
    obtain ⟨its, rv, p, hz⟩ := I.list hq
    obtain ⟨f0, f1, f2, f3, f4, f5⟩ := hf it (by simp)
    have hl := rv.length
    exact wpAny_pyNext_enum_end (I.ok.hd hc) he hit p.isList (by simp; omega) fun h' eb => ⟨rfl, I.turned (t' := s.toks) (fun b o hb q => eb b o hb q) f0 f1 f3 f4 f5⟩
  self := fun A i s Q E st h => let ⟨⟨_, he⟩, _⟩ := st; wpAny_pyIter_enum he h
def iEnum (K : PySem.W.Frag) (ta : TA) : TI := fun σ H R => ta σ H fun vs H1 => ∃ a xs, vs = [.ref a] ∧ SqL K H1 a xs ∧ R (Ite K a) H1
theorem pi_enum {X : Cx} {e : Expr} {ta : TA} {p pos tpos : Pos} {elts : List Expr} {kk : Nat} (hg : Gl X "enumerate") (hm : X.mg "enumerate" = none) (ha : PA X [e] ta) (hs : starEach [e] X.env = [(false, eval e X.env)] := by rfl) :
    PI X (.Tuple elts kk tpos) (.Call (.Name "enumerate" p) [e] [] pos) (iEnum X.K ta) := by
  intro pins s σ H R I h
  refine Call_ (ld_blt I hg hm boot_enumerate (PyProof.Rows.callWith_type1 (thn (ha pos pins s σ H _ I h) fun us s1 ⟨vs, H1, I1, r1, q1⟩ => ?_) hs rfl))
  obtain ⟨a, xs, ex, hq, q⟩ := q1
  subst ex
  cases r1 with
  | cons r rr =>
    cases rr
    cases r
    obtain ⟨its, rv, p', hz⟩ := I1.list hq
    refine call_enumerate_list p'.isList fun h' he hit hsz hk => wpAny_pyIter_enum he ?_
    have I2 : Inv X pins σ H1 { s1 with heap := h' } := I1.kept (t' := s1.toks) hk
    refine ⟨s1.heap.objs.size + 1, [s1.heap.objs.size + 1, s1.heap.objs.size], _, _, H1, rfl, I2, turn_enum a (s1.heap.objs.size + 1) s1.heap.objs.size, ⟨⟨.none, he⟩, hit, Nat.succ_ne_self _⟩, fun b hb => ?_, q⟩
    have e' : b = s1.heap.objs.size + 1 ∨ b = s1.heap.objs.size := by simpa using hb
    have hle : s1.heap.objs.size ≤ b := by
      rcases e' with z | z
      · rw [z]; exact Nat.le_add_right _ _
      · rw [z]; exact Nat.le_refl _
    exact I1.fpOk hle (I1.hok.fresh hle)
end L2

section 
namespace Bits
open PySem PyProof.Rows

end Bits
end 

section 
namespace TL
open PySem PySem.Builtin PySem.Builtin.Str PySem.StrLaws
end TL
end 

namespace L2
open PySem PySem.Spec PyProof.Rows

section
variable {X : Cx} {pins : List (Addr × Obj)} {σ : St} {H : Hp} {s : Shared} {Q : VK}
end

section
variable {X : Cx}
end

section
variable {X : Cx} {o e : Expr} {to te : TE}
end
end L2

namespace L2
open PySem PySem.Spec PyProof.Rows

section
variable {X : Cx}
end
end L2

namespace Att
open PySem PySem.W PySem.Calls PyProof.Rows

theorem ints_of_wellAll {P : Params} {h : Heap} : ∀ (ns : List Int) (vs : List Value), WellAll P h vs (ns.map WData.int) → IntsAre vs ns := by
  intro ns
  induction ns with
  | nil =>
    intro vs w
    rw [List.map_nil] at w
    cases w
    exact .nil
  | cons n ns ih =>
    intro vs w
    rw [List.map_cons] at w
    cases w with
    | cons a b =>
      cases a
      exact .cons _ _ (ih _ b)

section
variable {prog : Program} {w : World} {A : Around} {E : Value → Shared → Prop} {s : Shared} {K : Frag}
end
end Att

namespace L2
open PySem PySem.Spec PyProof.Rows

theorem vals_ints : ∀ {vs : List Value} {ns : List Int}, IntsAre vs ns → Vals (ns.map V.int) vs
  | _, _, .nil => .nil
  | _, _, .cons n t h => .cons ⟨t, rfl⟩ (vals_ints h)

/-- nothing is tracked but the script, known to the object (or it is an object of the module) -/
def Only (H : Hp) : Prop := ∀ b, H b = none ∨ ∃ o xs, H b = some (.frz o (.lst xs))
end L2

namespace L2
open PySem PySem.Spec PyProof.Rows
end L2


namespace L2
open PySem PySem.Spec PyProof.Rows

/-- the j-th statement of a class's body -/
def inClass (s : Stmt) (j : Nat) : Stmt := match s with
  | .ClassDef _ _ _ body _ _ _ _ _ _ _ => body.getD j (.Pass ⟨0, 0, 0, 0⟩)
  | _ => .Pass ⟨0, 0, 0, 0⟩
def defArgs (s : Stmt) : Arguments := match s with
  | .FunctionDef _ a _ _ _ _ _ _ _ _ => a
  | _ => { posonlyargs := [], args := [], vararg := none, kwonlyargs := [], kw_defaults := [], kwarg := none, defaults := [] }
def defBody (s : Stmt) : List Stmt := match s with
  | .FunctionDef _ _ b _ _ _ _ _ _ _ => b
  | _ => []
def defScope (s : Stmt) : Scope := match s with
  | .FunctionDef _ _ _ _ _ _ sc _ _ _ => sc
  | _ => { kind := .function, names := [], isGenerator := false, isCoroutine := false }

abbrev CX0 : CXT := fun _ _ _ _ _ _ => False
abbrev E0 : XK := fun _ _ _ => False
theorem pass0 {X : Cx} : Passes CX0 X E0 := fun _ _ _ _ _ _ _ h => h.elim

structure Fun (K : PySem.W.Frag) (x qual : Str) (st : Stmt) (f : Addr) (fd : FuncData) : Prop where
  ex : ∃ (oc : Value) (od : Option Addr) (kV doc pm : Value) (an : Option Addr) (cdv ct : Value) (osl : Array (Option Value)),
    fd = PySem.W.fnOf x qual (defArgs st) (defBody st) (defScope st) .none kV doc pm an cdv ct ∧ K.lookup f = some ⟨oc, od, .func fd, osl⟩ ∧ PySem.W.codeIn K cdv qual = true
  kp : PySem.W.keepIn K (.ref f) = true
section
variable {P : Program} {w : World} {K : PySem.W.Frag} {mg : Str → Option Value} {base : Heap}
/-- THE RULE for a def: its body as a term of rules, and the reading of that term -/
theorem Fun.ok {x qual : Str} {st : Stmt} {f : Addr} {fd : FuncData} {N ps : List Str} {k : Nat} {sp : Sp} (F : Fun K x qual st f fd) (S : FnScope N ps (defScope st)) (len : ∀ vs H Q E, sp vs H Q E → vs.length = ps.length)
    (hbody : ∀ (cdv : Value) (A : Around) (outer : List Env) (s : Shared) (H : Hp) (vs : List V) (Q : VK) (E : XK), Room k (A.deeper (envOfC qual (defScope st) s.heap.objs.size f cdv)) → sp vs H Q E →
      ∃ t, PSs (cxOf CX0 P w K mg base N qual (defScope st) f cdv A outer s H E).nox (defBody st) t ∧ t { nx := fun _ H' => Q .non H', rt := Q } (start N vs) H) : FnOk P w K mg base CX0 (k + 1) f fd ps sp := by
  obtain ⟨oc, od, kV, doc, pm, an, cdv, ct, osl, rfl, lk, hcd⟩ := F.ex
  refine fn_of lk hcd S len fun A outer s H vs Q E hr hsp => ?_
  obtain ⟨t, h, q⟩ := hbody cdv A outer s H vs Q E hr hsp
  exact ⟨t, h.nox, q⟩
/-- how its arguments bind (no defaults): h is «fun _ _ _ _ _ _ us hl => match us, hl with | [_, _], _ => rfl», one _ a parameter -/
theorem Fun.binds {x qual : Str} {st : Stmt} {f : Addr} {fd : FuncData} {ps : List Str} (F : Fun K x qual st f fd)
    (h : ∀ (kV doc pm : Value) (an : Option Addr) (cdv ct : Value) (us : List Value), us.length = ps.length → bindArgs (PySem.W.fnOf x qual (defArgs st) (defBody st) (defScope st) .none kV doc pm an cdv ct) ⟨us, []⟩ = pure (ps.zip us)) : Binds K fd ps [] := by
  obtain ⟨oc, od, kV, doc, pm, an, cdv, ct, osl, rfl, lk, hcd⟩ := F.ex
  exact .all (h kV doc pm an cdv ct)
theorem fun_mk {x qual : Str} {st : Stmt} {f : Addr} {oc : Value} {od an : Option Addr} {osl : Array (Option Value)} {kV doc pm cdv ct : Value} (l : K.lookup f = some ⟨oc, od, .func (PySem.W.fnOf x qual (defArgs st) (defBody st) (defScope st) .none kV doc pm an cdv ct), osl⟩)
    (c : PySem.W.codeIn K cdv qual = true) (k : PySem.W.keepIn K (.ref f) = true) : Fun K x qual st f (PySem.W.fnOf x qual (defArgs st) (defBody st) (defScope st) .none kV doc pm an cdv ct) := ⟨⟨oc, od, kV, doc, pm, an, cdv, ct, osl, rfl, l, c⟩, k⟩
end
theorem hu_of {A : Around} {k : Nat} (hr : Room k A) : A.units + 1 < cLine := Nat.lt_of_le_of_lt (Nat.add_le_add_left (by decide : 1 ≤ 64) _) hr.units

section
variable {X : Cx}
theorem pv (i : Nat) {x : Str} {pos : Pos} (hN : X.N[i]? = some x := by rfl) (hv : Vis X.env.scope x := by first | exact Or.inl rfl | exact Or.inr (Or.inl rfl) | exact Or.inr (Or.inr rfl)) (hd : (x == ("__debug__" : Str)) = false := by decide)
    (hcd : (x == ("__classdict__" : Str)) = false := by decide) : PE X (.Name x pos) (tVar i) := pe_var hN hv hd hcd
end

theorem iteF {A B : Prop} (h : B) : if false = true then A else B := by
  rw [if_neg Bool.false_ne_true]
  exact h
theorem ite2 {c A B : Prop} [Decidable c] (h1 : c → A) (h2 : ¬ c → B) : if c then A else B := by
  by_cases h : c
  · rw [if_pos h]
    exact h1 h
  · rw [if_neg h]
    exact h2 h

/-- all that was tracked is as it was -/
def Same (H H' : Hp) : Prop := ∀ b o, H b = some o → H' b = some o
theorem Same.refl (H : Hp) : Same H H := fun _ _ h => h
theorem Same.trans {H H1 H2 : Hp} (a : Same H H1) (b : Same H1 H2) : Same H H2 := fun c o h => b c o (a c o h)
theorem Same.free {H H' : Hp} (e : Same H H') {l : Addr} (h : H' l = Option.none) : H l = Option.none := by
  cases q : H l with
  | none => rfl
  | some o =>
    rw [e l o q] at h
    cases h

section
variable {κ : Type} [DecidableEq κ]
theorem valV_not {kvs : List (κ × V)} {k : κ} (h : valV kvs k = none) : ¬ k ∈ kvs.map (·.1) := by
  intro m
  obtain ⟨p, hp, e⟩ := List.mem_map.mp m
  have q : (kvs.any fun kv => decide (kv.1 = k)) = true := List.any_eq_true.mpr ⟨p, hp, decide_eq_true e⟩
  rw [valV_any, h] at q
  exact absurd q (by simp)
theorem nd_snoc : ∀ {l : List κ} {k : κ}, l.Nodup → ¬ k ∈ l → (l ++ [k]).Nodup
  | [], k, _, _ => by simp
  | a :: r, k, h, hk => by
    obtain ⟨h1, h2⟩ := List.nodup_cons.mp h
    show (a :: (r ++ [k])).Nodup
    refine List.nodup_cons.mpr ⟨fun m => ?_, nd_snoc h2 fun m => hk (List.mem_cons.mpr (Or.inr m))⟩
    rcases List.mem_append.mp m with q | q
    · exact h1 q
    · exact hk (List.mem_cons.mpr (Or.inl (List.mem_singleton.mp q).symm))
theorem nd_putK {kvs : List (κ × V)} {k : κ} (v : V) (hn : (kvs.map (·.1)).Nodup) (h : valV kvs k = none) : ((putK kvs k v).map (·.1)).Nodup := by
  rw [putK_new v h, List.map_append]
  exact nd_snoc hn (valV_not h)
end
end L2

/-! The program's mirror over plain numbers, and that it does what Md23's cycle does. -/
namespace Fs
abbrev W32 : Nat := 4294967296

structure Ord where
  place : Nat
  kind : Nat
  target : Nat
  first : Nat
  second : Nat
  number : Int
  branches : Bool
  following : Nat
  aim : Nat
  guessAt : Nat

def kW (k : Nat) : Bool := decide (k ≤ 7) || k == 11
def kA (k : Nat) : Bool := decide (k ≤ 10)
def kB (k : Nat) : Bool := decide (k ≤ 5) || (k == 8 || (k == 9 || k == 10))
def num (w : Nat) : Int := if 32768 ≤ w / 65536 then ((w / 65536 : Nat) : Int) - 65536 else ((w / 65536 : Nat) : Int)
def mkOrd (p w : Nat) : Ord where
  place := p
  kind := w % 16
  target := if kW (w % 16) = true then w / 16 % 16 else 0
  first := if kA (w % 16) = true then w / 256 % 16 else 0
  second := if kB (w % 16) = true then w / 4096 % 16 else 0
  number := num w
  branches := w % 16 == 9 || w % 16 == 10
  following := (p + 1) % W32
  aim := (((p : Int) + num w) % (W32 : Int)).toNat
  guessAt := p % 16
def wordAt (ws : List Nat) (q : Nat) : Nat := ws.getD q 12
def ordAt (ws : List Nat) (q : Nat) : Ord := mkOrd q (wordAt ws q)

def sgn (v : Nat) : Int := if 2147483648 ≤ v then (v : Int) - 4294967295 - 1 else (v : Int)

def resM (o : Ord) (x y : Nat) : Nat := match o.kind with
  | 0 => (x + y) % W32
  | 1 => (((x : Int) - (y : Int)) % (W32 : Int)).toNat
  | 2 => x &&& y
  | 3 => x ||| y
  | 4 => x ^^^ y
  | 5 => if sgn x < sgn y then 1 else 0
  | 6 => (((x : Int) + o.number) % (W32 : Int)).toNat
  | 7 => (((x : Int) + o.number) % (W32 : Int)).toNat
  | 8 => (((x : Int) + o.number) % (W32 : Int)).toNat
  | 9 => if x = y then 1 else 0
  | 10 => if x ≠ y then 1 else 0
  | 11 => o.following
  | _ => 0

/-- the state but the counts -/
structure MS where
  place : Nat
  fetches : Bool
  ended : Bool
  rd : Option Nat
  rk : Option (Nat × Nat × Nat)
  im : Option (Nat × Nat × Nat)
  wr : Option (Nat × Nat)
  regs : List Nat
  guess : List Nat
  mem : List Nat
  deriving DecidableEq
structure Cnt where
  cycles : Nat
  done : Nat
  waited : Nat
  lost : Nat

structure Pg where
  ws : List Nat
  hands : Bool
  gs : Bool

section
variable (P : Pg)
def newWr (number value : Nat) (wr : Option (Nat × Nat)) : Nat := match wr with
  | some (q', v) => if (ordAt P.ws q').target = number then v else value
  | none => value
def newM (number value : Nat) (im : Option (Nat × Nat × Nat)) (wr : Option (Nat × Nat)) : Nat :=
  if number = 0 then value
  else match im with
    | some (q, x, _) => if (ordAt P.ws q).target = number ∧ (ordAt P.ws q).kind ≠ 7 then x else newWr P number value wr
    | none => newWr P number value wr
def needsM (o : Ord) (t : Nat) : Bool := t != 0 && (t == o.first || t == o.second)
def reckM (hands : Bool) (m : MS) (q x y : Nat) : Nat × Nat × Nat :=
  let o := ordAt P.ws q
  let x' := if hands = true then newM P o.first x m.im m.wr else x
  let y' := if hands = true then newM P o.second y m.im m.wr else y
  (q, resM o x' y', y')
def regsM (m : MS) : List Nat := match m.wr with
  | some (q, v) => if (ordAt P.ws q).target ≠ 0 then m.regs.set (ordAt P.ws q).target v else m.regs
  | none => m.regs
def endM (m : MS) : Bool := match m.wr with
  | some (q, _) => if (ordAt P.ws q).kind = 12 then true else m.ended
  | none => m.ended
def doneM (m : MS) : Nat := match m.wr with
  | some (q, _) => if (ordAt P.ws q).kind = 12 then 0 else 1
  | none => 0
def wrM (m : MS) : Option (Nat × Nat) := match m.im with
  | some (q, x, _) => some (q, if (ordAt P.ws q).kind = 7 then m.mem.getD (x % 1024) 0 else x)
  | none => none
def memM (m : MS) : List Nat := match m.im with
  | some (q, x, y) => if (ordAt P.ws q).kind = 8 then m.mem.set (x % 1024) y else m.mem
  | none => m.mem
def imM (m : MS) : Option (Nat × Nat × Nat) := match m.rk with
  | some (q, x, y) => some (reckM P P.hands m q x y)
  | none => none
def guessM (m : MS) : List Nat := match imM P m with
  | some (q, r, _) => if (ordAt P.ws q).branches = true then
      m.guess.set (ordAt P.ws q).guessAt (if r = 1 then min 3 (m.guess.getD (ordAt P.ws q).guessAt 0 + 1) else m.guess.getD (ordAt P.ws q).guessAt 0 - 1) else m.guess
  | none => m.guess
def rightM (m : MS) : Option Nat := match imM P m with
  | some (q, r, _) => if (ordAt P.ws q).branches = true then
      let rp := if r = 1 then (ordAt P.ws q).aim else (ordAt P.ws q).following
      let fp := match m.rd with | some q' => q' | none => m.place
      if rp = fp then none else some rp
    else none
  | none => none
def waitM (m : MS) : Bool := match m.rd with
  | some q =>
    let o := ordAt P.ws q
    if P.hands = true then (match m.rk with | some (q', _, _) => (ordAt P.ws q').kind == 7 && needsM o (ordAt P.ws q').target | none => false)
    else (match m.rk with | some (q', _, _) => needsM o (ordAt P.ws q').target | none => false) || (match m.im with | some (q', _, _) => needsM o (ordAt P.ws q').target | none => false)
  | none => false
def goesM (m : MS) : Bool :=
  let o := ordAt P.ws m.place
  o.kind == 11 || (o.branches && (P.gs && decide (2 ≤ m.guess.getD o.guessAt 0)))
def stepM (m : MS) : MS :=
  let t : MS := { m with regs := regsM P m, ended := endM P m, wr := wrM P m, mem := memM P m, im := imM P m, guess := guessM P m }
  match rightM P m with
  | some rp => { t with rd := none, rk := none, place := rp, fetches := true }
  | none =>
    if waitM P m = true then { t with rk := none }
    else
      let rk : Option (Nat × Nat × Nat) := match m.rd with
        | some q => some (q, (regsM P m).getD (ordAt P.ws q).first 0, (regsM P m).getD (ordAt P.ws q).second 0)
        | none => none
      if m.fetches = true then
        let o := ordAt P.ws m.place
        { t with rk := rk, rd := some m.place, fetches := o.kind != 12, place := if goesM P m = true then o.aim else o.following }
      else { t with rk := rk, rd := none }
def lostM (m : MS) : Nat := match rightM P m with
  | some _ => (match m.rd with | some _ => 2 | none => 1)
  | none => 0
def waitedM (m : MS) : Nat := match rightM P m with
  | some _ => 0
  | none => if waitM P m = true then 1 else 0
def cntM (m : MS) (c : Cnt) : Cnt := ⟨c.cycles + 1, c.done + doneM P m, c.waited + waitedM P m, c.lost + lostM P m⟩
/-- so many cycles, none behind the end -/
def runM : Nat → MS × Cnt → MS × Cnt
  | 0, s => s
  | n + 1, s => if s.1.ended = true then s else runM n (stepM P s.1, cntM P s.1 s.2)
end
def startM : MS := ⟨0, true, false, none, none, none, none, List.replicate 16 0, List.replicate 16 1, List.replicate 1024 0⟩
def cnt0 : Cnt := ⟨0, 0, 0, 0⟩
end Fs

namespace Fs
open Md23 (Pipe Flight Order)

def dec (x : Nat) : Order := ⟨x % 16, x / 16 % 16, x / 256 % 16, x / 4096 % 16, if x / 65536 % 65536 < 32768 then ((x / 65536 % 65536 : Nat) : Int) else ((x / 65536 % 65536 : Nat) : Int) - 65536⟩
theorem orderOf_eq (x : Nat) : Md23.orderOf x = if 12 < x % 16 then none else some (dec x) := rfl
theorem orders_get : ∀ {ws : List Nat} {Pr : Md23.Prog}, Md23.orders ws = some Pr → ∀ q : Nat, Md23.at_ Pr q = dec (wordAt ws q)
  | [], Pr, h, q => by
    have e : Pr = [] := (Option.some.inj (show some [] = some Pr from h)).symm
    subst e
    show Md23.at_ [] q = dec (wordAt [] q)
    unfold Md23.at_ wordAt
    rw [List.getD_eq_getElem?_getD, List.getD_eq_getElem?_getD, List.getElem?_nil, List.getElem?_nil]
    rfl
  | x :: l, Pr, h, q => by
    unfold Md23.orders at h
    rw [orderOf_eq] at h
    by_cases hx : 12 < x % 16
    · rw [if_pos hx] at h; cases h
    · rw [if_neg hx] at h
      cases e : Md23.orders l with
      | none => rw [e] at h; cases h
      | some p =>
        rw [e] at h
        have e2 : Pr = dec x :: p := (Option.some.inj (show some (dec x :: p) = some Pr from h)).symm
        subst e2
        cases q with
        | zero => rfl
        | succ k => exact orders_get e k
theorem orders_some : ∀ {ws : List Nat}, (∀ x ∈ ws, x % 16 ≤ 12) → ∃ Pr, Md23.orders ws = some Pr
  | [], _ => ⟨[], rfl⟩
  | x :: l, h => by
    obtain ⟨p, e⟩ := orders_some (ws := l) fun y hy => h y (List.mem_cons_of_mem _ hy)
    have hx := h x List.mem_cons_self
    refine ⟨dec x :: p, ?_⟩
    unfold Md23.orders
    rw [orderOf_eq, if_neg (by omega), e]
theorem orders_none : ∀ {ws : List Nat}, (∃ x ∈ ws, 12 < x % 16) → Md23.orders ws = none
  | [], ⟨x, hx, _⟩ => by cases hx
  | x :: l, ⟨y, hy, hk⟩ => by
    unfold Md23.orders
    rw [orderOf_eq]
    rcases List.mem_cons.mp hy with e | hy
    · subst e
      rw [if_pos hk]
    · rw [orders_none (ws := l) ⟨y, hy, hk⟩]
      by_cases hx : 12 < x % 16
      · rw [if_pos hx]
      · rw [if_neg hx]

/-- all words are orders -/
def OkW (ws : List Nat) : Prop := ∀ x ∈ ws, x < W32 ∧ x % 16 ≤ 12
theorem wordAt_ok {ws : List Nat} (h : OkW ws) (q : Nat) : wordAt ws q < W32 ∧ wordAt ws q % 16 ≤ 12 := by
  unfold wordAt
  rw [List.getD_eq_getElem?_getD]
  cases e : ws[q]? with
  | none => exact ⟨by decide, by decide⟩
  | some x => exact h x (List.mem_of_getElem? e)

theorem num_eq {w : Nat} (h : w < W32) : num w = (dec w).n := by
  have h1 : w / 65536 < 65536 := by
    have : w < 4294967296 := h
    omega
  have e : w / 65536 % 65536 = w / 65536 := Nat.mod_eq_of_lt h1
  show (if 32768 ≤ w / 65536 then _ else _) = if w / 65536 % 65536 < 32768 then _ else _
  rw [e]
  by_cases c : 32768 ≤ w / 65536
  · rw [if_pos c, if_neg (by omega)]
  · rw [if_neg c, if_pos (by omega)]

/-- the order at its place, as both tell it -/
structure Same (o : Ord) (so : Order) (q : Nat) : Prop where
  place : o.place = q
  kind : o.kind = so.op
  le : so.op ≤ 12
  tgt : o.target = if so.writes = true then so.d else 0
  wr : so.writes = (o.target != 0)
  fst : o.first = if so.readsA = true then so.a else 0
  snd : o.second = if so.readsB = true then so.b else 0
  num : o.number = so.n
  br : o.branches = (so.op == 9 || so.op == 10)
  fol : o.following = Md23.word ((q : Int) + 1)
  aim : o.aim = Md23.target so q
  ga : o.guessAt = q % 16

theorem same_of {ws : List Nat} {Pr : Md23.Prog} (h : OkW ws) (e : Md23.orders ws = some Pr) (q : Nat) : Same (ordAt ws q) (Md23.at_ Pr q) q := by
  rw [orders_get e q]
  obtain ⟨h1, h2⟩ := wordAt_ok h q
  have hn := num_eq h1
  generalize hw : wordAt ws q = w at *
  have eo : ordAt ws q = mkOrd q w := by unfold ordAt; rw [hw]
  rw [eo]
  have hW : kW (w % 16) = (decide ((dec w).op ≤ 7) || (dec w).op == 11) := rfl
  have hA : kA (w % 16) = (dec w).readsA := rfl
  have hB : kB (w % 16) = (dec w).readsB := rfl
  have hwr : (dec w).writes = ((dec w).d != 0 && kW (w % 16)) := rfl
  have ed : (dec w).d = w / 16 % 16 := rfl
  refine ⟨rfl, rfl, h2, ?_, ?_, ?_, ?_, hn, rfl, ?_, ?_, rfl⟩
  · show (if kW (w % 16) = true then w / 16 % 16 else 0) = _
    rw [hwr, ed]
    cases kW (w % 16) <;> by_cases c : w / 16 % 16 = 0 <;> simp [c]
  · show _ = ((if kW (w % 16) = true then w / 16 % 16 else 0) != 0)
    rw [hwr, ed]
    cases kW (w % 16) <;> simp
  · show (if kA (w % 16) = true then w / 256 % 16 else 0) = _
    rw [hA]; rfl
  · show (if kB (w % 16) = true then w / 4096 % 16 else 0) = _
    rw [hB]; rfl
  · show (q + 1) % W32 = (((q : Int) + 1) % ((Md23.W : Nat) : Int)).toNat
    have : (Md23.W : Nat) = W32 := rfl
    rw [this]
    show (q + 1) % 4294967296 = (((q : Int) + 1) % 4294967296).toNat
    omega
  · show (((q : Int) + Fs.num w) % (W32 : Int)).toNat = (((q : Int) + (dec w).n) % ((Md23.W : Nat) : Int)).toNat
    rw [hn]
    rfl

theorem sgn_eq (v : Nat) : sgn v = Md23.signed v := by
  unfold sgn Md23.signed
  have : (Md23.W : Nat) = 4294967296 := rfl
  rw [this]
  by_cases c : 2147483648 ≤ v
  · rw [if_pos c, if_neg (by omega)]; omega
  · rw [if_neg c, if_pos (by omega)]

/-- what is reckoned -/
theorem res_eq {o : Ord} {so : Order} {q : Nat} (S : Same o so q) (h9 : so.op ≠ 9) (h10 : so.op ≠ 10) {x y a b : Nat} (hx : so.readsA = true → x = a) (hy : so.readsB = true → y = b) : resM o x y = Md23.reckon so q a b := by
  have hle := S.le
  unfold resM Md23.reckon
  rw [S.kind]
  have hA : so.readsA = decide (so.op ≤ 10) := rfl
  have hB : so.readsB = (decide (so.op ≤ 5) || (so.op == 8 || (so.op == 9 || so.op == 10))) := rfl
  rw [hA] at hx
  rw [hB] at hy
  have hn := S.num
  have hf := S.fol
  rcases so with ⟨op, d, ra, rb, n⟩
  simp only at *
  have e32 : (Md23.W : Nat) = W32 := rfl
  match op, hle with
  | 0, _ => rw [hx rfl, hy rfl]; rfl
  | 1, _ => rw [hx rfl, hy rfl]; rfl
  | 2, _ => rw [hx rfl, hy rfl]; rfl
  | 3, _ => rw [hx rfl, hy rfl]; rfl
  | 4, _ => rw [hx rfl, hy rfl]; rfl
  | 5, _ => rw [hx rfl, hy rfl]; simp only [sgn_eq]
  | 6, _ => rw [hx rfl, hn]; rfl
  | 7, _ => rw [hx rfl, hn]; rfl
  | 8, _ => rw [hx rfl, hn]; rfl
  | 9, _ => exact absurd rfl h9
  | 10, _ => exact absurd rfl h10
  | 11, _ => exact hf
  | 12, _ => rfl
theorem goes_eq {o : Ord} {so : Order} {q : Nat} (S : Same o so q) (hb : o.branches = true) (x y : Nat) : (resM o x y = 1) = (Md23.goes so x y = true) := by
  rw [S.br] at hb
  unfold resM Md23.goes
  rw [S.kind]
  rcases so with ⟨op, d, ra, rb, n⟩
  simp only [Bool.or_eq_true, beq_iff_eq] at hb
  simp only
  rcases hb with rfl | rfl
  · by_cases c : x = y <;> simp [c]
  · by_cases c : x = y <;> simp [c]

inductive OR {α β : Type} (r : α → β → Prop) : Option α → Option β → Prop
  | none : OR r none none
  | some {a : α} {b : β} : r a b → OR r (some a) (some b)

abbrev NextOk (f : Flight) : Prop := f.o.op ≠ 9 → f.o.op ≠ 10 → f.next = if f.o.op = 11 then Md23.target f.o f.pc else Md23.word ((f.pc : Int) + 1)
structure RFd (Pr : Md23.Prog) (place : Nat) (fetches : Bool) (f : Flight) (q : Nat) : Prop where
  pc : f.pc = q
  o : f.o = Md23.at_ Pr q
  nx : place = f.next
  ok : NextOk f
  en : fetches = false → f.o.op = 12
structure RRk (Pr : Md23.Prog) (rd : Option Nat) (f : Flight × Nat × Nat) (q : Nat × Nat × Nat) : Prop where
  pc : f.1.pc = q.1
  o : f.1.o = Md23.at_ Pr q.1
  x : f.1.o.readsA = true → q.2.1 = f.2.1
  y : f.1.o.readsB = true → q.2.2 = f.2.2
  nx : f.1.o.op ≠ 12 → rd = some f.1.next
  ok : NextOk f.1
structure RIm (Pr : Md23.Prog) (f : Flight × Nat × Nat) (q : Nat × Nat × Nat) : Prop where
  pc : f.1.pc = q.1
  o : f.1.o = Md23.at_ Pr q.1
  x : f.1.o.op ≠ 9 → f.1.o.op ≠ 10 → q.2.1 = f.2.1
  y : f.1.o.op = 8 → q.2.2 = f.2.2
structure RWr (Pr : Md23.Prog) (f : Flight × Nat) (q : Nat × Nat) : Prop where
  pc : f.1.pc = q.1
  o : f.1.o = Md23.at_ Pr q.1
  x : f.1.o.writes = true → q.2 = f.2

/-- the two states -/
structure Rel (Pr : Md23.Prog) (s : Pipe) (m : MS) (c : Cnt) : Prop where
  pc : s.pc = m.place
  regs : s.regs = m.regs
  mem : s.mem = m.mem
  guess : s.guess = m.guess
  fet : s.ended = !m.fetches
  over : s.over = m.ended
  cyc : s.cycles = c.cycles
  dn : s.done = c.done
  wts : s.waits = c.waited
  lst : s.lost = c.lost
  glen : m.guess.length = 16
  r0 : m.regs.getD 0 0 = 0
  fd : OR (RFd Pr m.place m.fetches) s.fetched m.rd
  rk : OR (RRk Pr m.rd) s.ready m.rk
  im : OR (RIm Pr) s.reckoned m.im
  wr : OR (RWr Pr) s.through m.wr

/-! the cycle's parts -/
def spRegs (regs : List Nat) (th : Option (Flight × Nat)) : List Nat := match th with
  | some (f, v) => if f.o.writes = true then Md23.put regs f.o.d v else regs
  | none => regs
def spOver (th : Option (Flight × Nat)) : Bool := match th with
  | some (f, _) => f.o.op == 12
  | none => false
def spMem (mem : List Nat) (rk : Option (Flight × Nat × Nat)) : List Nat := match rk with
  | some (f, v, b) => if f.o.op = 8 then mem.set (v % Md23.WORDS) b else mem
  | none => mem
def spThrough (mem : List Nat) (rk : Option (Flight × Nat × Nat)) : Option (Flight × Nat) := rk.map fun x => (x.1, if x.1.o.op = 7 then mem.getD (x.2.1 % Md23.WORDS) 0 else x.2.1)
def spTail (th : Option (Flight × Nat)) (r v : Nat) : Nat := match th with
  | some (g, y) => if g.o.writes = true ∧ g.o.d = r then y else v
  | none => v
def spHanded (h : Bool) (rk : Option (Flight × Nat × Nat)) (th : Option (Flight × Nat)) (r v : Nat) : Nat :=
  if h = false ∨ r = 0 then v
  else match rk with
    | some (f, x, _) => if f.o.writes = true ∧ f.o.d = r ∧ f.o.op ≠ 7 then x else spTail th r v
    | none => spTail th r v
theorem handed_eq (w : Md23.Way) (s : Pipe) (r v : Nat) : Md23.handed w s r v = spHanded w.hands s.reckoned s.through r v := by
  unfold Md23.handed spHanded
  cases s.reckoned <;> rfl

/-- writing -/
theorem wr_regs {P : Pg} {Pr : Md23.Prog} (ok : OkW P.ws) (hP : Md23.orders P.ws = some Pr) {th : Option (Flight × Nat)} {m : MS} (h : OR (RWr Pr) th m.wr) (hr : m.regs.getD 0 0 = 0) :
    spRegs m.regs th = regsM P m ∧ (regsM P m).getD 0 0 = 0 := by
  unfold regsM
  generalize m.wr = w at h
  cases h with
  | none => exact ⟨rfl, hr⟩
  | @some a b r =>
    obtain ⟨f, v⟩ := a
    obtain ⟨q, x⟩ := b
    obtain ⟨h1, h2, h3⟩ := r
    simp only [spRegs] at h1 h2 h3 ⊢
    have S := same_of ok hP q
    rw [h2] at h3 ⊢
    have ht := S.tgt
    have hw2 := S.wr
    by_cases hw : (Md23.at_ Pr q).writes = true
    · rw [if_pos hw] at ht
      rw [hw] at hw2
      have hne : (ordAt P.ws q).target ≠ 0 := by simpa using hw2.symm
      have hd : (Md23.at_ Pr q).d ≠ 0 := by rw [← ht]; exact hne
      rw [if_pos hw, if_pos hne, ht, h3 hw]
      refine ⟨by simp [Md23.put, hd], ?_⟩
      rw [List.getD_eq_getElem?_getD, List.getElem?_set_ne hd, ← List.getD_eq_getElem?_getD]
      exact hr
    · have hwf : (Md23.at_ Pr q).writes = false := by simpa using hw
      rw [hwf] at hw2
      have he : (ordAt P.ws q).target = 0 := by simpa using hw2
      rw [if_neg hw, if_neg (by simp [he])]
      exact ⟨rfl, hr⟩
theorem wr_over {P : Pg} {Pr : Md23.Prog} (ok : OkW P.ws) (hP : Md23.orders P.ws = some Pr) {th : Option (Flight × Nat)} {m : MS} (h : OR (RWr Pr) th m.wr) (he : m.ended = false) :
    spOver th = endM P m ∧ (if th.isSome = true ∧ endM P m = false then 1 else 0) = doneM P m := by
  unfold endM doneM
  generalize m.wr = w at h
  cases h with
  | none => exact ⟨he.symm, rfl⟩
  | @some a b r =>
    obtain ⟨f, v⟩ := a
    obtain ⟨q, x⟩ := b
    obtain ⟨h1, h2, h3⟩ := r
    simp only [spOver] at h1 h2 h3 ⊢
    have S := same_of ok hP q
    have hk := S.kind
    rw [h2]
    by_cases c : (Md23.at_ Pr q).op = 12 <;> simp [hk, c, he]
/-- memory -/
theorem im_mem {P : Pg} {Pr : Md23.Prog} (ok : OkW P.ws) (hP : Md23.orders P.ws = some Pr) {rk : Option (Flight × Nat × Nat)} {m : MS} (h : OR (RIm Pr) rk m.im) :
    spMem m.mem rk = memM P m ∧ OR (RWr Pr) (spThrough m.mem rk) (wrM P m) := by
  unfold memM wrM
  generalize m.im = w at h
  cases h with
  | none => exact ⟨rfl, .none⟩
  | @some a b r =>
    obtain ⟨f, v, y⟩ := a
    obtain ⟨q, x, z⟩ := b
    obtain ⟨h1, h2, h3, h4⟩ := r
    simp only [spMem, spThrough, Option.map_some] at h1 h2 h3 h4 ⊢
    have S := same_of ok hP q
    have hk := S.kind
    rw [h2] at h3 h4
    have eW : (Md23.WORDS : Nat) = 1024 := rfl
    rw [h2, hk, eW]
    constructor
    · by_cases c : (Md23.at_ Pr q).op = 8
      · rw [if_pos c, if_pos c, h4 c, h3 (by omega) (by omega)]
      · rw [if_neg c, if_neg c]
    · refine .some ⟨h1, h2, fun hw => ?_⟩
      simp only at hw ⊢
      rw [h2] at hw
      have hw' : ((Md23.at_ Pr q).d != 0 && (decide ((Md23.at_ Pr q).op ≤ 7) || (Md23.at_ Pr q).op == 11)) = true := hw
      simp at hw'
      rw [h3 (by omega) (by omega)]
/-- values handed on -/
theorem tail_eq {P : Pg} {Pr : Md23.Prog} (ok : OkW P.ws) (hP : Md23.orders P.ws = some Pr) {th : Option (Flight × Nat)} {wr : Option (Nat × Nat)} (hw : OR (RWr Pr) th wr) {r : Nat} (v : Nat) (hr : r ≠ 0) : newWr P r v wr = spTail th r v := by
  cases hw with
  | none => rfl
  | @some a b h =>
    obtain ⟨f, y⟩ := a
    obtain ⟨q, x⟩ := b
    obtain ⟨h1, h2, h3⟩ := h
    simp only [newWr, spTail] at h1 h2 h3 ⊢
    have S := same_of ok hP q
    rw [h2] at h3 ⊢
    rw [S.tgt]
    by_cases c : (Md23.at_ Pr q).writes = true
    · rw [if_pos c, h3 c]
      simp [c]
    · rw [if_neg c, if_neg (fun e => hr e.symm), if_neg (fun e => c e.1)]
theorem new_eq {P : Pg} {Pr : Md23.Prog} (ok : OkW P.ws) (hP : Md23.orders P.ws = some Pr) {rk : Option (Flight × Nat × Nat)} {th : Option (Flight × Nat)} {im : Option (Nat × Nat × Nat)} {wr : Option (Nat × Nat)} (hi : OR (RIm Pr) rk im) (hw : OR (RWr Pr) th wr) (r v : Nat) :
    (if P.hands = true then newM P r v im wr else v) = spHanded P.hands rk th r v := by
  unfold spHanded newM
  cases P.hands with
  | false => simp
  | true =>
    by_cases hr : r = 0
    · simp [hr]
    · simp only [hr, Bool.true_eq_false, or_self, if_false, if_true]
      rw [tail_eq ok hP hw v hr]
      cases hi with
      | none => rfl
      | @some a b h =>
        obtain ⟨f, y, z⟩ := a
        obtain ⟨q, x, z'⟩ := b
        obtain ⟨h1, h2, h3, h4⟩ := h
        simp only at h1 h2 h3 ⊢
        have S := same_of ok hP q
        rw [h2] at h3 ⊢
        rw [S.tgt, S.kind]
        by_cases c : (Md23.at_ Pr q).writes = true
        · have hw' : ((Md23.at_ Pr q).d != 0 && (decide ((Md23.at_ Pr q).op ≤ 7) || (Md23.at_ Pr q).op == 11)) = true := c
          simp at hw'
          rw [if_pos c, h3 (by omega) (by omega)]
          simp [c]
        · rw [if_neg c, if_neg (fun e => hr e.1.symm), if_neg (fun e => c e.1)]
end Fs

namespace Fs
open Md23 (Pipe Flight Order)

def spVa (h : Bool) (rk : Option (Flight × Nat × Nat)) (th : Option (Flight × Nat)) (x : Flight × Nat × Nat) : Nat := spHanded h rk th x.1.o.a x.2.1
def spVb (h : Bool) (rk : Option (Flight × Nat × Nat)) (th : Option (Flight × Nat)) (x : Flight × Nat × Nat) : Nat := spHanded h rk th x.1.o.b x.2.2
def spReck (h : Bool) (rd rk : Option (Flight × Nat × Nat)) (th : Option (Flight × Nat)) : Option (Flight × Nat × Nat) :=
  rd.map fun x => (x.1, Md23.reckon x.1.o x.1.pc (spVa h rk th x) (spVb h rk th x), spVb h rk th x)
def spTurned (h : Bool) (rd rk : Option (Flight × Nat × Nat)) (th : Option (Flight × Nat)) : Option (Bool × Flight × Nat) :=
  rd.map fun x => (Md23.goes x.1.o (spVa h rk th x) (spVb h rk th x), x.1, if Md23.goes x.1.o (spVa h rk th x) (spVb h rk th x) = true then Md23.target x.1.o x.1.pc else Md23.word ((x.1.pc : Int) + 1))
def spWrong (t : Option (Bool × Flight × Nat)) : Option Nat := t.bind fun x => if x.2.1.o.op ≠ 12 ∧ x.2.2 ≠ x.2.1.next then some x.2.2 else none
def spGuess (g : List Nat) (t : Option (Bool × Flight × Nat)) : List Nat := match t with
  | some (b, f, _) => if f.o.op = 9 ∨ f.o.op = 10 then g.set (f.pc % 16) (if b = true then min 3 (g.getD (f.pc % 16) 1 + 1) else g.getD (f.pc % 16) 1 - 1) else g
  | none => g
def spWaits (h : Bool) (fe : Option Flight) (rd rk : Option (Flight × Nat × Nat)) : Bool :=
  (fe.map fun f =>
    if h = true then ((rd.map fun x => x.1.o).getD Md23.HALT).op == 7 && Md23.needs f.o ((rd.map fun x => x.1.o).getD Md23.HALT)
    else Md23.needs f.o ((rd.map fun x => x.1.o).getD Md23.HALT) || Md23.needs f.o ((rk.map fun x => x.1.o).getD Md23.HALT)).getD false
def spCycle (Pr : Md23.Prog) (w : Md23.Way) (s : Pipe) : Pipe :=
  let tu := spTurned w.hands s.ready s.reckoned s.through
  let t : Pipe := { s with regs := spRegs s.regs s.through, mem := spMem s.mem s.reckoned, reckoned := spReck w.hands s.ready s.reckoned s.through, through := spThrough s.mem s.reckoned, guess := spGuess s.guess tu, cycles := s.cycles + 1, done := s.done + (if s.through.isSome = true ∧ spOver s.through = false then 1 else 0), over := spOver s.through }
  match spWrong tu with
  | some pc => { t with pc := pc, fetched := none, ready := none, ended := false, lost := s.lost + (if s.fetched.isSome = true then 1 else 0) + 1 }
  | none =>
    if spWaits w.hands s.fetched s.ready s.reckoned = true then { t with ready := none, waits := s.waits + 1 }
    else
      let ready : Option (Flight × Nat × Nat) := s.fetched.map fun f => (f, Md23.reg (spRegs s.regs s.through) f.o.a, Md23.reg (spRegs s.regs s.through) f.o.b)
      if s.ended = true then { t with ready := ready, fetched := none }
      else
        let o := Md23.at_ Pr s.pc
        let next := Md23.guessed w s s.pc o
        { t with ready := ready, fetched := some ⟨s.pc, o, next⟩, pc := next, ended := o.op == 12 }
theorem cycle_eq (Pr : Md23.Prog) (w : Md23.Way) (s : Pipe) (h : s.over = false) : Md23.cycle Pr w s = spCycle Pr w s := by
  unfold Md23.cycle
  rw [if_neg (by simp [h])]
  unfold spCycle spTurned spReck spVa spVb spWaits Md23.mustWait
  simp only [handed_eq]
  rfl

section
variable {P : Pg} {Pr : Md23.Prog} (ok : OkW P.ws) (hP : Md23.orders P.ws = some Pr)
include ok hP
/-- the values reckoned with -/
theorem vals_eq {rk : Option (Flight × Nat × Nat)} {th : Option (Flight × Nat)} {im : Option (Nat × Nat × Nat)} {wr : Option (Nat × Nat)} (hi : OR (RIm Pr) rk im) (hw : OR (RWr Pr) th wr) {rd : Option Nat} {f : Flight × Nat × Nat} {q : Nat × Nat × Nat} (h : RRk Pr rd f q) :
    (f.1.o.readsA = true → (if P.hands = true then newM P (ordAt P.ws q.1).first q.2.1 im wr else q.2.1) = spVa P.hands rk th f) ∧
    (f.1.o.readsB = true → (if P.hands = true then newM P (ordAt P.ws q.1).second q.2.2 im wr else q.2.2) = spVb P.hands rk th f) := by
  obtain ⟨f, x, y⟩ := f
  obtain ⟨q, x', y'⟩ := q
  obtain ⟨h1, h2, h3, h4, _, _⟩ := h
  simp only at *
  have S := same_of ok hP q
  constructor
  · intro hr
    have e := S.fst
    rw [← h2, if_pos hr] at e
    unfold spVa
    rw [e, h3 hr]
    exact new_eq ok hP hi hw _ _
  · intro hr
    have e := S.snd
    rw [← h2, if_pos hr] at e
    unfold spVb
    rw [e, h4 hr]
    exact new_eq ok hP hi hw _ _

theorem reck_rel {s : Pipe} {m : MS} {c : Cnt} (R : Rel Pr s m c) : OR (RIm Pr) (spReck P.hands s.ready s.reckoned s.through) (imM P m) := by
  have h := R.rk
  have hi := R.im
  have hw := R.wr
  unfold spReck imM
  generalize s.ready = a at h
  generalize m.rk = b at h
  cases h with
  | none => exact .none
  | @some a b r =>
    obtain ⟨hx, hy⟩ := vals_eq ok hP hi hw r
    obtain ⟨f, x, y⟩ := a
    obtain ⟨q, x', y'⟩ := b
    obtain ⟨h1, h2, h3, h4, h5, h6⟩ := r
    have S := same_of ok hP q
    simp only [Option.map_some, reckM] at *
    refine .some ⟨h1, h2, fun n9 n10 => ?_, fun n8 => ?_⟩
    · simp only at n9 n10 ⊢
      rw [h1, h2]
      rw [h2] at n9 n10 hx hy
      exact res_eq S n9 n10 hx hy
    · simp only at n8 ⊢
      refine hy ?_
      show (decide (f.o.op ≤ 5) || (f.o.op == 8 || (f.o.op == 9 || f.o.op == 10))) = true
      rw [n8]
      rfl
theorem turn_rel {s : Pipe} {m : MS} {c : Cnt} (R : Rel Pr s m c) :
    spGuess s.guess (spTurned P.hands s.ready s.reckoned s.through) = guessM P m ∧ spWrong (spTurned P.hands s.ready s.reckoned s.through) = rightM P m ∧ (guessM P m).length = 16 := by
  have h := R.rk
  have hi := R.im
  have hw := R.wr
  have hg := R.guess
  have hl := R.glen
  unfold guessM rightM imM spTurned
  rw [hg]
  generalize s.ready = a at h
  generalize m.rk = b at h
  cases h with
  | none => exact ⟨rfl, rfl, hl⟩
  | @some a b r =>
    obtain ⟨hx, hy⟩ := vals_eq ok hP hi hw r
    obtain ⟨f, x, y⟩ := a
    obtain ⟨q, x', y'⟩ := b
    obtain ⟨h1, h2, h3, h4, h5, h6⟩ := r
    have S := same_of ok hP q
    simp only [Option.map_some, reckM, spGuess, spWrong, Option.bind_some] at *
    generalize spVa P.hands s.reckoned s.through (f, x, y) = va at *
    generalize spVb P.hands s.reckoned s.through (f, x, y) = vb at *
    by_cases hb : f.o.op = 9 ∨ f.o.op = 10
    · have hbr : (ordAt P.ws q).branches = true := by
        rw [S.br, ← h2]
        rcases hb with e | e <;> simp [e]
      have hA : f.o.readsA = true := by
        show decide (f.o.op ≤ 10) = true
        rcases hb with e | e <;> simp [e]
      have hB : f.o.readsB = true := by
        show (decide (f.o.op ≤ 5) || (f.o.op == 8 || (f.o.op == 9 || f.o.op == 10))) = true
        rcases hb with e | e <;> simp [e]
      have n12 : f.o.op ≠ 12 := by omega
      have hrd := h5 n12
      have ge := goes_eq S hbr va vb
      rw [← h2] at ge
      simp only [hx hA, hy hB]
      have hlt : q % 16 < m.guess.length := by rw [hl]; omega
      have hd : m.guess.getD (q % 16) 1 = m.guess.getD (q % 16) 0 := by
        rw [List.getD_eq_getElem?_getD, List.getD_eq_getElem?_getD, List.getElem?_eq_getElem hlt]
        rfl
      simp only [if_pos hb, if_pos hbr, S.ga, S.aim, S.fol, h1, hd, hrd, ← h2]
      refine ⟨?_, ?_, by simp [hl]⟩
      · by_cases cg : Md23.goes f.o va vb = true
        · rw [if_pos cg, if_pos (by rw [ge]; exact cg)]
        · rw [if_neg cg, if_neg (by rw [ge]; exact cg)]
      · by_cases cg : Md23.goes f.o va vb = true
        · have cr : resM (ordAt P.ws q) va vb = 1 := by rw [ge]; exact cg
          simp only [if_pos cg, if_pos cr]
          by_cases cn : Md23.target f.o q = f.next <;> simp [cn, n12]
        · have cr : ¬ resM (ordAt P.ws q) va vb = 1 := by rw [ge]; exact cg
          simp only [if_neg cg, if_neg cr]
          by_cases cn : Md23.word ((q : Int) + 1) = f.next <;> simp [cn, n12]
    · have hbr : (ordAt P.ws q).branches = false := by
        rw [S.br, ← h2]
        simpa using hb
      have n9 : f.o.op ≠ 9 := fun e => hb (.inl e)
      have n10 : f.o.op ≠ 10 := fun e => hb (.inr e)
      simp only [if_neg hb, hbr, Bool.false_eq_true, if_false]
      refine ⟨trivial, ?_, hl⟩
      have hn := h6 n9 n10
      have hgo : Md23.goes f.o va vb = (f.o.op == 11) := by
        unfold Md23.goes
        have e9 : (f.o.op == 9) = false := by simp [n9]
        have e10 : (f.o.op == 10) = false := by simp [n10]
        rw [e9, e10]
        simp
      rw [hgo]
      refine if_neg fun z => z.2 ?_
      rw [hn]
      by_cases c11 : f.o.op = 11 <;> simp [c11]
theorem needs_eq {q q' : Nat} : Md23.needs (Md23.at_ Pr q) (Md23.at_ Pr q') = needsM (ordAt P.ws q) (ordAt P.ws q').target := by
  have S := same_of ok hP q
  have S' := same_of ok hP q'
  unfold needsM Md23.needs Md23.writesTo
  have h1 := S'.wr
  have h2 := S'.tgt
  rw [S.fst, S.snd]
  by_cases c : (Md23.at_ Pr q').writes = true
  · rw [if_pos c] at h2
    rw [c] at h1
    rw [← h1, h2, c]
    cases ha : (Md23.at_ Pr q).readsA <;> cases hb : (Md23.at_ Pr q).readsB <;> simp
    all_goals
      have hd : (Md23.at_ Pr q').d ≠ 0 := by
        rw [h2] at h1
        simpa using h1.symm
      simp [hd]
  · have cf : (Md23.at_ Pr q').writes = false := by simpa using c
    rw [cf] at h1 ⊢
    rw [← h1]
    simp
theorem waits_rel {s : Pipe} {m : MS} {c : Cnt} (R : Rel Pr s m c) : spWaits P.hands s.fetched s.ready s.reckoned = waitM P m := by
  have hf := R.fd
  have h := R.rk
  have hi := R.im
  unfold spWaits waitM
  have needs0 : ∀ o : Order, Md23.needs o Md23.HALT = false := by
    intro o
    unfold Md23.needs Md23.writesTo
    have : Md23.HALT.writes = false := rfl
    rw [this]
    simp
  generalize s.fetched = a at hf
  generalize m.rd = b at hf h
  cases hf with
  | none => rfl
  | @some f q r =>
    have hk := r.o
    simp only [Option.map_some, Option.getD_some]
    rw [hk]
    have e1 : (((s.ready.map fun x => x.1.o).getD Md23.HALT).op == 7 && Md23.needs (Md23.at_ Pr q) ((s.ready.map fun x => x.1.o).getD Md23.HALT)) = (match m.rk with | some (q', _, _) => (ordAt P.ws q').kind == 7 && needsM (ordAt P.ws q) (ordAt P.ws q').target | none => false) := by
      generalize s.ready = a at h
      generalize m.rk = b at h
      cases h with
      | none => rfl
      | @some a b r =>
        obtain ⟨q', x', y'⟩ := b
        simp only [Option.map_some, Option.getD_some]
        have e := r.o
        simp only at e
        rw [e, needs_eq ok hP, (same_of ok hP q').kind]
    have e2 : Md23.needs (Md23.at_ Pr q) ((s.ready.map fun x => x.1.o).getD Md23.HALT) = (match m.rk with | some (q', _, _) => needsM (ordAt P.ws q) (ordAt P.ws q').target | none => false) := by
      generalize s.ready = a at h
      generalize m.rk = b at h
      cases h with
      | none => exact needs0 _
      | @some a b r =>
        obtain ⟨q', x', y'⟩ := b
        simp only [Option.map_some, Option.getD_some]
        have e := r.o
        simp only at e
        rw [e, needs_eq ok hP]
    have e3 : Md23.needs (Md23.at_ Pr q) ((s.reckoned.map fun x => x.1.o).getD Md23.HALT) = (match m.im with | some (q', _, _) => needsM (ordAt P.ws q) (ordAt P.ws q').target | none => false) := by
      generalize s.reckoned = a at hi
      generalize m.im = b at hi
      cases hi with
      | none => exact needs0 _
      | @some a b r =>
        obtain ⟨q', x', y'⟩ := b
        simp only [Option.map_some, Option.getD_some]
        have e := r.o
        simp only at e
        rw [e, needs_eq ok hP]
    rw [e1, e2, e3]
    first | done | (cases P.hands <;> rfl)

omit ok hP in
theorem reg_eq' {l : List Nat} (h0 : l.getD 0 0 = 0) (r : Nat) : Md23.reg l r = l.getD r 0 := by
  unfold Md23.reg
  by_cases c : r = 0
  · rw [if_pos c, c, h0]
  · rw [if_neg c]

theorem guessed_eq {s : Pipe} {m : MS} {c : Cnt} (R : Rel Pr s m c) (w : Md23.Way) (hg : w.guesses = P.gs) :
    Md23.guessed w s s.pc (Md23.at_ Pr s.pc) = (if goesM P m = true then (ordAt P.ws m.place).aim else (ordAt P.ws m.place).following) := by
  have S := same_of ok hP m.place
  have eg : goesM P m = ((Md23.at_ Pr m.place).op == 11 || (((Md23.at_ Pr m.place).op == 9 || (Md23.at_ Pr m.place).op == 10) && (P.gs && decide (2 ≤ m.guess.getD (m.place % 16) 0)))) := by
    unfold goesM
    simp only
    rw [S.kind, S.br, S.ga]
  rw [eg]
  unfold Md23.guessed
  rw [hg, R.pc, R.guess, S.aim, S.fol]
  have hlt : m.place % 16 < m.guess.length := by rw [R.glen]; omega
  have hd : m.guess.getD (m.place % 16) 1 = m.guess.getD (m.place % 16) 0 := by
    rw [List.getD_eq_getElem?_getD, List.getD_eq_getElem?_getD, List.getElem?_eq_getElem hlt]
    rfl
  have e16 : (Md23.GUESSES : Nat) = 16 := rfl
  rw [e16, hd]
  by_cases c11 : (Md23.at_ Pr m.place).op = 11
  · simp [c11]
  · by_cases cb : ((Md23.at_ Pr m.place).op = 9 ∨ (Md23.at_ Pr m.place).op = 10) ∧ P.gs = true ∧ 2 ≤ m.guess.getD (m.place % 16) 0
    · rw [if_neg c11, if_pos cb]
      obtain ⟨h1, h2, h3⟩ := cb
      rw [if_pos (by simp only [h2, decide_eq_true h3, Bool.and_true, Bool.or_eq_true, beq_iff_eq]; exact .inr h1)]
    · rw [if_neg c11, if_neg cb]
      refine (if_neg fun z => ?_).symm
      simp only [Bool.or_eq_true, Bool.and_eq_true, beq_iff_eq, decide_eq_true_eq] at z
      rcases z with z | ⟨z1, z2, z3⟩
      · exact c11 z
      · exact cb ⟨z1, z2, z3⟩

theorem rel_step {s : Pipe} {m : MS} {c : Cnt} (R : Rel Pr s m c) (w : Md23.Way) (hh : w.hands = P.hands) (hg : w.guesses = P.gs) (he : m.ended = false) : Rel Pr (Md23.cycle Pr w s) (stepM P m) (cntM P m c) := by
  have hov : s.over = false := by rw [R.over]; exact he
  rw [cycle_eq Pr w s hov]
  obtain ⟨a1, a2⟩ := wr_regs ok hP R.wr R.r0
  obtain ⟨b1, b2⟩ := wr_over ok hP R.wr he
  obtain ⟨c1, c2⟩ := im_mem ok hP R.im
  have d1 := reck_rel ok hP R
  obtain ⟨e1, e2, e3⟩ := turn_rel ok hP R
  have f1 := waits_rel ok hP R
  have g1 := guessed_eq ok hP R w hg
  have hfd := R.fd
  unfold spCycle stepM cntM lostM waitedM
  rw [hh, R.regs, R.mem]
  simp only [a1, b1, c1, e1, e2, f1, g1]
  have hdone : s.done + (if s.through.isSome = true ∧ endM P m = false then 1 else 0) = c.done + doneM P m := by rw [b2, R.dn]
  cases hr : rightM P m with
  | some rp =>
    simp only
    refine ⟨rfl, rfl, rfl, rfl, rfl, rfl, congrArg (· + 1) R.cyc, hdone, R.wts, ?_, e3, a2, .none, .none, d1, c2⟩
    simp only
    rw [R.lst]
    have hfd' := hfd
    generalize s.fetched = a at hfd'
    generalize m.rd = b at hfd'
    cases hfd' <;> rfl
  | none =>
    simp only
    by_cases hw : waitM P m = true
    · simp only [if_pos hw]
      exact ⟨R.pc, rfl, rfl, rfl, R.fet, rfl, congrArg (· + 1) R.cyc, hdone, congrArg (· + 1) R.wts, R.lst, e3, a2, hfd, .none, d1, c2⟩
    · simp only [if_neg hw]
      have hfe := R.fet
      have rdy : ∀ rd' : Option Nat, (m.fetches = true → rd' = some m.place) → (m.fetches = false → rd' = none) →
          OR (RRk Pr rd') (s.fetched.map fun f => (f, Md23.reg (regsM P m) f.o.a, Md23.reg (regsM P m) f.o.b)) (match m.rd with
            | some q => some (q, (regsM P m).getD (ordAt P.ws q).first 0, (regsM P m).getD (ordAt P.ws q).second 0)
            | none => none) := by
        intro rd' h1 h2
        generalize s.fetched = a at hfd
        generalize m.rd = b at hfd
        cases hfd with
        | none => exact .none
        | @some f q r =>
          have S := same_of ok hP q
          obtain ⟨r1, r2, r3, r4, r5⟩ := r
          refine .some ⟨r1, r2, fun hA => ?_, fun hB => ?_, fun n12 => ?_, r4⟩
          · simp only at hA ⊢
            have e := S.fst
            rw [← r2, if_pos hA] at e
            rw [e, reg_eq' a2]
          · simp only at hB ⊢
            have e := S.snd
            rw [← r2, if_pos hB] at e
            rw [e, reg_eq' a2]
          · simp only at n12 ⊢
            have : m.fetches = true := by
              cases hf : m.fetches with
              | true => rfl
              | false => exact absurd (r5 hf) n12
            rw [h1 this, r3]
      cases hf : m.fetches with
      | false =>
        rw [hf] at hfe
        simp only [hfe, Bool.not_false, if_true, Bool.false_eq_true, if_false]
        exact ⟨R.pc, rfl, rfl, rfl, rfl, rfl, congrArg (· + 1) R.cyc, hdone, R.wts, R.lst, e3, a2, .none, rdy none (fun z => by rw [hf] at z; cases z) fun _ => rfl, d1, c2⟩
      | true =>
        rw [hf] at hfe
        simp only [hfe, Bool.not_true, Bool.false_eq_true, if_false, if_true]
        have S := same_of ok hP m.place
        refine ⟨rfl, rfl, rfl, rfl, ?_, rfl, congrArg (· + 1) R.cyc, hdone, R.wts, R.lst, e3, a2, ?_, rdy (some m.place) (fun _ => rfl) (fun z => by rw [hf] at z; cases z), d1, c2⟩
        · simp only
          rw [R.pc, S.kind]
          cases e12 : (Md23.at_ Pr m.place).op == 12 <;> simp [bne, e12]
        · refine .some ⟨R.pc, by rw [R.pc], rfl, fun n9 n10 => ?_, fun hk => ?_⟩
          · simp only at n9 n10 ⊢
            rw [R.pc] at n9 n10 ⊢
            have ng : goesM P m = ((Md23.at_ Pr m.place).op == 11) := by
              unfold goesM
              simp only
              rw [S.kind, S.br]
              have e9 : ((Md23.at_ Pr m.place).op == 9) = false := by simp [n9]
              have e10 : ((Md23.at_ Pr m.place).op == 10) = false := by simp [n10]
              rw [e9, e10]
              simp
            rw [ng, S.aim, S.fol]
            by_cases c11 : (Md23.at_ Pr m.place).op = 11 <;> simp [c11]
          · simp only at hk ⊢
            rw [R.pc]
            rw [S.kind] at hk
            simpa using hk
end
/-- many cycles -/
theorem rel_run {P : Pg} {Pr : Md23.Prog} (ok : OkW P.ws) (hP : Md23.orders P.ws = some Pr) (w : Md23.Way) (hh : w.hands = P.hands) (hg : w.guesses = P.gs) : ∀ (n : Nat) {s : Pipe} {m : MS} {c : Cnt}, Rel Pr s m c → Rel Pr (Md23.goOn Pr w n s) (runM P n (m, c)).1 (runM P n (m, c)).2
  | 0, _, _, _, R => R
  | n + 1, s, m, c, R => by
    unfold Md23.goOn runM
    rw [R.over]
    cases he : m.ended with
    | true => simpa using R
    | false =>
      simp only [Bool.false_eq_true, if_false]
      exact rel_run ok hP w hh hg n (rel_step ok hP R w hh hg he)
theorem rel_start (Pr : Md23.Prog) : Rel Pr Md23.begin_ startM cnt0 := ⟨rfl, rfl, rfl, rfl, rfl, rfl, rfl, rfl, rfl, rfl, rfl, rfl, .none, .none, .none, .none⟩
end Fs

namespace Fs

/-! many cycles, and rounds -/
def Cnt.add (a b : Cnt) : Cnt := ⟨a.cycles + b.cycles, a.done + b.done, a.waited + b.waited, a.lost + b.lost⟩
theorem Cnt.ext' {a b : Cnt} (h1 : a.cycles = b.cycles) (h2 : a.done = b.done) (h3 : a.waited = b.waited) (h4 : a.lost = b.lost) : a = b := by
  cases a; cases b; simp only at *; subst h1 h2 h3 h4; rfl
theorem Cnt.add_assoc (a b c : Cnt) : (a.add b).add c = a.add (b.add c) := by
  unfold Cnt.add; simp only [Nat.add_assoc]
theorem Cnt.add_zero (a : Cnt) : a.add cnt0 = a := by cases a; rfl
theorem Cnt.zero_add (a : Cnt) : cnt0.add a = a := by cases a; simp [Cnt.add, cnt0]
def Cnt.times (n : Nat) (a : Cnt) : Cnt := ⟨a.cycles * n, a.done * n, a.waited * n, a.lost * n⟩
/-- what came since, so many times more -/
def Cnt.again (now earlier : Cnt) (n : Nat) : Cnt :=
  ⟨now.cycles + (now.cycles - earlier.cycles) * n, now.done + (now.done - earlier.done) * n, now.waited + (now.waited - earlier.waited) * n, now.lost + (now.lost - earlier.lost) * n⟩
section
variable (P : Pg)
theorem cntM_add (m : MS) (a b : Cnt) : cntM P m (a.add b) = a.add (cntM P m b) := by
  unfold cntM Cnt.add; simp only [Nat.add_assoc]
theorem runM_add (a : Cnt) : ∀ (n : Nat) (m : MS) (b : Cnt), runM P n (m, a.add b) = ((runM P n (m, b)).1, a.add (runM P n (m, b)).2)
  | 0, _, _ => rfl
  | n + 1, m, b => by
    unfold runM
    by_cases h : m.ended = true
    · rw [if_pos h, if_pos h]
    · rw [if_neg h, if_neg h]
      show runM P n (stepM P m, cntM P m (a.add b)) = _
      rw [cntM_add]
      exact runM_add a n _ _
/-- from no counts on -/
theorem runM_from (n : Nat) (m : MS) (c : Cnt) : runM P n (m, c) = ((runM P n (m, cnt0)).1, c.add (runM P n (m, cnt0)).2) := by
  have h := runM_add P c n m cnt0
  rw [Cnt.add_zero] at h
  exact h
theorem runM_end (n : Nat) (s : MS × Cnt) (h : s.1.ended = true) : runM P n s = s := by
  cases n with
  | zero => rfl
  | succ n => unfold runM; rw [if_pos h]
theorem runM_plus : ∀ (a b : Nat) (s : MS × Cnt), runM P (a + b) s = runM P b (runM P a s)
  | 0, b, s => by rw [Nat.zero_add]; rfl
  | a + 1, b, s => by
    rw [Nat.succ_add]
    by_cases h : s.1.ended = true
    · rw [runM_end P _ s h, runM_end P _ s h, runM_end P _ s h]
    · have e : ∀ k, runM P (k + 1) s = runM P k (stepM P s.1, cntM P s.1 s.2) := fun k => by
        show (if s.1.ended = true then s else runM P k (stepM P s.1, cntM P s.1 s.2)) = _
        rw [if_neg h]
      show runM P (a + b + 1) s = runM P b (runM P (a + 1) s)
      rw [e, e]
      exact runM_plus a b _
theorem runM_one (s : MS × Cnt) (h : s.1.ended = false) : runM P 1 s = (stepM P s.1, cntM P s.1 s.2) := by
  unfold runM
  rw [if_neg (by simp [h])]
  rfl
/-- one more -/
theorem runM_succ {n : Nat} {s t : MS × Cnt} (e : t = runM P n s) (h : t.1.ended = false) : (stepM P t.1, cntM P t.1 t.2) = runM P (n + 1) s := by
  rw [runM_plus P n 1 s, ← e, runM_one P t h]
theorem runM_rounds {g : Nat} {m : MS} {d : Cnt} (hr : runM P g (m, cnt0) = (m, d)) : ∀ (k : Nat) (c : Cnt), runM P (g * k) (m, c) = (m, c.add (d.times k))
  | 0, c => by
    rw [Nat.mul_zero]
    show (m, c) = _
    rw [show d.times 0 = cnt0 from by simp [Cnt.times, cnt0], Cnt.add_zero]
  | k + 1, c => by
    rw [Nat.mul_succ, runM_plus, runM_rounds hr k c, runM_from, hr]
    simp only [Prod.mk.injEq, true_and]
    rw [Cnt.add_assoc]
    apply Cnt.ext' <;> simp [Cnt.times, Cnt.add, Nat.mul_succ]
/-- a round found: the rest of the cycles, whole rounds counted -/
theorem runM_skip {g left : Nat} {m : MS} {c c' : Cnt} (h : runM P g (m, c) = (m, c')) : runM P left (m, c') = runM P (left % g) (m, c'.again c (left / g)) := by
  rw [runM_from] at h
  obtain ⟨h1, h2⟩ := Prod.mk.inj h
  have hr : runM P g (m, cnt0) = (m, (runM P g (m, cnt0)).2) := Prod.ext h1 rfl
  generalize (runM P g (m, cnt0)).2 = d at hr h2
  have e : left = g * (left / g) + left % g := (Nat.div_add_mod left g).symm
  conv => lhs; rw [e]
  rw [runM_plus, runM_rounds P hr]
  congr 1
  congr 1
  subst h2
  apply Cnt.ext' <;> simp only [Cnt.times, Cnt.add, Cnt.again, Nat.add_sub_cancel_left]

/-! lengths, and the places that are fetched -/
structure Good (m : MS) : Prop where
  regs : m.regs.length = 16
  guess : m.guess.length = 16
  mem : m.mem.length = 1024
def PlOk (ws : List Nat) (q : Nat) : Prop := q ≤ ws.length ∨ ∃ i, i < ws.length ∧ q = (ordAt ws i).aim
structure Live (m : MS) : Prop where
  good : Good m
  pl : m.fetches = true → PlOk P.ws m.place
theorem good_start : Live P startM := ⟨⟨List.length_replicate, List.length_replicate, List.length_replicate⟩, fun _ => .inl (Nat.zero_le _)⟩
theorem good_regs {m : MS} (g : Good m) : (regsM P m).length = 16 := by
  have h := g.regs
  unfold regsM
  split
  · split
    · rw [List.length_set]; exact h
    · exact h
  · exact h
theorem good_mem {m : MS} (g : Good m) : (memM P m).length = 1024 := by
  have h := g.mem
  unfold memM
  split
  · split
    · rw [List.length_set]; exact h
    · exact h
  · exact h
theorem good_guess {m : MS} (g : Good m) : (guessM P m).length = 16 := by
  have h := g.guess
  unfold guessM
  split
  · split
    · rw [List.length_set]; exact h
    · exact h
  · exact h
theorem in_range {ws : List Nat} {q : Nat} (h : (ordAt ws q).kind ≠ 12) : q < ws.length := by
  rcases Nat.lt_or_ge q ws.length with z | z
  · exact z
  · exfalso
    apply h
    show wordAt ws q % 16 = 12
    unfold wordAt
    rw [List.getD_eq_getElem?_getD, List.getElem?_eq_none_iff.mpr z]
    rfl
theorem fol_ok {ws : List Nat} (hw : ws.length ≤ 1024) {q : Nat} (h : q < ws.length) : PlOk ws (ordAt ws q).following := by
  refine .inl ?_
  show (q + 1) % 4294967296 ≤ ws.length
  omega
theorem live_step {m : MS} (hw : P.ws.length ≤ 1024) (L : Live P m) : Live P (stepM P m) := by
  have g := L.good
  have hG : Good (stepM P m) := by
    refine ⟨?_, ?_, ?_⟩
    · unfold stepM; simp only; (repeat' split) <;> exact good_regs P g
    · unfold stepM; simp only; (repeat' split) <;> exact good_guess P g
    · unfold stepM; simp only; (repeat' split) <;> exact good_mem P g
  refine ⟨hG, ?_⟩
  unfold stepM
  simp only
  cases hr : rightM P m with
  | some rp =>
    intro _
    simp only
    unfold rightM at hr
    split at hr
    · rename_i q r _ _
      split at hr
      · rename_i hb
        have hq : q < P.ws.length := by
          apply in_range
          have hb' : (wordAt P.ws q % 16 == 9 || wordAt P.ws q % 16 == 10) = true := hb
          simp only [Bool.or_eq_true, beq_iff_eq] at hb'
          show wordAt P.ws q % 16 ≠ 12
          omega
        simp only at hr
        have key : ∀ rp' fp : Nat, (if rp' = fp then none else some rp') = some rp → rp' = rp := by
          intro rp' fp hh
          by_cases c : rp' = fp
          · rw [if_pos c] at hh; cases hh
          · rw [if_neg c] at hh; exact Option.some.inj hh
        have e := key _ _ hr
        rw [← e]
        split
        · exact .inr ⟨q, hq, rfl⟩
        · exact fol_ok hw hq
      · cases hr
    · cases hr
  | none =>
    simp only
    split
    · exact L.pl
    · split
      · simp only
        intro hk
        have hk' : (ordAt P.ws m.place).kind ≠ 12 := by simpa using hk
        have hq := in_range hk'
        split
        · exact .inr ⟨_, hq, rfl⟩
        · exact fol_ok hw hq
      · simp only
        intro hk
        rename_i hf
        exact absurd hk hf
theorem live_run (hw : P.ws.length ≤ 1024) : ∀ (n : Nat) {s : MS × Cnt}, Live P s.1 → Live P (runM P n s).1
  | 0, _, L => L
  | n + 1, s, L => by
    unfold runM
    split
    · exact L
    · exact live_run hw n (live_step P hw L)

/-! how many places there are -/
theorem nodup_le : ∀ {l L : List Nat}, l.Nodup → (∀ x ∈ l, x ∈ L) → l.length ≤ L.length
  | [], _, _, _ => Nat.zero_le _
  | a :: r, L, hn, hs => by
    obtain ⟨h1, h2⟩ := List.nodup_cons.mp hn
    have ha := hs a List.mem_cons_self
    have ih := nodup_le (l := r) (L := L.erase a) h2 fun x hx => by
      have hne : x ≠ a := fun e => h1 (e ▸ hx)
      exact (List.mem_erase_of_ne hne).mpr (hs x (List.mem_cons_of_mem _ hx))
    rw [List.length_erase_of_mem ha] at ih
    have hp : 0 < L.length := List.length_pos_of_mem ha
    rw [List.length_cons]
    omega
theorem places_le {l : List Nat} (hw : P.ws.length ≤ 1024) (hn : l.Nodup) (h : ∀ q ∈ l, PlOk P.ws q) : l.length ≤ 2049 := by
  have hs : ∀ x ∈ l, x ∈ List.range (P.ws.length + 1) ++ (List.range P.ws.length).map fun i => (ordAt P.ws i).aim := by
    intro x hx
    rcases h x hx with z | ⟨i, hi, e⟩
    · exact List.mem_append_left _ (List.mem_range.mpr (by omega))
    · exact List.mem_append_right _ (List.mem_map.mpr ⟨i, List.mem_range.mpr hi, e.symm⟩)
  have := nodup_le hn hs
  rw [List.length_append, List.length_map, List.length_range, List.length_range] at this
  omega
end
end Fs

namespace Fs

/-! the machine and its calls -/
structure MM where
  P : Pg
  m : MS
  c : Cnt
  asked : Nat
def mm0 : MM := ⟨⟨[], false, false⟩, startM, cnt0, 0⟩
def shownM (q : Option Nat) : Int := match q with
  | some q => sgn q
  | none => -1
def b1 (b : Bool) : Int := if b = true then 1 else 0
def showsM (m : MS) (c : Cnt) : List Int :=
  [b1 m.ended, shownM m.rd, shownM (m.rk.map (·.1)), shownM (m.im.map (·.1)), shownM (m.wr.map (·.1)), (c.cycles : Int), (c.done : Int), (c.waited : Int), (c.lost : Int)]
def pgOf (ws : List Nat) (w : Int) : Pg := ⟨ws, decide (w % 2 = 1), decide (w / 2 % 2 = 1)⟩
def mAns (M : MM) : Md23.Call → MM × List Int
  | .load l n w => if n < 0 ∨ 1024 < n ∨ w < 0 ∨ 3 < w then (M, [-1]) else if (l.any fun x => decide (12 < x % 16)) = true then (M, [-3]) else (⟨pgOf l w, startM, cnt0, 0⟩, [0])
  | .go n => if n < 1 ∨ 1000000 < n then (M, [-1]) else if 2000000000 < (M.asked : Int) + n then (M, [-4]) else
      ({ M with m := (runM M.P n.toNat (M.m, M.c)).1, c := (runM M.P n.toNat (M.m, M.c)).2, asked := M.asked + n.toNat }, [b1 (runM M.P n.toNat (M.m, M.c)).1.ended])
  | .shows => (M, showsM M.m M.c)
  | .reg r => if r < 0 ∨ 15 < r then (M, [-1]) else (M, [0, sgn (M.m.regs.getD r.toNat 0)])
  | .mem a => if a < 0 ∨ 1023 < a then (M, [-1]) else (M, [0, sgn (M.m.mem.getD a.toNat 0)])

theorem mAns_load (M : MM) (l : List Nat) (n w : Int) : mAns M (.load l n w) = if n < 0 ∨ 1024 < n ∨ w < 0 ∨ 3 < w then (M, [-1]) else if (l.any fun x => decide (12 < x % 16)) = true then (M, [-3]) else (⟨pgOf l w, startM, cnt0, 0⟩, [0]) := rfl
theorem mAns_go (M : MM) (n : Int) : mAns M (.go n) = if n < 1 ∨ 1000000 < n then (M, [-1]) else if 2000000000 < (M.asked : Int) + n then (M, [-4]) else
      ({ M with m := (runM M.P n.toNat (M.m, M.c)).1, c := (runM M.P n.toNat (M.m, M.c)).2, asked := M.asked + n.toNat }, [b1 (runM M.P n.toNat (M.m, M.c)).1.ended]) := rfl
theorem mAns_reg (M : MM) (r : Int) : mAns M (.reg r) = if r < 0 ∨ 15 < r then (M, [-1]) else (M, [0, sgn (M.m.regs.getD r.toNat 0)]) := rfl
theorem mAns_mem (M : MM) (a : Int) : mAns M (.mem a) = if a < 0 ∨ 1023 < a then (M, [-1]) else (M, [0, sgn (M.m.mem.getD a.toNat 0)]) := rfl
structure MOk (M : MM) : Prop where
  ws : OkW M.P.ws
  len : M.P.ws.length ≤ 1024
  live : Live M.P M.m
  asked : M.asked ≤ 2000000000
structure MRel (st : Md23.St) (M : MM) : Prop where
  ok : MOk M
  at_ : ∀ mm, st = some mm → Md23.orders M.P.ws = some mm.prog ∧ mm.way.hands = M.P.hands ∧ mm.way.guesses = M.P.gs ∧ mm.asked = M.asked ∧ Rel mm.prog mm.pipe M.m M.c
def CallOk : Md23.Call → Prop
  | .load l n _ => (∀ x ∈ l, x < W32) ∧ l.length = Md23Neutral.many n
  | _ => True
def isLoad : Md23.Call → Bool
  | .load _ _ _ => true
  | _ => false

theorem mrel_start : MRel none mm0 := ⟨⟨(fun x hx => (by cases hx)), Nat.zero_le _, good_start _, (by show 0 ≤ 2000000000; decide)⟩, (fun mm h => (by cases h))⟩
theorem between_eq (z : Int) (a b : Nat) : (Md23.between z a b = false) = (z < a ∨ b < z) := by
  unfold Md23.between
  by_cases h1 : (a : Int) ≤ z
  · by_cases h2 : z ≤ (b : Int)
    · simp only [h1, h2, decide_true, Bool.and_self, Bool.true_eq_false, eq_iff_iff, false_iff]; omega
    · simp only [h1, h2, decide_true, decide_false, Bool.and_false, eq_iff_iff, true_iff]; omega
  · simp only [h1, decide_false, Bool.false_and, eq_iff_iff, true_iff]; omega

theorem mok_ans {M : MM} {q : Md23.Call} (h : MOk M) (hc : CallOk q) : MOk (mAns M q).1 := by
  cases q with
  | load l n w =>
    rw [mAns_load]
    split
    · exact h
    · rename_i hn
      split
      · exact h
      · rename_i ha
        obtain ⟨h1, h2⟩ := hc
        have hl : l.length ≤ 1024 := by
          rw [h2]
          unfold Md23Neutral.many
          split <;> omega
        refine ⟨fun x hx => ⟨h1 x hx, ?_⟩, hl, good_start _, by show 0 ≤ 2000000000; decide⟩
        rcases Nat.lt_or_ge 12 (x % 16) with z | z
        · exact absurd (List.any_eq_true.mpr ⟨x, hx, decide_eq_true z⟩) ha
        · exact z
  | go n =>
    rw [mAns_go]
    split
    · exact h
    · split
      · exact h
      · exact ⟨h.ws, h.len, live_run M.P h.len _ h.live, by show M.asked + n.toNat ≤ _; omega⟩
  | shows => exact h
  | reg r => rw [mAns_reg]; split <;> exact h
  | mem a => rw [mAns_mem]; split <;> exact h

theorem ans_rel {st : Md23.St} {M : MM} {q : Md23.Call} (R : MRel st M) (hc : CallOk q) (hs : st ≠ none ∨ isLoad q = true) :
    (Md23.answer st q).2.value :: (Md23.answer st q).2.nums = (mAns M q).2 ∧ MRel (Md23.answer st q).1 (mAns M q).1 := by
  have hok := mok_ans R.ok hc
  cases q with
  | load l n w =>
    obtain ⟨h1, h2⟩ := hc
    have e : Md23.answer st (.load l n w) = if Md23.between n 0 Md23.ORDERS = false ∨ Md23.between w 0 3 = false then (st, Md23.only (-1)) else match Md23.orders l with
      | none => (st, Md23.only (-3))
      | some P => (some ⟨P, ⟨w.toNat % 2 == 1, w.toNat / 2 == 1⟩, 0, Md23.begin_⟩, Md23.only 0) := by
      unfold Md23.answer
      cases st <;> rfl
    have hcond : (Md23.between n 0 Md23.ORDERS = false ∨ Md23.between w 0 3 = false) = (n < 0 ∨ 1024 < n ∨ w < 0 ∨ 3 < w) := by
      rw [between_eq, between_eq]
      have : ((Md23.ORDERS : Nat) : Int) = 1024 := rfl
      rw [this]
      simp only [Int.ofNat_zero, eq_iff_iff]
      omega
    rw [e]
    rw [mAns_load] at hok ⊢
    by_cases hb : n < 0 ∨ 1024 < n ∨ w < 0 ∨ 3 < w
    · rw [if_pos (by rw [hcond]; exact hb), if_pos hb]
      exact ⟨rfl, R⟩
    · rw [if_neg (by rw [hcond]; exact hb), if_neg hb]
      rw [if_neg hb] at hok
      by_cases ha : (l.any fun x => decide (12 < x % 16)) = true
      · rw [if_pos ha]
        obtain ⟨x, hx, hk⟩ := List.any_eq_true.mp ha
        rw [orders_none ⟨x, hx, of_decide_eq_true hk⟩]
        exact ⟨rfl, R⟩
      · rw [if_neg ha]
        rw [if_neg ha] at hok
        obtain ⟨Pr, hP⟩ := orders_some (ws := l) fun x hx => by
          rcases Nat.lt_or_ge 12 (x % 16) with z | z
          · exact absurd (List.any_eq_true.mpr ⟨x, hx, decide_eq_true z⟩) ha
          · exact z
        rw [hP]
        refine ⟨rfl, hok, fun mm hm => ?_⟩
        have e2 := (Option.some.inj hm).symm
        subst e2
        have hw0 : 0 ≤ w := by omega
        have hw3 : w ≤ 3 := by omega
        refine ⟨hP, ?_, ?_, rfl, rel_start Pr⟩
        · show (w.toNat % 2 == 1) = decide (w % 2 = 1)
          rw [Bool.eq_iff_iff]
          simp only [beq_iff_eq, decide_eq_true_eq]
          omega
        · show (w.toNat / 2 == 1) = decide (w / 2 % 2 = 1)
          rw [Bool.eq_iff_iff]
          simp only [beq_iff_eq, decide_eq_true_eq]
          omega
  | go n =>
    have hst : st ≠ none := hs.resolve_right (by simp [isLoad])
    cases st with
    | none => exact absurd rfl hst
    | some mm =>
      obtain ⟨hP, hh, hg, ha, hR⟩ := R.at_ mm rfl
      have e : Md23.answer (some mm) (.go n) = if Md23.between n 1 Md23.CYCLES = false then (some mm, Md23.only (-1)) else if Md23.ALL < mm.asked + n.toNat then (some mm, Md23.only (-4)) else
          (some { mm with asked := mm.asked + n.toNat, pipe := Md23.goOn mm.prog mm.way n.toNat mm.pipe }, Md23.only (if (Md23.goOn mm.prog mm.way n.toNat mm.pipe).over = true then 1 else 0)) := rfl
      rw [e]
      rw [mAns_go] at hok ⊢
      have hcond : (Md23.between n 1 Md23.CYCLES = false) = (n < 1 ∨ 1000000 < n) := by
        rw [between_eq]
        rfl
      have hA : (Md23.ALL : Nat) = 2000000000 := rfl
      by_cases hb : n < 1 ∨ 1000000 < n
      · rw [if_pos (by rw [hcond]; exact hb), if_pos hb]
        exact ⟨rfl, R⟩
      · rw [if_neg (by rw [hcond]; exact hb), if_neg hb]
        rw [if_neg hb] at hok
        by_cases hc : 2000000000 < (M.asked : Int) + n
        · rw [if_pos (by rw [hA, ha]; omega), if_pos hc]
          exact ⟨rfl, R⟩
        · rw [if_neg (by rw [hA, ha]; omega), if_neg hc]
          rw [if_neg hc] at hok
          have hR2 := rel_run R.ok.ws hP mm.way hh hg n.toNat hR
          refine ⟨?_, hok, fun mm' hm => ?_⟩
          · show [if (Md23.goOn mm.prog mm.way n.toNat mm.pipe).over = true then 1 else 0] = [b1 _]
            rw [hR2.over]
            rfl
          · have e2 := (Option.some.inj hm).symm
            subst e2
            exact ⟨hP, hh, hg, congrArg (· + n.toNat) ha, hR2⟩
  | shows =>
    have hst : st ≠ none := hs.resolve_right (by simp [isLoad])
    cases st with
    | none => exact absurd rfl hst
    | some mm =>
      obtain ⟨hP, hh, hg, ha, hR⟩ := R.at_ mm rfl
      refine ⟨?_, R⟩
      have e : (Md23.answer (some mm) .shows).2 = ⟨if mm.pipe.over = true then 1 else 0, [Md23.stage mm.pipe.fetched, Md23.stage (mm.pipe.ready.map fun x => x.1), Md23.stage (mm.pipe.reckoned.map fun x => x.1), Md23.stage (mm.pipe.through.map fun x => x.1), (mm.pipe.cycles : Int), (mm.pipe.done : Int), (mm.pipe.waits : Int), (mm.pipe.lost : Int)]⟩ := rfl
      have hst : ∀ (f : Md23.Flight), Md23.stage (some f) = sgn f.pc := fun f => by
        rw [sgn_eq]
        rfl
      have s1 : Md23.stage mm.pipe.fetched = shownM M.m.rd := by
        have h := hR.fd
        generalize mm.pipe.fetched = a at h
        generalize M.m.rd = b at h
        cases h with
        | none => rfl
        | some r => rw [hst, r.pc]; rfl
      have s2 : Md23.stage (mm.pipe.ready.map fun x => x.1) = shownM (M.m.rk.map (·.1)) := by
        have h := hR.rk
        generalize mm.pipe.ready = a at h
        generalize M.m.rk = b at h
        cases h with
        | none => rfl
        | some r => rw [Option.map_some, hst, r.pc]; rfl
      have s3 : Md23.stage (mm.pipe.reckoned.map fun x => x.1) = shownM (M.m.im.map (·.1)) := by
        have h := hR.im
        generalize mm.pipe.reckoned = a at h
        generalize M.m.im = b at h
        cases h with
        | none => rfl
        | some r => rw [Option.map_some, hst, r.pc]; rfl
      have s4 : Md23.stage (mm.pipe.through.map fun x => x.1) = shownM (M.m.wr.map (·.1)) := by
        have h := hR.wr
        generalize mm.pipe.through = a at h
        generalize M.m.wr = b at h
        cases h with
        | none => rfl
        | some r => rw [Option.map_some, hst, r.pc]; rfl
      rw [e]
      show [if mm.pipe.over = true then (1 : Int) else 0, Md23.stage mm.pipe.fetched, _, _, _, (mm.pipe.cycles : Int), (mm.pipe.done : Int), (mm.pipe.waits : Int), (mm.pipe.lost : Int)] = showsM M.m M.c
      rw [s1, s2, s3, s4, hR.over, hR.cyc, hR.dn, hR.wts, hR.lst]
      rfl
  | reg r =>
    have hst : st ≠ none := hs.resolve_right (by simp [isLoad])
    cases st with
    | none => exact absurd rfl hst
    | some mm =>
      obtain ⟨hP, hh, hg, ha, hR⟩ := R.at_ mm rfl
      have e : Md23.answer (some mm) (.reg r) = if Md23.between r 0 15 = false then (some mm, Md23.only (-1)) else (some mm, ⟨0, [Md23.signed (Md23.reg mm.pipe.regs r.toNat)]⟩) := rfl
      have hcond : (Md23.between r 0 15 = false) = (r < 0 ∨ 15 < r) := by
        rw [between_eq]
        rfl
      rw [e]
      rw [mAns_reg]
      by_cases hb : r < 0 ∨ 15 < r
      · rw [if_pos (by rw [hcond]; exact hb), if_pos hb]
        exact ⟨rfl, R⟩
      · rw [if_neg (by rw [hcond]; exact hb), if_neg hb]
        refine ⟨?_, R⟩
        show [0, Md23.signed (Md23.reg mm.pipe.regs r.toNat)] = _
        rw [hR.regs, reg_eq' hR.r0, sgn_eq]
  | mem a =>
    have hst : st ≠ none := hs.resolve_right (by simp [isLoad])
    cases st with
    | none => exact absurd rfl hst
    | some mm =>
      obtain ⟨hP, hh, hg, ha, hR⟩ := R.at_ mm rfl
      have e : Md23.answer (some mm) (.mem a) = if Md23.between a 0 (Md23.WORDS - 1) = false then (some mm, Md23.only (-1)) else (some mm, ⟨0, [Md23.signed (mm.pipe.mem.getD a.toNat 0)]⟩) := rfl
      have hcond : (Md23.between a 0 (Md23.WORDS - 1) = false) = (a < 0 ∨ 1023 < a) := by
        rw [between_eq]
        rfl
      rw [e]
      rw [mAns_mem]
      by_cases hb : a < 0 ∨ 1023 < a
      · rw [if_pos (by rw [hcond]; exact hb), if_pos hb]
        exact ⟨rfl, R⟩
      · rw [if_neg (by rw [hcond]; exact hb), if_neg hb]
        refine ⟨?_, R⟩
        show [0, Md23.signed (mm.pipe.mem.getD a.toNat 0)] = _
        rw [hR.mem, sgn_eq]
end Fs

namespace Fs

/-! the flat list -/
def flatOf : Md23.Call → List Int
  | .load l n w => 1 :: n :: w :: (l.length : Int) :: l.map (fun (x : Nat) => (x : Int))
  | .go n => [2, n]
  | .shows => [3]
  | .reg r => [4, r]
  | .mem a => [5, a]
def neutOf : Md23.Call → List (List Int)
  | .load l n w => [[1, n, w], l.map (fun (x : Nat) => (x : Int))]
  | .go n => [[2, n]]
  | .shows => [[3]]
  | .reg r => [[4, r]]
  | .mem a => [[5, a]]
theorem nats_cast (l : List Nat) : Md23Neutral.nats (l.map (fun (x : Nat) => (x : Int))) = l := by
  unfold Md23Neutral.nats
  rw [List.map_map]
  induction l with
  | nil => rfl
  | cons a r ih => rw [List.map_cons, ih]; rfl
theorem cast_nats : ∀ {l : List Int}, (∀ x ∈ l, 0 ≤ x) → (Md23Neutral.nats l).map (fun (x : Nat) => (x : Int)) = l
  | [], _ => rfl
  | a :: r, h => by
    have h1 := h a List.mem_cons_self
    have ih := cast_nats (l := r) fun x hx => h x (List.mem_cons_of_mem _ hx)
    show (a.toNat : Int) :: (Md23Neutral.nats r).map _ = a :: r
    rw [ih]
    congr 1
    omega
theorem callOf_neut (q : Md23.Call) : Md23Neutral.callOf (neutOf q) = some q := by
  cases q with
  | load l n w =>
    show some (Md23.Call.load (Md23Neutral.nats (l.map _)) n w) = _
    rw [nats_cast]
  | _ => rfl
theorem whole_id (c : List (List Int)) : PyMd23.whole c = c := by
  unfold PyMd23.whole
  split <;> rfl
theorem map_whole (cs : List (List (List Int))) : cs.map PyMd23.whole = cs := by
  induction cs with
  | nil => rfl
  | cons a r ih => rw [List.map_cons, ih, whole_id]

theorem asked_load {a l : List Int} (h : Md23Neutral.asked1 [1 :: a, l] = true) : ∃ n w, a = [n, w] ∧ (∀ x ∈ l, 0 ≤ x ∧ x < 4294967296) ∧ l.length = Md23Neutral.many n := by
  match a, h with
  | [n, w], h =>
    have h' : (Md23Neutral.whole32 n && (Md23Neutral.whole32 w && (l.all (fun (z : Int) => Md23Neutral.natural z 32) && l.length == Md23Neutral.many n))) = true := h
    simp only [Bool.and_eq_true, beq_iff_eq, List.all_eq_true] at h'
    refine ⟨n, w, rfl, fun x hx => ?_, h'.2.2.2⟩
    have hz := h'.2.2.1 x hx
    unfold Md23Neutral.natural at hz
    simp only [Bool.and_eq_true, decide_eq_true_eq] at hz
    exact hz
  | [], h => exact absurd h (by simp [Md23Neutral.asked1])
  | [_], h => exact absurd h (by simp [Md23Neutral.asked1])
  | _ :: _ :: _ :: _, h => exact absurd h (by simp [Md23Neutral.asked1])

/-- one call off the list's front -/
theorem call_parse {l : List Int} {c : List (List Int)} {t : List Int} (h : PyFlat.call PyMd23.shape l = some (c, t)) (ha : Md23Neutral.asked1 c = true) :
    ∃ q, CallOk q ∧ c = neutOf q ∧ l = flatOf q ++ t := by
  cases l with
  | nil => cases h
  | cons p r =>
    unfold PyFlat.call at h
    simp only at h
    by_cases h1 : p = 1
    · subst h1
      have es : PyMd23.shape 1 = some (2, 1) := rfl
      rw [es] at h
      simp only at h
      by_cases hl : r.length < 2
      · rw [if_pos hl] at h; cases h
      · rw [if_neg hl] at h
        match r, hl with
        | n :: w :: r', _ =>
          have ed : (n :: w :: r').drop 2 = r' := rfl
          have et : (n :: w :: r').take 2 = [n, w] := rfl
          rw [ed, et] at h
          cases r' with
          | nil => cases h
          | cons k r2 =>
            unfold PyFlat.rows PyFlat.row at h
            simp only at h
            by_cases hk : 0 ≤ k ∧ k.toNat ≤ r2.length
            · rw [if_pos hk] at h
              simp only [PyFlat.rows, Option.some.injEq, Prod.mk.injEq] at h
              obtain ⟨hc, ht⟩ := h
              subst hc ht
              obtain ⟨n', w', e1, hw, hm⟩ := asked_load ha
              cases e1
              refine ⟨.load (Md23Neutral.nats (r2.take k.toNat)) n w, ⟨fun x hx => ?_, ?_⟩, ?_, ?_⟩
              · unfold Md23Neutral.nats at hx
                obtain ⟨y, hy, e⟩ := List.mem_map.mp hx
                have := hw y hy
                show x < 4294967296
                omega
              · unfold Md23Neutral.nats
                rw [List.length_map]
                exact hm
              · show _ = [[1, n, w], (Md23Neutral.nats (r2.take k.toNat)).map _]
                rw [cast_nats fun x hx => (hw x hx).1]
              · show _ = (1 :: n :: w :: ((Md23Neutral.nats (r2.take k.toNat)).length : Int) :: (Md23Neutral.nats (r2.take k.toNat)).map _) ++ r2.drop k.toNat
                rw [cast_nats fun x hx => (hw x hx).1]
                have hlen : ((Md23Neutral.nats (r2.take k.toNat)).length : Int) = k := by
                  unfold Md23Neutral.nats
                  rw [List.length_map, List.length_take]
                  omega
                rw [hlen, List.cons_append, List.cons_append, List.cons_append, List.cons_append, List.take_append_drop]
            · rw [if_neg hk] at h
              cases h
    · have one : ∀ (p' : Int), PyMd23.shape p' = some (1, 0) → p = p' → ∃ n r', r = n :: r' ∧ c = [[p, n]] ∧ t = r' := by
        intro p' es e
        subst e
        rw [es] at h
        simp only at h
        cases r with
        | nil => simp at h
        | cons n r' =>
          rw [if_neg (by simp)] at h
          simp only [PyFlat.rows, List.drop_succ_cons, List.drop_zero, List.take_succ_cons, List.take_zero, Option.some.injEq, Prod.mk.injEq] at h
          exact ⟨n, r', rfl, h.1.symm, h.2.symm⟩
      by_cases h2 : p = 2
      · obtain ⟨n, r', e1, e2, e3⟩ := one 2 rfl h2
        subst h2 e1 e2 e3
        exact ⟨.go n, trivial, rfl, rfl⟩
      · by_cases h3 : p = 3
        · subst h3
          have es : PyMd23.shape 3 = some (0, 0) := rfl
          rw [es] at h
          simp only [Nat.not_lt_zero, if_false, PyFlat.rows, List.drop_zero, List.take_zero, Option.some.injEq, Prod.mk.injEq] at h
          obtain ⟨e1, e2⟩ := h
          subst e1 e2
          exact ⟨.shows, trivial, rfl, rfl⟩
        · by_cases h4 : p = 4
          · obtain ⟨n, r', e1, e2, e3⟩ := one 4 rfl h4
            subst h4 e1 e2 e3
            exact ⟨.reg n, trivial, rfl, rfl⟩
          · by_cases h5 : p = 5
            · obtain ⟨n, r', e1, e2, e3⟩ := one 5 rfl h5
              subst h5 e1 e2 e3
              exact ⟨.mem n, trivial, rfl, rfl⟩
            · have es : PyMd23.shape p = none := by
                unfold PyMd23.shape
                rw [if_neg h1, if_neg h2, if_neg h3, if_neg h4, if_neg h5]
              rw [es] at h
              cases h
theorem calls_parse : ∀ (f : Nat) {l : List Int} {cs : List (List (List Int))}, PyFlat.calls PyMd23.shape f l = some cs → cs.all Md23Neutral.asked1 = true →
    ∃ qs : List Md23.Call, (∀ q ∈ qs, CallOk q) ∧ cs = qs.map neutOf ∧ l = qs.flatMap flatOf
  | _, [], cs, h, _ => by
    unfold PyFlat.calls at h
    have e := Option.some.inj h
    subst e
    exact ⟨[], (fun q hq => (by cases hq)), rfl, rfl⟩
  | 0, _ :: _, cs, h, _ => by cases h
  | f + 1, p :: r, cs, h, ha => by
    unfold PyFlat.calls at h
    cases e : PyFlat.call PyMd23.shape (p :: r) with
    | none => rw [e] at h; cases h
    | some ct =>
      obtain ⟨c, t⟩ := ct
      rw [e] at h
      simp only at h
      cases e2 : PyFlat.calls PyMd23.shape f t with
      | none => rw [e2] at h; cases h
      | some cs' =>
        rw [e2] at h
        have e3 := Option.some.inj h
        subst e3
        rw [List.all_cons, Bool.and_eq_true] at ha
        obtain ⟨q, h1, h2, h3⟩ := call_parse e ha.1
        obtain ⟨qs, g1, g2, g3⟩ := calls_parse f e2 ha.2
        refine ⟨q :: qs, fun x hx => ?_, ?_, ?_⟩
        · rcases List.mem_cons.mp hx with z | z
          · rw [z]; exact h1
          · exact g1 x z
        · rw [List.map_cons, h2, g2]
        · rw [List.flatMap_cons, ← g3]
          exact h3

/-- what the program tells -/
def playM : MM → List Md23.Call → List Int
  | _, [] => []
  | M, q :: r => ((mAns M q).2.length : Int) :: ((mAns M q).2 ++ playM (mAns M q).1 r)
def afterM : MM → List Md23.Call → MM
  | M, [] => M
  | M, q :: r => afterM (mAns M q).1 r
theorem step_neut (st : Md23.St) (q : Md23.Call) : Md23Neutral.step st (neutOf q) = ((Md23.answer st q).1, (Md23.answer st q).2.value :: (Md23.answer st q).2.nums) := by
  unfold Md23Neutral.step
  rw [callOf_neut]
theorem answer_some {st : Md23.St} {q : Md23.Call} (h : st ≠ none) : (Md23.answer st q).1 ≠ none := by
  cases st with
  | none => exact absurd rfl h
  | some mm =>
    cases q with
    | load l n w =>
      have e : Md23.answer (some mm) (.load l n w) = if Md23.between n 0 Md23.ORDERS = false ∨ Md23.between w 0 3 = false then (some mm, Md23.only (-1)) else match Md23.orders l with
        | none => (some mm, Md23.only (-3))
        | some P => (some ⟨P, ⟨w.toNat % 2 == 1, w.toNat / 2 == 1⟩, 0, Md23.begin_⟩, Md23.only 0) := rfl
      rw [e]
      split
      · exact fun e => by cases e
      · split <;> exact fun e => by cases e
    | go n =>
      have e : Md23.answer (some mm) (.go n) = if Md23.between n 1 Md23.CYCLES = false then (some mm, Md23.only (-1)) else if Md23.ALL < mm.asked + n.toNat then (some mm, Md23.only (-4)) else
          (some { mm with asked := mm.asked + n.toNat, pipe := Md23.goOn mm.prog mm.way n.toNat mm.pipe }, Md23.only (if (Md23.goOn mm.prog mm.way n.toNat mm.pipe).over = true then 1 else 0)) := rfl
      rw [e]
      split
      · exact fun e => by cases e
      · split <;> exact fun e => by cases e
    | shows => exact fun e => by cases e
    | reg r =>
      have e : Md23.answer (some mm) (.reg r) = if Md23.between r 0 15 = false then (some mm, Md23.only (-1)) else (some mm, ⟨0, [Md23.signed (Md23.reg mm.pipe.regs r.toNat)]⟩) := rfl
      rw [e]
      split <;> exact fun e => by cases e
    | mem a =>
      have e : Md23.answer (some mm) (.mem a) = if Md23.between a 0 (Md23.WORDS - 1) = false then (some mm, Md23.only (-1)) else (some mm, ⟨0, [Md23.signed (mm.pipe.mem.getD a.toNat 0)]⟩) := rfl
      rw [e]
      split <;> exact fun e => by cases e
theorem play_eq : ∀ (qs : List Md23.Call) {st : Md23.St} {M : MM}, MRel st M → (∀ q ∈ qs, CallOk q) → st ≠ none → PyFlat.told (PyFlat.played Md23Neutral.step st (qs.map neutOf)) = playM M qs
  | [], _, _, _, _, _ => rfl
  | q :: r, st, M, R, h, hs => by
    obtain ⟨e1, R'⟩ := ans_rel R (h q List.mem_cons_self) (.inl hs)
    have ih := play_eq r R' (fun x hx => h x (List.mem_cons_of_mem _ hx)) (answer_some hs)
    show PyFlat.told ((Md23Neutral.step st (neutOf q)).2 :: PyFlat.played Md23Neutral.step (Md23Neutral.step st (neutOf q)).1 (r.map neutOf)) = _
    rw [step_neut]
    simp only
    unfold PyFlat.told at ih ⊢
    rw [List.flatMap_cons, ih, e1]
    rfl

theorem head_load {q : Md23.Call} (h : Md23Neutral.begins (neutOf q) = true) : isLoad q = true ∧ (Md23.answer none q).1 ≠ none := by
  cases q with
  | load l n w =>
    refine ⟨rfl, ?_⟩
    have h' : ((Md23Neutral.step Md23Neutral.start (neutOf (.load l n w))).2 == [0]) = true := h
    rw [step_neut] at h'
    have e : Md23.answer none (.load l n w) = if Md23.between n 0 Md23.ORDERS = false ∨ Md23.between w 0 3 = false then (none, Md23.only (-1)) else match Md23.orders l with
      | none => (none, Md23.only (-3))
      | some P => (some ⟨P, ⟨w.toNat % 2 == 1, w.toNat / 2 == 1⟩, 0, Md23.begin_⟩, Md23.only 0) := rfl
    have hst : Md23Neutral.start = none := rfl
    rw [hst, e] at h'
    rw [e]
    split at h'
    · simp [Md23.only] at h'
    · rename_i hc
      rw [if_neg hc]
      cases ho : Md23.orders l with
      | none => rw [ho] at h'; simp [Md23.only] at h'
      | some Pr => exact fun z => by cases z
  | go n => cases h
  | shows => cases h
  | reg r => cases h
  | mem a => cases h

/-- THE FLAT LIST: what is due of it is what the program's mirror tells -/
theorem answers_eq {l : List Int} (h : PyMd23.answers_asked l = true) : ∃ qs : List Md23.Call, (∀ q ∈ qs, CallOk q) ∧ l = qs.flatMap flatOf ∧ PyMd23.answers l = playM mm0 qs := by
  unfold PyMd23.answers_asked at h
  unfold PyMd23.answers
  unfold PyMd23.calls at *
  cases e : PyFlat.calls PyMd23.shape l.length l with
  | none => rw [e] at h; cases h
  | some cs =>
    rw [e] at h
    simp only [map_whole] at h ⊢
    rw [Bool.and_eq_true] at h
    obtain ⟨_, h⟩ := h
    unfold Md23Neutral.asked at h
    rw [Bool.and_eq_true, Bool.and_eq_true] at h
    obtain ⟨⟨h1, h2⟩, _⟩ := h
    obtain ⟨qs, g1, g2, g3⟩ := calls_parse _ e h1
    refine ⟨qs, g1, g3, ?_⟩
    subst g2
    cases qs with
    | nil => rfl
    | cons q r =>
      have hb : Md23Neutral.begins (neutOf q) = true := h2
      obtain ⟨hl, hn⟩ := head_load hb
      obtain ⟨e1, R'⟩ := ans_rel mrel_start (g1 q List.mem_cons_self) (.inr hl)
      have ih := play_eq r R' (fun x hx => g1 x (List.mem_cons_of_mem _ hx)) hn
      show PyFlat.told ((Md23Neutral.step Md23Neutral.start (neutOf q)).2 :: PyFlat.played Md23Neutral.step (Md23Neutral.step Md23Neutral.start (neutOf q)).1 (r.map neutOf)) = _
      rw [step_neut]
      simp only
      have hst : Md23Neutral.start = none := rfl
      rw [hst]
      unfold PyFlat.told at ih ⊢
      rw [List.flatMap_cons, ih, e1]
      rfl
end Fs

set_option Elab.async false
set_option linter.all false
set_option maxRecDepth 100000
namespace Fs
open PySem PySem.Spec PyProof.Rows PySem.W PySem.SeqAt PySem.MeetsSeq
/-! ### instances compared: by which one they are -/
structure CmpK (K : Frag) (C : Addr) : Prop where
  eqF : findIn K (.ref C) "__eq__" = some (some (.builtin "object.__eq__"))
  sO : subIn K (.ref C) (.type "object") = some true
  sN : subIn K (.ref C) (.type "NoneType") = some false
  nS : subIn K (.type "NoneType") (.ref C) = some false
theorem looks_cls {M : Model} {h : Heap} {x : Addr} {o : Obj} (hx : h.get? x = some o) : Looks M h (typeOf (.ref x)) o.cls := fun A Q E s k q => by
  show wpAny M A (loadPart x (some headPart) >>= fun o => pure o.cls) Q E s
  exact wpAny_bind (wpAny_loadPart (k _ _ hx) (wpAny_pure q))
theorem objEq_none {M : Model} {A : Around} {E : Value → Shared → Prop} {s : Shared} {x : Addr} {Q : Fin → Shared → Prop} (hq : Q (.done (.ret .notImplemented)) s) : wpAny M A (Builtin.«object.__eq__» ⟨[.ref x, .none], []⟩) Q E s := by
  unfold Builtin.«object.__eq__»
  repeat (first | with_reducible refine wpAny_of_eq (rfl : isSame (.ref x) .none = pure false) ?_ | wp_step)
  exact hq
section
variable {K : Frag} {C x y : Addr} {prog : Program} {w : World} {A : Around} {E : Value → Shared → Prop} {s : Shared} {o oy : Obj}
theorem try_eqK (X : K.In s.heap) (k : CmpK K C) (hx : s.heap.get? x = some o) (hc : o.cls = .ref C) {v : Value} {Q : Option Value → Shared → Prop}
    (hcall : ∀ (A' : Around) (E' : Value → Shared → Prop) (Q' : Fin → Shared → Prop), Q' (.done (.ret .notImplemented)) s → wpAny (model prog w) A' (Builtin.«object.__eq__» ⟨[.ref x, v], []⟩) Q' E' s) (hq : Q none s) :
    wpAny (model prog w) A (tryCompare (.ref x) "__eq__" v) Q E s := by
  have L0 : Looks (model prog w) s.heap (typeOf (.ref x)) (.ref C) := by rw [← hc]; exact looks_cls hx
  have L1 : Looks (model prog w) s.heap (specialOf (.ref x) "__eq__") (some (.builtin "object.__eq__")) := L0.andThen (looks_findIn X k.eqF)
  have L2 : Looks (model prog w) s.heap (isInstance (.ref x) (.type "object")) true := L0.andThen (looks_subIn X k.sO)
  simp only [tryCompare]
  refine wpAny_bind ?_
  simp only [callSpecialIfBound?, bindSpecialIfBound?]
  refine wpAny_holding (wpAny_bind (wpAny_bind (L1.here ?_)))
  simp only [PySem.F.cmp_object.eq.bind]
  refine wpAny_bind (wpAny_askSetting (wpAny_ite ?_))
  have fin : wpAny (model prog w) A (call (.builtin "object.__eq__") ([.ref x] ++ [v]) >>= fun r => pure (some r)) (fun r s' => wpAny (model prog w) A (match r with | some .notImplemented => pure none | none => pure none | some v => pure (some v)) Q E s') E s := by
    refine wpAny_bind (wpAny_call (codeAny_call_builtin PySem.F.cmp_object.eq.plain PySem.F.cmpEntry_eq (check_slot PySem.F.cmpKind_eq PySem.F.cmpSplit_eq L2 (PySem.F.cmpArgs_eq _ _) (hcall _ _ _ ?_))))
    exact wpAny_pure (wpAny_pure hq)
  split
  · exact wpAny_bind (wpAny_pure (wpAny_pure fin))
  · exact wpAny_tryCatch (wpAny_bind (wpAny_pure (wpAny_pure fin)))
theorem try_noneK {Q : Option Value → Shared → Prop} (hq : Q none s) : wpAny (model prog w) A (tryCompare .none "__eq__" (.ref x)) Q E s :=
  wpAny_tryCompare_declines (s := s) (self := .none) (T := "NoneType") rfl PySem.F.slot_NoneType_eq (call_gives PySem.F.slot_NoneType_eq rfl PySem.F.entry_NoneType_eq (PySem.F.args_NoneType_eq_2 _ _) (NoneType___eq___none_ref_0 x) ⟨rfl, hq⟩)
end
section
variable {K : Frag} {C x y : Addr} {A : Around} {s : Shared} {o oy : Obj}
theorem noTup (hc : o.cls = .ref C) : o.cls ≠ .type "tuple" := by rw [hc]; intro e; cases e
theorem rc_ord_ord (X : K.In s.heap) (k : CmpK K C) (hx : s.heap.get? x = some o) (hc : o.cls = .ref C) (hy : s.heap.get? y = some oy) (hcy : oy.cls = .ref C) (hxy : x ≠ y) (hu : A.units < cLine) : RcAt A s (.ref x) (.ref y) false := fun prog w E Q h => by
  have L0 : Looks (model prog w) s.heap (typeOf (.ref x)) (.ref C) := by rw [← hc]; exact looks_cls hx
  have L1 : Looks (model prog w) s.heap (typeOf (.ref y)) (.ref C) := by rw [← hcy]; exact looks_cls hy
  simp only [richCompare, cmpInfo_Eq, oneThing_ref]
  try with_reducible refine wpAny_holding ?_
  refine wpAny_bind (wpAny_cRoomFor hu ?_)
  refine wpAny_bind (L0.here (wpAny_bind (L1.here ?_)))
  simp only [bne_self_eq_false, Bool.false_eq_true, if_false]
  refine wpAny_bind (wpAny_pure ?_)
  simp only [Bool.false_eq_true, if_false, Bool.not_false, if_true]
  refine wpAny_bind (m := tryCompare (.ref x) _ (.ref y)) (try_eqK X k hx hc (fun A' E' Q' q => objEq_entry_other hxy hx hy (noTup hc) q) ?_)
  refine wpAny_bind (m := tryCompare (.ref y) _ (.ref x)) (try_eqK X k hy hcy (fun A' E' Q' q => objEq_entry_other hxy.symm hy hx (noTup hcy) q) ?_)
  exact wpAny_bind (wpAny_rule (wpAny_bind (wpAny_isSame_ref_other hxy hx hy (noTup hc) (wpAny_pure h))))
theorem rc_ord_none (X : K.In s.heap) (k : CmpK K C) (hx : s.heap.get? x = some o) (hc : o.cls = .ref C) (hu : A.units < cLine) : RcAt A s (.ref x) .none false := fun prog w E Q h => by
  have L0 : Looks (model prog w) s.heap (typeOf (.ref x)) (.ref C) := by rw [← hc]; exact looks_cls hx
  have L1 : Looks (model prog w) s.heap (typeOf .none) (.type "NoneType") := Looks.of_pure rfl
  have L2 : Looks (model prog w) s.heap (isSubtype (.type "NoneType") (.ref C)) false := looks_subIn X k.nS
  have h1 : oneThing? .Eq (.ref x) .none = none := rfl
  have hne : (Value.ref C != Value.type "NoneType") = true := rfl
  simp only [richCompare, cmpInfo_Eq, h1]
  try with_reducible refine wpAny_holding ?_
  refine wpAny_bind (wpAny_cRoomFor hu ?_)
  refine wpAny_bind (L0.here (wpAny_bind (L1.here ?_)))
  simp only [hne, if_true]
  refine wpAny_bind (L2.here ?_)
  simp only [Bool.false_eq_true, if_false, Bool.not_false, if_true]
  refine wpAny_bind (m := tryCompare (.ref x) _ .none) (try_eqK X k hx hc (fun A' E' Q' q => objEq_none q) ?_)
  refine wpAny_bind (m := tryCompare .none _ (.ref x)) (try_noneK ?_)
  exact wpAny_bind (wpAny_rule (wpAny_bind (wpAny_of_eq (rfl : isSame (.ref x) .none = pure false) (wpAny_pure h))))
theorem rc_none_ord (X : K.In s.heap) (k : CmpK K C) (hx : s.heap.get? x = some o) (hc : o.cls = .ref C) (hu : A.units < cLine) : RcAt A s .none (.ref x) false := fun prog w E Q h => by
  have L0 : Looks (model prog w) s.heap (typeOf (.ref x)) (.ref C) := by rw [← hc]; exact looks_cls hx
  have L1 : Looks (model prog w) s.heap (typeOf .none) (.type "NoneType") := Looks.of_pure rfl
  have L2 : Looks (model prog w) s.heap (isSubtype (.ref C) (.type "NoneType")) false := looks_subIn X k.sN
  have h1 : oneThing? .Eq .none (.ref x) = none := rfl
  have hne : (Value.type "NoneType" != Value.ref C) = true := rfl
  simp only [richCompare, cmpInfo_Eq, h1]
  try with_reducible refine wpAny_holding ?_
  refine wpAny_bind (wpAny_cRoomFor hu ?_)
  refine wpAny_bind (L1.here (wpAny_bind (L0.here ?_)))
  simp only [hne, if_true]
  refine wpAny_bind (L2.here ?_)
  simp only [Bool.false_eq_true, if_false, Bool.not_false, if_true]
  refine wpAny_bind (m := tryCompare .none _ (.ref x)) (try_noneK ?_)
  refine wpAny_bind (m := tryCompare (.ref x) _ .none) (try_eqK X k hx hc (fun A' E' Q' q => objEq_none q) ?_)
  exact wpAny_bind (wpAny_rule (wpAny_bind (wpAny_of_eq (rfl : isSame .none (.ref x) = pure false) (wpAny_pure h))))
theorem eq_rn {r : Bool} (h : RcAt A s (.ref x) .none r) : EqAt A s (.ref x) .none r := fun prog w E Q hq => by
  unfold eqBool
  refine wpAny_holding ?_
  refine wpAny_ite_split (fun hab => absurd (eq_of_beq hab) nofun) (fun _ => ?_)
  exact wpAny_bind (h prog w E _ (wpAny_truthy_bool hq))
theorem eq_nr {r : Bool} (h : RcAt A s .none (.ref x) r) : EqAt A s .none (.ref x) r := fun prog w E Q hq => by
  unfold eqBool
  refine wpAny_holding ?_
  refine wpAny_ite_split (fun hab => absurd (eq_of_beq hab) nofun) (fun _ => ?_)
  exact wpAny_bind (h prog w E _ (wpAny_truthy_bool hq))
end
end Fs

set_option Elab.async false
set_option linter.all false
set_option maxRecDepth 100000
namespace Fs
open PySem L2
/-! ### the text by places -/
def top (i : Nat) : Stmt := PySem.Challenge.pw_fivestages_s01_answers.main.body.getD i (.Pass ⟨0, 0, 0, 0⟩)
abbrev s_with_sign : Stmt := top 12
abbrev s_kind_of : Stmt := top 13
abbrev s_number_of : Stmt := top 14
abbrev s_Order_init : Stmt := inClass (top 15) 0
abbrev s_needs : Stmt := inClass (top 15) 1
abbrev s_total : Stmt := top 16
abbrev s_difference : Stmt := top 17
abbrev s_bits_of_both : Stmt := top 18
abbrev s_bits_of_any : Stmt := top 19
abbrev s_bits_of_one : Stmt := top 20
abbrev s_is_less : Stmt := top 21
abbrev s_offset : Stmt := top 22
abbrev s_goes_if_same : Stmt := top 23
abbrev s_goes_if_other : Stmt := top 24
abbrev s_way_back : Stmt := top 25
abbrev s_no_result : Stmt := top 26
abbrev s_result_of : Stmt := top 28
abbrev s_newest_value : Stmt := top 31
abbrev s_Pipeline_init : Stmt := inClass (top 32) 0
abbrev s_cycle : Stmt := inClass (top 32) 1
abbrev s_write : Stmt := inClass (top 32) 2
abbrev s_use_memory : Stmt := inClass (top 32) 3
abbrev s_reckon : Stmt := inClass (top 32) 4
abbrev s_place_if_wrong : Stmt := inClass (top 32) 5
abbrev s_learn : Stmt := inClass (top 32) 6
abbrev s_lose_guessed : Stmt := inClass (top 32) 7
abbrev s_has_to_wait : Stmt := inClass (top 32) 8
abbrev s_read_registers : Stmt := inClass (top 32) 9
abbrev s_fetch : Stmt := inClass (top 32) 10
abbrev s_order_at : Stmt := inClass (top 32) 11
abbrev s_is_guessed_to_go : Stmt := inClass (top 32) 12
abbrev s_run : Stmt := inClass (top 32) 13
abbrev s_run_to_state : Stmt := inClass (top 32) 14
abbrev s_stages : Stmt := inClass (top 32) 15
abbrev s_state : Stmt := inClass (top 32) 16
abbrev s_is_in_state : Stmt := inClass (top 32) 17
abbrev s_counts : Stmt := inClass (top 32) 18
abbrev s_count_again : Stmt := inClass (top 32) 19
abbrev s_shown_place : Stmt := top 41
abbrev s_Machine_init : Stmt := inClass (top 42) 0
abbrev s_load : Stmt := inClass (top 42) 1
abbrev s_go : Stmt := inClass (top 42) 2
abbrev s_has_ended : Stmt := inClass (top 42) 3
abbrev s_shows : Stmt := inClass (top 42) 4
abbrev s_reg : Stmt := inClass (top 42) 5
abbrev s_mem : Stmt := inClass (top 42) 6
abbrev s_end_of_call : Stmt := top 43
abbrev s_answer_of : Stmt := top 44
abbrev s_answers : Stmt := top 45
abbrev ps_with_sign_ : List Str := ["word"]
abbrev N_with_sign : List Str := ["word"]
theorem sc_with_sign : FnScope N_with_sign ps_with_sign_ (defScope s_with_sign) := ⟨rfl, rfl, rfl, by decide +kernel, rfl, by decide +kernel, by decide +kernel⟩
abbrev ps_kind_of_ : List Str := ["word"]
abbrev N_kind_of : List Str := ["word"]
theorem sc_kind_of : FnScope N_kind_of ps_kind_of_ (defScope s_kind_of) := ⟨rfl, rfl, rfl, by decide +kernel, rfl, by decide +kernel, by decide +kernel⟩
abbrev ps_number_of_ : List Str := ["word"]
abbrev N_number_of : List Str := ["word", "number"]
theorem sc_number_of : FnScope N_number_of ps_number_of_ (defScope s_number_of) := ⟨rfl, rfl, rfl, by decide +kernel, rfl, by decide +kernel, by decide +kernel⟩
abbrev ps_Order_init_ : List Str := ["self", "place", "word"]
abbrev N_Order_init : List Str := ["self", "place", "word", "kind"]
theorem sc_Order_init : FnScope N_Order_init ps_Order_init_ (defScope s_Order_init) := ⟨rfl, rfl, rfl, by decide +kernel, rfl, by decide +kernel, by decide +kernel⟩
abbrev ps_needs_ : List Str := ["self", "target"]
abbrev N_needs : List Str := ["self", "target"]
theorem sc_needs : FnScope N_needs ps_needs_ (defScope s_needs) := ⟨rfl, rfl, rfl, by decide +kernel, rfl, by decide +kernel, by decide +kernel⟩
abbrev ps_total_ : List Str := ["order", "x", "y"]
abbrev N_total : List Str := ["order", "x", "y"]
theorem sc_total : FnScope N_total ps_total_ (defScope s_total) := ⟨rfl, rfl, rfl, by decide +kernel, rfl, by decide +kernel, by decide +kernel⟩
abbrev ps_difference_ : List Str := ["order", "x", "y"]
abbrev N_difference : List Str := ["order", "x", "y"]
theorem sc_difference : FnScope N_difference ps_difference_ (defScope s_difference) := ⟨rfl, rfl, rfl, by decide +kernel, rfl, by decide +kernel, by decide +kernel⟩
abbrev ps_bits_of_both_ : List Str := ["order", "x", "y"]
abbrev N_bits_of_both : List Str := ["order", "x", "y"]
theorem sc_bits_of_both : FnScope N_bits_of_both ps_bits_of_both_ (defScope s_bits_of_both) := ⟨rfl, rfl, rfl, by decide +kernel, rfl, by decide +kernel, by decide +kernel⟩
abbrev ps_bits_of_any_ : List Str := ["order", "x", "y"]
abbrev N_bits_of_any : List Str := ["order", "x", "y"]
theorem sc_bits_of_any : FnScope N_bits_of_any ps_bits_of_any_ (defScope s_bits_of_any) := ⟨rfl, rfl, rfl, by decide +kernel, rfl, by decide +kernel, by decide +kernel⟩
abbrev ps_bits_of_one_ : List Str := ["order", "x", "y"]
abbrev N_bits_of_one : List Str := ["order", "x", "y"]
theorem sc_bits_of_one : FnScope N_bits_of_one ps_bits_of_one_ (defScope s_bits_of_one) := ⟨rfl, rfl, rfl, by decide +kernel, rfl, by decide +kernel, by decide +kernel⟩
abbrev ps_is_less_ : List Str := ["order", "x", "y"]
abbrev N_is_less : List Str := ["order", "x", "y"]
theorem sc_is_less : FnScope N_is_less ps_is_less_ (defScope s_is_less) := ⟨rfl, rfl, rfl, by decide +kernel, rfl, by decide +kernel, by decide +kernel⟩
abbrev ps_offset_ : List Str := ["order", "x", "y"]
abbrev N_offset : List Str := ["order", "x", "y"]
theorem sc_offset : FnScope N_offset ps_offset_ (defScope s_offset) := ⟨rfl, rfl, rfl, by decide +kernel, rfl, by decide +kernel, by decide +kernel⟩
abbrev ps_goes_if_same_ : List Str := ["order", "x", "y"]
abbrev N_goes_if_same : List Str := ["order", "x", "y"]
theorem sc_goes_if_same : FnScope N_goes_if_same ps_goes_if_same_ (defScope s_goes_if_same) := ⟨rfl, rfl, rfl, by decide +kernel, rfl, by decide +kernel, by decide +kernel⟩
abbrev ps_goes_if_other_ : List Str := ["order", "x", "y"]
abbrev N_goes_if_other : List Str := ["order", "x", "y"]
theorem sc_goes_if_other : FnScope N_goes_if_other ps_goes_if_other_ (defScope s_goes_if_other) := ⟨rfl, rfl, rfl, by decide +kernel, rfl, by decide +kernel, by decide +kernel⟩
abbrev ps_way_back_ : List Str := ["order", "x", "y"]
abbrev N_way_back : List Str := ["order", "x", "y"]
theorem sc_way_back : FnScope N_way_back ps_way_back_ (defScope s_way_back) := ⟨rfl, rfl, rfl, by decide +kernel, rfl, by decide +kernel, by decide +kernel⟩
abbrev ps_no_result_ : List Str := ["order", "x", "y"]
abbrev N_no_result : List Str := ["order", "x", "y"]
theorem sc_no_result : FnScope N_no_result ps_no_result_ (defScope s_no_result) := ⟨rfl, rfl, rfl, by decide +kernel, rfl, by decide +kernel, by decide +kernel⟩
abbrev ps_result_of_ : List Str := ["order", "x", "y"]
abbrev N_result_of : List Str := ["order", "x", "y"]
theorem sc_result_of : FnScope N_result_of ps_result_of_ (defScope s_result_of) := ⟨rfl, rfl, rfl, by decide +kernel, rfl, by decide +kernel, by decide +kernel⟩
abbrev ps_newest_value_ : List Str := ["number", "value", "remembered", "written"]
abbrev N_newest_value : List Str := ["number", "value", "remembered", "written"]
theorem sc_newest_value : FnScope N_newest_value ps_newest_value_ (defScope s_newest_value) := ⟨rfl, rfl, rfl, by decide +kernel, rfl, by decide +kernel, by decide +kernel⟩
abbrev ps_Pipeline_init_ : List Str := ["self", "words", "way"]
abbrev N_Pipeline_init : List Str := ["self", "words", "way", "place", "word"]
theorem sc_Pipeline_init : FnScope N_Pipeline_init ps_Pipeline_init_ (defScope s_Pipeline_init) := ⟨rfl, rfl, rfl, by decide +kernel, rfl, by decide +kernel, by decide +kernel⟩
abbrev ps_cycle_ : List Str := ["self"]
abbrev N_cycle : List Str := ["self", "written", "remembered", "reckoned", "read", "right_place"]
theorem sc_cycle : FnScope N_cycle ps_cycle_ (defScope s_cycle) := ⟨rfl, rfl, rfl, by decide +kernel, rfl, by decide +kernel, by decide +kernel⟩
abbrev ps_write_ : List Str := ["self", "written"]
abbrev N_write : List Str := ["self", "written", "order"]
theorem sc_write : FnScope N_write ps_write_ (defScope s_write) := ⟨rfl, rfl, rfl, by decide +kernel, rfl, by decide +kernel, by decide +kernel⟩
abbrev ps_use_memory_ : List Str := ["self", "remembered"]
abbrev N_use_memory : List Str := ["self", "remembered", "order"]
theorem sc_use_memory : FnScope N_use_memory ps_use_memory_ (defScope s_use_memory) := ⟨rfl, rfl, rfl, by decide +kernel, rfl, by decide +kernel, by decide +kernel⟩
abbrev ps_reckon_ : List Str := ["self", "reckoned", "remembered", "written"]
abbrev N_reckon : List Str := ["self", "reckoned", "remembered", "written", "order", "x", "y"]
theorem sc_reckon : FnScope N_reckon ps_reckon_ (defScope s_reckon) := ⟨rfl, rfl, rfl, by decide +kernel, rfl, by decide +kernel, by decide +kernel⟩
abbrev ps_place_if_wrong_ : List Str := ["self", "told"]
abbrev N_place_if_wrong : List Str := ["self", "told", "order", "right_place", "fetched_place"]
theorem sc_place_if_wrong : FnScope N_place_if_wrong ps_place_if_wrong_ (defScope s_place_if_wrong) := ⟨rfl, rfl, rfl, by decide +kernel, rfl, by decide +kernel, by decide +kernel⟩
abbrev ps_learn_ : List Str := ["self", "told"]
abbrev N_learn : List Str := ["self", "told", "guess_at", "guess"]
theorem sc_learn : FnScope N_learn ps_learn_ (defScope s_learn) := ⟨rfl, rfl, rfl, by decide +kernel, rfl, by decide +kernel, by decide +kernel⟩
abbrev ps_lose_guessed_ : List Str := ["self", "right_place"]
abbrev N_lose_guessed : List Str := ["self", "right_place"]
theorem sc_lose_guessed : FnScope N_lose_guessed ps_lose_guessed_ (defScope s_lose_guessed) := ⟨rfl, rfl, rfl, by decide +kernel, rfl, by decide +kernel, by decide +kernel⟩
abbrev ps_has_to_wait_ : List Str := ["self", "order", "reckoned", "remembered"]
abbrev N_has_to_wait : List Str := ["self", "order", "reckoned", "remembered"]
theorem sc_has_to_wait : FnScope N_has_to_wait ps_has_to_wait_ (defScope s_has_to_wait) := ⟨rfl, rfl, rfl, by decide +kernel, rfl, by decide +kernel, by decide +kernel⟩
abbrev ps_read_registers_ : List Str := ["self", "order"]
abbrev N_read_registers : List Str := ["self", "order"]
theorem sc_read_registers : FnScope N_read_registers ps_read_registers_ (defScope s_read_registers) := ⟨rfl, rfl, rfl, by decide +kernel, rfl, by decide +kernel, by decide +kernel⟩
abbrev ps_fetch_ : List Str := ["self"]
abbrev N_fetch : List Str := ["self", "order", "goes"]
theorem sc_fetch : FnScope N_fetch ps_fetch_ (defScope s_fetch) := ⟨rfl, rfl, rfl, by decide +kernel, rfl, by decide +kernel, by decide +kernel⟩
abbrev ps_order_at_ : List Str := ["self", "place"]
abbrev N_order_at : List Str := ["self", "place", "order"]
theorem sc_order_at : FnScope N_order_at ps_order_at_ (defScope s_order_at) := ⟨rfl, rfl, rfl, by decide +kernel, rfl, by decide +kernel, by decide +kernel⟩
abbrev ps_is_guessed_to_go_ : List Str := ["self", "order"]
abbrev N_is_guessed_to_go : List Str := ["self", "order"]
theorem sc_is_guessed_to_go : FnScope N_is_guessed_to_go ps_is_guessed_to_go_ (defScope s_is_guessed_to_go) := ⟨rfl, rfl, rfl, by decide +kernel, rfl, by decide +kernel, by decide +kernel⟩
abbrev ps_run_ : List Str := ["self", "cycles"]
abbrev N_run : List Str := ["self", "cycles", "left", "stretch", "state", "counts", "gone"]
theorem sc_run : FnScope N_run ps_run_ (defScope s_run) := ⟨rfl, rfl, rfl, by decide +kernel, rfl, by decide +kernel, by decide +kernel⟩
abbrev ps_run_to_state_ : List Str := ["self", "state", "most"]
abbrev N_run_to_state : List Str := ["self", "state", "most", "place", "gone"]
theorem sc_run_to_state : FnScope N_run_to_state ps_run_to_state_ (defScope s_run_to_state) := ⟨rfl, rfl, rfl, by decide +kernel, rfl, by decide +kernel, by decide +kernel⟩
abbrev ps_stages_ : List Str := ["self"]
abbrev N_stages : List Str := ["self"]
theorem sc_stages : FnScope N_stages ps_stages_ (defScope s_stages) := ⟨rfl, rfl, rfl, by decide +kernel, rfl, by decide +kernel, by decide +kernel⟩
abbrev ps_state_ : List Str := ["self"]
abbrev N_state : List Str := ["self", "held"]
theorem sc_state : FnScope N_state ps_state_ (defScope s_state) := ⟨rfl, rfl, rfl, by decide +kernel, rfl, by decide +kernel, by decide +kernel⟩
abbrev ps_is_in_state_ : List Str := ["self", "state"]
abbrev N_is_in_state : List Str := ["self", "state"]
theorem sc_is_in_state : FnScope N_is_in_state ps_is_in_state_ (defScope s_is_in_state) := ⟨rfl, rfl, rfl, by decide +kernel, rfl, by decide +kernel, by decide +kernel⟩
abbrev ps_counts_ : List Str := ["self"]
abbrev N_counts : List Str := ["self"]
theorem sc_counts : FnScope N_counts ps_counts_ (defScope s_counts) := ⟨rfl, rfl, rfl, by decide +kernel, rfl, by decide +kernel, by decide +kernel⟩
abbrev ps_count_again_ : List Str := ["self", "earlier", "times"]
abbrev N_count_again : List Str := ["self", "earlier", "times"]
theorem sc_count_again : FnScope N_count_again ps_count_again_ (defScope s_count_again) := ⟨rfl, rfl, rfl, by decide +kernel, rfl, by decide +kernel, by decide +kernel⟩
abbrev ps_shown_place_ : List Str := ["order"]
abbrev N_shown_place : List Str := ["order"]
theorem sc_shown_place : FnScope N_shown_place ps_shown_place_ (defScope s_shown_place) := ⟨rfl, rfl, rfl, by decide +kernel, rfl, by decide +kernel, by decide +kernel⟩
abbrev ps_Machine_init_ : List Str := ["self"]
abbrev N_Machine_init : List Str := ["self"]
theorem sc_Machine_init : FnScope N_Machine_init ps_Machine_init_ (defScope s_Machine_init) := ⟨rfl, rfl, rfl, by decide +kernel, rfl, by decide +kernel, by decide +kernel⟩
abbrev ps_load_ : List Str := ["self", "n", "way", "words"]
abbrev N_load : List Str := ["self", "n", "way", "words", "word"]
theorem sc_load : FnScope N_load ps_load_ (defScope s_load) := ⟨rfl, rfl, rfl, by decide +kernel, rfl, by decide +kernel, by decide +kernel⟩
abbrev ps_go_ : List Str := ["self", "cycles"]
abbrev N_go : List Str := ["self", "cycles"]
theorem sc_go : FnScope N_go ps_go_ (defScope s_go) := ⟨rfl, rfl, rfl, by decide +kernel, rfl, by decide +kernel, by decide +kernel⟩
abbrev ps_has_ended_ : List Str := ["self"]
abbrev N_has_ended : List Str := ["self"]
theorem sc_has_ended : FnScope N_has_ended ps_has_ended_ (defScope s_has_ended) := ⟨rfl, rfl, rfl, by decide +kernel, rfl, by decide +kernel, by decide +kernel⟩
abbrev ps_shows_ : List Str := ["self"]
abbrev N_shows : List Str := ["self", "line", "reckoned", "remembered", "written", "places", "order"]
theorem sc_shows : FnScope N_shows ps_shows_ (defScope s_shows) := ⟨rfl, rfl, rfl, by decide +kernel, rfl, by decide +kernel, by decide +kernel⟩
abbrev ps_reg_ : List Str := ["self", "r"]
abbrev N_reg : List Str := ["self", "r"]
theorem sc_reg : FnScope N_reg ps_reg_ (defScope s_reg) := ⟨rfl, rfl, rfl, by decide +kernel, rfl, by decide +kernel, by decide +kernel⟩
abbrev ps_mem_ : List Str := ["self", "a"]
abbrev N_mem : List Str := ["self", "a"]
theorem sc_mem : FnScope N_mem ps_mem_ (defScope s_mem) := ⟨rfl, rfl, rfl, by decide +kernel, rfl, by decide +kernel, by decide +kernel⟩
abbrev ps_end_of_call_ : List Str := ["calls", "start"]
abbrev N_end_of_call : List Str := ["calls", "start", "number"]
theorem sc_end_of_call : FnScope N_end_of_call ps_end_of_call_ (defScope s_end_of_call) := ⟨rfl, rfl, rfl, by decide +kernel, rfl, by decide +kernel, by decide +kernel⟩
abbrev ps_answer_of_ : List Str := ["machine", "call"]
abbrev N_answer_of : List Str := ["machine", "call", "number"]
theorem sc_answer_of : FnScope N_answer_of ps_answer_of_ (defScope s_answer_of) := ⟨rfl, rfl, rfl, by decide +kernel, rfl, by decide +kernel, by decide +kernel⟩
abbrev ps_answers_ : List Str := ["calls"]
abbrev N_answers : List Str := ["calls", "machine", "told", "start", "end", "answer"]
theorem sc_answers : FnScope N_answers ps_answers_ (defScope s_answers) := ⟨rfl, rfl, rfl, by decide +kernel, rfl, by decide +kernel, by decide +kernel⟩
/-! ### what the walk asks of the module -/
structure Def (K : PySem.W.Frag) (mg : Str → Option Value) (x : Str) (st : Stmt) (ps : List Str) : Prop where
  ex : ∃ (f : Addr) (fd : FuncData), Fun K x x st f fd ∧ Binds K fd ps [] ∧ mg x = some (.ref f)
structure MDef (K : PySem.W.Frag) (C : Addr) (x qual : Str) (st : Stmt) (ps : List Str) : Prop where
  ex : ∃ (f : Addr) (fd : FuncData), Fun K x qual st f fd ∧ Binds K fd ps [] ∧ Meth K C x f
structure IDef (K : PySem.W.Frag) (mg : Str → Option Value) (C : Addr) (x qual : Str) (st : Stmt) (ps : List Str) : Prop where
  ex : ∃ (f : Addr) (fd : FuncData), Fun K "__init__" qual st f fd ∧ Binds K fd ps [] ∧ Mk K C f ∧ mg x = some (.ref C)
/-- a tuple of the module -/
def KTup (K : PySem.W.Frag) (mg : Str → Option Value) (x : Str) (xs : List V) : Prop := ∃ a, mg x = some (.ref a) ∧ ∀ H : Hp, SqT K H a xs
structure Cl where
  cOrder : Addr
  cPipeline : Addr
  cMachine : Addr
structure Txt (K : PySem.W.Frag) (mg : Str → Option Value) (c : Cl) : Prop where
  cmpOrder : CmpK K c.cOrder
  clOrder : Cls K c.cOrder
  clPipeline : Cls K c.cPipeline
  clMachine : Cls K c.cMachine
  neOrderPipeline : c.cOrder ≠ c.cPipeline
  neOrderMachine : c.cOrder ≠ c.cMachine
  nePipelineMachine : c.cPipeline ≠ c.cMachine
  nOrder_place : NoAttr K c.cOrder "place"
  nOrder_kind : NoAttr K c.cOrder "kind"
  nOrder_target : NoAttr K c.cOrder "target"
  nOrder_first : NoAttr K c.cOrder "first"
  nOrder_second : NoAttr K c.cOrder "second"
  nOrder_number : NoAttr K c.cOrder "number"
  nOrder_branches : NoAttr K c.cOrder "branches"
  nOrder_following : NoAttr K c.cOrder "following"
  nOrder_aim : NoAttr K c.cOrder "aim"
  nOrder_guess_at : NoAttr K c.cOrder "guess_at"
  nPipeline_orders : NoAttr K c.cPipeline "orders"
  nPipeline_hands_on : NoAttr K c.cPipeline "hands_on"
  nPipeline_guesses_goings : NoAttr K c.cPipeline "guesses_goings"
  nPipeline_registers : NoAttr K c.cPipeline "registers"
  nPipeline_memory : NoAttr K c.cPipeline "memory"
  nPipeline_guesses : NoAttr K c.cPipeline "guesses"
  nPipeline_place : NoAttr K c.cPipeline "place"
  nPipeline_fetches : NoAttr K c.cPipeline "fetches"
  nPipeline_to_read : NoAttr K c.cPipeline "to_read"
  nPipeline_to_reckon : NoAttr K c.cPipeline "to_reckon"
  nPipeline_in_memory : NoAttr K c.cPipeline "in_memory"
  nPipeline_to_write : NoAttr K c.cPipeline "to_write"
  nPipeline_ended : NoAttr K c.cPipeline "ended"
  nPipeline_cycles : NoAttr K c.cPipeline "cycles"
  nPipeline_done : NoAttr K c.cPipeline "done"
  nPipeline_waited : NoAttr K c.cPipeline "waited"
  nPipeline_lost : NoAttr K c.cPipeline "lost"
  nMachine_pipeline : NoAttr K c.cMachine "pipeline"
  nMachine_asked : NoAttr K c.cMachine "asked"
  d_with_sign : Def K mg "with_sign" s_with_sign ps_with_sign_
  d_kind_of : Def K mg "kind_of" s_kind_of ps_kind_of_
  d_number_of : Def K mg "number_of" s_number_of ps_number_of_
  d_Order_init : IDef K mg c.cOrder "Order" "Order.__init__" s_Order_init ps_Order_init_
  d_needs : MDef K c.cOrder "needs" "Order.needs" s_needs ps_needs_
  d_total : Def K mg "total" s_total ps_total_
  d_difference : Def K mg "difference" s_difference ps_difference_
  d_bits_of_both : Def K mg "bits_of_both" s_bits_of_both ps_bits_of_both_
  d_bits_of_any : Def K mg "bits_of_any" s_bits_of_any ps_bits_of_any_
  d_bits_of_one : Def K mg "bits_of_one" s_bits_of_one ps_bits_of_one_
  d_is_less : Def K mg "is_less" s_is_less ps_is_less_
  d_offset : Def K mg "offset" s_offset ps_offset_
  d_goes_if_same : Def K mg "goes_if_same" s_goes_if_same ps_goes_if_same_
  d_goes_if_other : Def K mg "goes_if_other" s_goes_if_other ps_goes_if_other_
  d_way_back : Def K mg "way_back" s_way_back ps_way_back_
  d_no_result : Def K mg "no_result" s_no_result ps_no_result_
  d_result_of : Def K mg "result_of" s_result_of ps_result_of_
  d_newest_value : Def K mg "newest_value" s_newest_value ps_newest_value_
  d_Pipeline_init : IDef K mg c.cPipeline "Pipeline" "Pipeline.__init__" s_Pipeline_init ps_Pipeline_init_
  d_cycle : MDef K c.cPipeline "cycle" "Pipeline.cycle" s_cycle ps_cycle_
  d_write : MDef K c.cPipeline "write" "Pipeline.write" s_write ps_write_
  d_use_memory : MDef K c.cPipeline "use_memory" "Pipeline.use_memory" s_use_memory ps_use_memory_
  d_reckon : MDef K c.cPipeline "reckon" "Pipeline.reckon" s_reckon ps_reckon_
  d_place_if_wrong : MDef K c.cPipeline "place_if_wrong" "Pipeline.place_if_wrong" s_place_if_wrong ps_place_if_wrong_
  d_learn : MDef K c.cPipeline "learn" "Pipeline.learn" s_learn ps_learn_
  d_lose_guessed : MDef K c.cPipeline "lose_guessed" "Pipeline.lose_guessed" s_lose_guessed ps_lose_guessed_
  d_has_to_wait : MDef K c.cPipeline "has_to_wait" "Pipeline.has_to_wait" s_has_to_wait ps_has_to_wait_
  d_read_registers : MDef K c.cPipeline "read_registers" "Pipeline.read_registers" s_read_registers ps_read_registers_
  d_fetch : MDef K c.cPipeline "fetch" "Pipeline.fetch" s_fetch ps_fetch_
  d_order_at : MDef K c.cPipeline "order_at" "Pipeline.order_at" s_order_at ps_order_at_
  d_is_guessed_to_go : MDef K c.cPipeline "is_guessed_to_go" "Pipeline.is_guessed_to_go" s_is_guessed_to_go ps_is_guessed_to_go_
  d_run : MDef K c.cPipeline "run" "Pipeline.run" s_run ps_run_
  d_run_to_state : MDef K c.cPipeline "run_to_state" "Pipeline.run_to_state" s_run_to_state ps_run_to_state_
  d_stages : MDef K c.cPipeline "stages" "Pipeline.stages" s_stages ps_stages_
  d_state : MDef K c.cPipeline "state" "Pipeline.state" s_state ps_state_
  d_is_in_state : MDef K c.cPipeline "is_in_state" "Pipeline.is_in_state" s_is_in_state ps_is_in_state_
  d_counts : MDef K c.cPipeline "counts" "Pipeline.counts" s_counts ps_counts_
  d_count_again : MDef K c.cPipeline "count_again" "Pipeline.count_again" s_count_again ps_count_again_
  d_shown_place : Def K mg "shown_place" s_shown_place ps_shown_place_
  d_Machine_init : IDef K mg c.cMachine "Machine" "Machine.__init__" s_Machine_init ps_Machine_init_
  d_load : MDef K c.cMachine "load" "Machine.load" s_load ps_load_
  d_go : MDef K c.cMachine "go" "Machine.go" s_go ps_go_
  d_has_ended : MDef K c.cMachine "has_ended" "Machine.has_ended" s_has_ended ps_has_ended_
  d_shows : MDef K c.cMachine "shows" "Machine.shows" s_shows ps_shows_
  d_reg : MDef K c.cMachine "reg" "Machine.reg" s_reg ps_reg_
  d_mem : MDef K c.cMachine "mem" "Machine.mem" s_mem ps_mem_
  d_end_of_call : Def K mg "end_of_call" s_end_of_call ps_end_of_call_
  d_answer_of : Def K mg "answer_of" s_answer_of ps_answer_of_
  d_answers : Def K mg "answers" s_answers ps_answers_
  k_ALL_BITS : ∃ t, mg "ALL_BITS" = some (.int 4294967295 t)
  k_SIGN_BIT : ∃ t, mg "SIGN_BIT" = some (.int 2147483648 t)
  k_LOAD : ∃ t, mg "LOAD" = some (.int 7 t)
  k_STORE : ∃ t, mg "STORE" = some (.int 8 t)
  k_IF_SAME : ∃ t, mg "IF_SAME" = some (.int 9 t)
  k_IF_OTHER : ∃ t, mg "IF_OTHER" = some (.int 10 t)
  k_JUMP : ∃ t, mg "JUMP" = some (.int 11 t)
  k_END : ∃ t, mg "END" = some (.int 12 t)
  k_FIRST_STRETCH : ∃ t, mg "FIRST_STRETCH" = some (.int 64 t)
  k_CALL_LOAD : ∃ t, mg "CALL_LOAD" = some (.int 1 t)
  k_CALL_GO : ∃ t, mg "CALL_GO" = some (.int 2 t)
  k_CALL_SHOWS : ∃ t, mg "CALL_SHOWS" = some (.int 3 t)
  k_CALL_REG : ∃ t, mg "CALL_REG" = some (.int 4 t)
  k_MOST_ORDERS : ∃ t, mg "MOST_ORDERS" = some (.int 1024 t)
  k_MOST_CYCLES_AT_ONCE : ∃ t, mg "MOST_CYCLES_AT_ONCE" = some (.int 1000000 t)
  k_MOST_CYCLES_IN_ALL : ∃ t, mg "MOST_CYCLES_IN_ALL" = some (.int 2000000000 t)
  t_WRITING_KINDS : KTup K mg "WRITING_KINDS" [.int 0, .int 1, .int 2, .int 3, .int 4, .int 5, .int 6, .int 7, .int 11]
  t_FIRST_READING_KINDS : KTup K mg "FIRST_READING_KINDS" [.int 0, .int 1, .int 2, .int 3, .int 4, .int 5, .int 6, .int 7, .int 8, .int 9, .int 10]
  t_SECOND_READING_KINDS : KTup K mg "SECOND_READING_KINDS" [.int 0, .int 1, .int 2, .int 3, .int 4, .int 5, .int 8, .int 9, .int 10]
  b_min : mg "min" = none
  b_max : mg "max" = none
  b_len : mg "len" = none
  b_list : mg "list" = none
  b_any : mg "any" = none
  b_enumerate : mg "enumerate" = none
  t_RESULTS : ∃ (a : Addr) (fs : List Addr), mg "RESULTS" = some (.ref a) ∧ (∀ H : Hp, SqT K H a (fs.map V.ref)) ∧
    fs.map (fun f => some (Value.ref f)) = [mg "total", mg "difference", mg "bits_of_both", mg "bits_of_any", mg "bits_of_one", mg "is_less", mg "offset", mg "offset", mg "offset", mg "goes_if_same", mg "goes_if_other", mg "way_back", mg "no_result"]

/-! ### rules in short -/
section
variable {X : Cx} {x : Str} {p pos apos : Pos} {e o : Expr} {es : List Expr} {t : TA} {ta : TE} {st : Stmt} {ps : List Str} {k j : Nat} {sp : Sp} {C : Addr} {qual m : Str}
theorem pe_gint {i : Int} (h : ∃ t, X.mg x = some (.int i t)) (hg : Gl X x) (hd : (x == ("__debug__" : Str)) = false := by decide) : PE X (.Name x pos) (tC (.int i)) := by
  obtain ⟨t, e⟩ := h
  exact pe_glob hg e ⟨t, rfl⟩ hd
theorem pe_gref {a : Addr} (h : X.mg x = some (.ref a)) (hg : Gl X x) (hd : (x == ("__debug__" : Str)) = false := by decide) : PE X (.Name x pos) (tC (.ref a)) := pe_glob hg h rfl hd
/-- a def of the module -/
theorem pe_def (D : Def X.K X.mg x st ps) (G : ∀ f fd, Fun X.K x x st f fd → FnOk X.prog X.w X.K X.mg X.base CX0 k f fd ps sp) (hr : Room j X.A) (hg : Gl X x) (ha : PA X (e :: es) t) (hjk : k ≤ j := by decide)
    (hdb : (x == ("__debug__" : Str)) = false := by decide) (he : starEach (e :: es) X.env = (false, eval e X.env) :: starEach es X.env := by rfl) (hpl : (backTo pos (starEach es X.env)).any (·.1) = false := by rfl) :
    PE X (.Call (.Name x p) (e :: es) [] pos) (tCall sp [] E0 t) := by
  obtain ⟨f, fd, F, B, g⟩ := D.ex
  exact pe_call (G f fd F) (hr.mono hjk) hg g F.kp B .nil pass0 ha hdb he hpl
/-- o.m(..) -/
theorem pe_mdef {pl : Sem Bool} (ho : PE X o ta) (c : Cls X.K C) (D : MDef X.K C m qual st ps) (G : ∀ f fd, Fun X.K m qual st f fd → FnOk X.prog X.w X.K X.mg X.base CX0 k f fd ps sp) (hr : Room j X.A) (ha : PA X (e :: es) t) (hjk : k ≤ j := by decide)
    (hst : starEach (e :: es) X.env = (false, eval e X.env) :: starEach es X.env := by rfl) (hpl : (backTo pos (starEach es X.env)).any (·.1) = false := by rfl)
    (ht : eval (.Call (.Attribute o m apos) (e :: es) [] pos) X.env = (do
      let ov ← eval o X.env
      standAt apos.atName
      let (f, first) ← holding [ov] (getMethod ov m pl)
      callWith pos f first (backTo pos (starEach (e :: es) X.env)) (backToKw pos (keywordEach [] X.env))) := by rfl) :
    PE X (.Call (.Attribute o m apos) (e :: es) [] pos) (tMeth C m sp [] E0 ta t) := by
  obtain ⟨f, fd, F, B, g⟩ := D.ex
  exact pe_meth ho c g (G f fd F) (hr.mono hjk) B .nil pass0 ha hst hpl ht
theorem pe_mdef0 {pl : Sem Bool} (ho : PE X o ta) (c : Cls X.K C) (D : MDef X.K C m qual st ps) (G : ∀ f fd, Fun X.K m qual st f fd → FnOk X.prog X.w X.K X.mg X.base CX0 k f fd ps sp) (hr : Room j X.A) (hjk : k ≤ j := by decide)
    (ht : eval (.Call (.Attribute o m apos) [] [] pos) X.env = (do
      let ov ← eval o X.env
      standAt apos.atName
      let (f, first) ← holding [ov] (getMethod ov m pl)
      callWith pos f first (backTo pos (starEach [] X.env)) (backToKw pos (keywordEach [] X.env))) := by rfl) :
    PE X (.Call (.Attribute o m apos) [] [] pos) (tMeth C m sp [] E0 ta tNil) := by
  obtain ⟨f, fd, F, B, g⟩ := D.ex
  exact pe_meth0 ho c g (G f fd F) (hr.mono hjk) B .nil pass0 ht
/-- C(..) -/
theorem pe_idef (D : IDef X.K X.mg C x qual st ps) (G : ∀ f fd, Fun X.K "__init__" qual st f fd → FnOk X.prog X.w X.K X.mg X.base CX0 k f fd ps sp) (hr : Room j X.A) (hg : Gl X x) (ha : PA X (e :: es) t) (hjk : k + 1 ≤ j := by decide)
    (hdb : (x == ("__debug__" : Str)) = false := by decide) (he : starEach (e :: es) X.env = (false, eval e X.env) :: starEach es X.env := by rfl) (hpl : (backTo pos (starEach es X.env)).any (·.1) = false := by rfl) :
    PE X (.Call (.Name x p) (e :: es) [] pos) (tMake C sp [] E0 t) := by
  obtain ⟨f, fd, F, B, M, g⟩ := D.ex
  exact pe_make M (G f fd F) (hr.mono hjk) hg g B .nil pass0 ha hdb he hpl
theorem pe_idef0 (D : IDef X.K X.mg C x qual st ps) (G : ∀ f fd, Fun X.K "__init__" qual st f fd → FnOk X.prog X.w X.K X.mg X.base CX0 k f fd ps sp) (hr : Room j X.A) (hg : Gl X x) (hjk : k + 1 ≤ j := by decide)
    (hdb : (x == ("__debug__" : Str)) = false := by decide) : PE X (.Call (.Name x p) [] [] pos) (tMake C sp [] E0 tNil) := by
  obtain ⟨f, fd, F, B, M, g⟩ := D.ex
  exact pe_make0 M (G f fd F) (hr.mono hjk) hg g B .nil pass0 hdb
/-- e(..), e a value that is a def of the module -/
def tCallV (X : Cx) (tf : TE) (t : TA) : TE := fun σ H Q => tf σ H fun x H1 => ∃ (f : Addr) (fd : FuncData) (ps : List Str) (k : Nat) (sp : Sp), x = .ref f ∧ FnOk X.prog X.w X.K X.mg X.base CX0 k f fd ps sp ∧ Room k X.A ∧ Binds X.K fd ps [] ∧
  PySem.W.keepIn X.K (.ref f) = true ∧ t σ H1 fun vs H2 => sp (vs ++ []) H2 Q E0
theorem pe_callV {ef : Expr} {tf : TE} (hf : PE X ef tf) (ha : PA X (e :: es) t)
    (ht : eval (.Call ef (e :: es) [] pos) X.env = (do callWith pos (← eval ef X.env) [] (backTo pos (starEach (e :: es) X.env)) (backToKw pos (keywordEach [] X.env))) := by rfl)
    (he : starEach (e :: es) X.env = (false, eval e X.env) :: starEach es X.env := by rfl) (hpl : (backTo pos (starEach es X.env)).any (·.1) = false := by rfl) : PE X (.Call ef (e :: es) [] pos) (tCallV X tf t) := by
  intro pins s σ H Q I h
  refine PyProof.Rows.Call_ (thn (hf pins s σ H _ I h) fun u s1 ⟨x, H1, I1, rx, f, fd, ps, k, sp, ex, F, hr, B, hk, q⟩ => ?_) ht
  subst ex
  obtain rfl : u = Value.ref f := rx
  refine PySem.W.callWith_K (h₀ := X.base) I.ok.mod.kin hk (thn (ha pos pins s1 σ H1 _ I1 q) fun us s2 ⟨vs, H2, I2, r, q2⟩ => ⟨I2.kIn, ?_⟩) he hpl
  exact run_fn F hr B .nil pass0 I2 r q2
end

/-! ### numbers -/
theorem and_mask (x : Nat) (n : Nat) (hn : (2 : Nat) ^ n - 1 < 2 ^ 62) : Builtin.bitAnd (x : Int) (((2 ^ n - 1 : Nat)) : Int) = ((x % 2 ^ n : Nat) : Int) := by
  rw [PyProof.Rows.bitAnd_pp (by omega) (by omega)]
  rw [Int.toNat_natCast, Int.toNat_natCast, Nat.and_two_pow_sub_one_eq_mod]
theorem and15 (x : Nat) : Builtin.bitAnd (x : Int) 15 = ((x % 16 : Nat) : Int) := by
  rw [PyProof.Rows.bitAnd_m4]; omega
theorem and1023 (x : Nat) : Builtin.bitAnd (x : Int) 1023 = ((x % 1024 : Nat) : Int) := and_mask x 10 (by decide)
theorem and32 (x : Int) : Builtin.bitAnd x 4294967295 = (((x % 4294967296).toNat : Nat) : Int) := by
  rw [PyProof.Rows.bitAnd_m32]; omega
theorem andNat (x y : Nat) : Builtin.bitAnd (x : Int) (y : Int) = ((x &&& y : Nat) : Int) := by
  rw [PyProof.Rows.bitAnd_pp (by omega) (by omega), Int.toNat_natCast, Int.toNat_natCast]
theorem orNat (x y : Nat) : Builtin.bitOr (x : Int) (y : Int) = ((x ||| y : Nat) : Int) := by
  unfold Builtin.bitOr
  have h1 : decide (0 ≤ Builtin.bitNot (x : Int)) = false := decide_eq_false (by unfold Builtin.bitNot; omega)
  have h2 : decide (0 ≤ Builtin.bitNot (y : Int)) = false := decide_eq_false (by unfold Builtin.bitNot; omega)
  unfold Builtin.bitAnd
  rw [h1, h2]
  simp only
  have n2 : ∀ z : Int, Builtin.bitNot (Builtin.bitNot z) = z := fun z => by unfold Builtin.bitNot; omega
  rw [n2, n2, n2, Int.toNat_natCast, Int.toNat_natCast]
theorem or_xor : ∀ (x y : Nat), x ||| y = (x ^^^ y) + (x &&& y) := by
  intro x
  induction x using Nat.strongRecOn with
  | _ x ih =>
    intro y
    by_cases hx : x = 0
    · subst hx; simp
    · have h := ih (x / 2) (by omega) (y / 2)
      have e1 : (x ||| y) / 2 = x / 2 ||| y / 2 := Nat.or_div_two
      have e2 : (x ^^^ y) / 2 = x / 2 ^^^ y / 2 := Nat.xor_div_two
      have e3 : (x &&& y) / 2 = x / 2 &&& y / 2 := Nat.and_div_two
      have m1 : (x ||| y) % 2 = (x % 2) ||| (y % 2) := by have := @Nat.or_mod_two_pow x y 1; simpa using this
      have m2 : (x ^^^ y) % 2 = (x % 2) ^^^ (y % 2) := by have := @Nat.xor_mod_two_pow x y 1; simpa using this
      have m3 : (x &&& y) % 2 = (x % 2) &&& (y % 2) := by have := @Nat.and_mod_two_pow x y 1; simpa using this
      have hx2 : x % 2 = 0 ∨ x % 2 = 1 := by omega
      have hy2 : y % 2 = 0 ∨ y % 2 = 1 := by omega
      rcases hx2 with a | a <;> rcases hy2 with b | b <;> rw [a, b] at m1 m2 m3 <;> simp only [Nat.or_zero, Nat.zero_or, Nat.or_self, Nat.xor_zero, Nat.zero_xor, Nat.xor_self, Nat.and_zero, Nat.zero_and, Nat.and_self] at m1 m2 m3 <;> omega
theorem xorNat (x y : Nat) : Builtin.bitXor (x : Int) (y : Int) = ((x ^^^ y : Nat) : Int) := by
  unfold Builtin.bitXor
  rw [orNat, andNat]
  have := or_xor x y
  omega
end Fs

set_option Elab.async false
set_option linter.all false
set_option maxRecDepth 100000
namespace Fs
open PySem L2
local macro_rules | `(tactic| walk_at "rv") => `(tactic| refine ⟨_, rfl, ?_⟩)
local macro_rules | `(tactic| walk_at "ri") => `(tactic| refine ⟨_, _, rfl, rfl, ?_⟩)

/-! ### an order as it stands in the heap -/
def ordF (o : Ord) : List (Str × V) :=
  [("place", .int (o.place : Int)), ("kind", .int (o.kind : Int)), ("target", .int (o.target : Int)), ("first", .int (o.first : Int)), ("second", .int (o.second : Int)), ("number", .int o.number),
   ("branches", .bl o.branches), ("following", .int (o.following : Int)), ("aim", .int (o.aim : Int)), ("guess_at", .int (o.guessAt : Int))]
theorem oL_place (o : Ord) : (ordF o).lookup ("place" : Str) = some (.int (o.place : Int)) := by kernel_rfl
theorem oL_kind (o : Ord) : (ordF o).lookup ("kind" : Str) = some (.int (o.kind : Int)) := by kernel_rfl
theorem oL_target (o : Ord) : (ordF o).lookup ("target" : Str) = some (.int (o.target : Int)) := by kernel_rfl
theorem oL_first (o : Ord) : (ordF o).lookup ("first" : Str) = some (.int (o.first : Int)) := by kernel_rfl
theorem oL_second (o : Ord) : (ordF o).lookup ("second" : Str) = some (.int (o.second : Int)) := by kernel_rfl
theorem oL_number (o : Ord) : (ordF o).lookup ("number" : Str) = some (.int o.number) := by kernel_rfl
theorem oL_branches (o : Ord) : (ordF o).lookup ("branches" : Str) = some (.bl o.branches) := by kernel_rfl
theorem oL_following (o : Ord) : (ordF o).lookup ("following" : Str) = some (.int (o.following : Int)) := by kernel_rfl
theorem oL_aim (o : Ord) : (ordF o).lookup ("aim" : Str) = some (.int (o.aim : Int)) := by kernel_rfl
theorem oL_guess_at (o : Ord) : (ordF o).lookup ("guess_at" : Str) = some (.int (o.guessAt : Int)) := by kernel_rfl
theorem oL_needs (o : Ord) : (ordF o).lookup ("needs" : Str) = none := by kernel_rfl
def OrdAt (c : Cl) (H : Hp) (a : Addr) (o : Ord) : Prop := ∃ dx, H a = some (.ins c.cOrder dx (ordF o))

/-! ### promises -/
def sp_with_sign : Sp := fun vs H Q _ => ∃ z : Nat, vs = [.int (z : Int)] ∧ Q (.int (sgn z)) H
def sp_kind_of : Sp := fun vs H Q _ => ∃ z : Nat, vs = [.int (z : Int)] ∧ Q (.int ((z % 16 : Nat) : Int)) H
def sp_number_of : Sp := fun vs H Q _ => ∃ z : Nat, vs = [.int (z : Int)] ∧ Q (.int (num z)) H
def sp_Order_init (c : Cl) : Sp := fun vs H Q _ => ∃ (a dx : Addr) (p w : Nat), vs = [.ref a, .int (p : Int), .int (w : Int)] ∧ H a = some (.ins c.cOrder dx []) ∧ Q .non (upd H a (.ins c.cOrder dx (ordF (mkOrd p w))))
def sp_needs (c : Cl) : Sp := fun vs H Q _ => ∃ (a : Addr) (o : Ord) (t : Nat), vs = [.ref a, .int (t : Int)] ∧ OrdAt c H a o ∧ Q (.bl (needsM o t)) H
def sp_res (c : Cl) (r : Ord → Nat → Nat → Nat) : Sp := fun vs H Q _ => ∃ (a : Addr) (o : Ord) (x y : Nat), vs = [.ref a, .int (x : Int), .int (y : Int)] ∧ OrdAt c H a o ∧ Q (.int ((r o x y : Nat) : Int)) H
def sp_result_of (c : Cl) : Sp := fun vs H Q _ => ∃ (a : Addr) (o : Ord) (x y : Nat), vs = [.ref a, .int (x : Int), .int (y : Int)] ∧ OrdAt c H a o ∧ o.kind ≤ 12 ∧ Q (.int ((resM o x y : Nat) : Int)) H

section
variable {P : Program} {w : World} {K : PySem.W.Frag} {mg : Str → Option Value} {base : Heap} {c : Cl}

theorem ok_with_sign (T : Txt K mg c) (f : Addr) (fd : FuncData) (F : Fun K "with_sign" "with_sign" s_with_sign f fd) : FnOk P w K mg base CX0 1 f fd ps_with_sign_ sp_with_sign := by
  refine F.ok sc_with_sign (fun vs H Q E h => ?_) (fun cdv A outer s H vs Q E hr h => ?_)
  · obtain ⟨z, rfl, _⟩ := h
    rfl
  · obtain ⟨z, rfl, k⟩ := h
    refine ⟨_, pss_one (ps_ret (pe_ifExp (pt_cmpR op_ge (pv 0) (pe_gint T.k_SIGN_BIT rfl) (nomark _)) (pe_op op_sub (pe_op op_sub (pv 0) (pe_gint T.k_ALL_BITS rfl)) pe_int) (pv 0))), ?_⟩
    refine ⟨_, rfl, _, _, rfl, rfl, _, rfl, ite2 (fun hc => ?_) fun hc => ?_⟩
    · refine ⟨_, rfl, _, _, rfl, rfl, _, _, rfl, rfl, ?_⟩
      have hc' : 2147483648 ≤ z := by have := of_decide_eq_true hc; omega
      have e : sgn z = (z : Int) - 4294967295 - 1 := by unfold sgn; rw [if_pos hc']
      rw [e] at k
      exact k
    · refine ⟨_, rfl, ?_⟩
      have hc' : ¬ 2147483648 ≤ z := fun q => hc (decide_eq_true (by omega))
      have e : sgn z = (z : Int) := by unfold sgn; rw [if_neg hc']
      rw [e] at k
      exact k
theorem ok_kind_of (T : Txt K mg c) (f : Addr) (fd : FuncData) (F : Fun K "kind_of" "kind_of" s_kind_of f fd) : FnOk P w K mg base CX0 1 f fd ps_kind_of_ sp_kind_of := by
  refine F.ok sc_kind_of (fun vs H Q E h => ?_) (fun cdv A outer s H vs Q E hr h => ?_)
  · obtain ⟨z, rfl, _⟩ := h
    rfl
  · obtain ⟨z, rfl, k⟩ := h
    refine ⟨_, pss_one (ps_ret (pe_op op_and (pv 0) pe_int)), ?_⟩
    refine ⟨_, rfl, _, _, rfl, rfl, ?_⟩
    rw [← and15] at k
    exact k
theorem ok_number_of (T : Txt K mg c) (f : Addr) (fd : FuncData) (F : Fun K "number_of" "number_of" s_number_of f fd) : FnOk P w K mg base CX0 1 f fd ps_number_of_ sp_number_of := by
  refine F.ok sc_number_of (fun vs H Q E h => ?_) (fun cdv A outer s H vs Q E hr h => ?_)
  · obtain ⟨z, rfl, _⟩ := h
    rfl
  · obtain ⟨z, rfl, k⟩ := h
    refine ⟨_, pss_cons (ps_set (i := 1) sc_number_of.nd rfl (Or.inl rfl) (pe_op op_shr (pv 0) pe_int)) (pss_one (ps_ret (pe_ifExp (pt_cmpR op_ge (pv 1) pe_int (nomark _)) (pe_op op_sub (pv 1) pe_int) (pv 1)))), ?_⟩
    refine ⟨_, rfl, _, _, rfl, rfl, (by show (0 : Int) ≤ 16; decide), _, rfl, _, _, rfl, rfl, _, rfl, ite2 (fun hc => ?_) fun hc => ?_⟩
    · refine ⟨_, rfl, _, _, rfl, rfl, ?_⟩
      have hc1 : (32768 : Int) ≤ (z : Int) / 2 ^ (16 : Int).toNat := of_decide_eq_true hc
      have e16 : (2 : Int) ^ (16 : Int).toNat = 65536 := by decide
      have hc' : 32768 ≤ z / 65536 := by rw [e16] at hc1; omega
      have e : num z = (z : Int) / 2 ^ (16 : Int).toNat - 65536 := by unfold num; rw [if_pos hc', e16]; omega
      rw [e] at k
      exact k
    · refine ⟨_, rfl, ?_⟩
      have e16 : (2 : Int) ^ (16 : Int).toNat = 65536 := by decide
      have hc' : ¬ 32768 ≤ z / 65536 := fun q => hc (decide_eq_true (by rw [e16]; omega))
      have e : num z = (z : Int) / 2 ^ (16 : Int).toNat := by unfold num; rw [if_neg hc', e16]; omega
      rw [e] at k
      exact k

theorem inW (k : Nat) (h : k < 16) : inV (.int (k : Int)) [.int 0, .int 1, .int 2, .int 3, .int 4, .int 5, .int 6, .int 7, .int 11] = kW k := by
  have : ∀ k : Fin 16, inV (.int ((k : Nat) : Int)) [.int 0, .int 1, .int 2, .int 3, .int 4, .int 5, .int 6, .int 7, .int 11] = kW k := by decide
  exact this ⟨k, h⟩
theorem inA (k : Nat) (h : k < 16) : inV (.int (k : Int)) [.int 0, .int 1, .int 2, .int 3, .int 4, .int 5, .int 6, .int 7, .int 8, .int 9, .int 10] = kA k := by
  have : ∀ k : Fin 16, inV (.int ((k : Nat) : Int)) [.int 0, .int 1, .int 2, .int 3, .int 4, .int 5, .int 6, .int 7, .int 8, .int 9, .int 10] = kA k := by decide
  exact this ⟨k, h⟩
theorem inB (k : Nat) (h : k < 16) : inV (.int (k : Int)) [.int 0, .int 1, .int 2, .int 3, .int 4, .int 5, .int 8, .int 9, .int 10] = kB k := by
  have : ∀ k : Fin 16, inV (.int ((k : Nat) : Int)) [.int 0, .int 1, .int 2, .int 3, .int 4, .int 5, .int 8, .int 9, .int 10] = kB k := by decide
  exact this ⟨k, h⟩
theorem shr4 (w : Nat) : Builtin.bitAnd ((w : Int) / 2 ^ (4 : Int).toNat) 15 = ((w / 16 % 16 : Nat) : Int) := by
  have e : (w : Int) / 2 ^ (4 : Int).toNat = ((w / 16 : Nat) : Int) := by
    have : (2 : Int) ^ (4 : Int).toNat = 16 := by decide
    rw [this]; omega
  rw [e, and15]
theorem shr8 (w : Nat) : Builtin.bitAnd ((w : Int) / 2 ^ (8 : Int).toNat) 15 = ((w / 256 % 16 : Nat) : Int) := by
  have e : (w : Int) / 2 ^ (8 : Int).toNat = ((w / 256 : Nat) : Int) := by
    have : (2 : Int) ^ (8 : Int).toNat = 256 := by decide
    rw [this]; omega
  rw [e, and15]
theorem shr12 (w : Nat) : Builtin.bitAnd ((w : Int) / 2 ^ (12 : Int).toNat) 15 = ((w / 4096 % 16 : Nat) : Int) := by
  have e : (w : Int) / 2 ^ (12 : Int).toNat = ((w / 4096 : Nat) : Int) := by
    have : (2 : Int) ^ (12 : Int).toNat = 4096 := by decide
    rw [this]; omega
  rw [e, and15]
theorem ite_val {A : Prop} {b : Bool} {Q : VK} {H : Hp} {x y z : V} (h1 : b = true → x = z) (h2 : b = false → y = z) (q : Q z H) : if b = true then Q x H else Q y H := by
  cases b with
  | true => rw [if_pos rfl, h1 rfl]; exact q
  | false => rw [if_neg Bool.false_ne_true, h2 rfl]; exact q
end
end Fs

set_option Elab.async false
set_option linter.all false
set_option maxRecDepth 100000
namespace Fs
open PySem L2
local macro_rules | `(tactic| walk_at "len") => `(tactic| exact Nat.le_of_ble_eq_true (by kernel_rfl))

theorem tIf_by {c : TT} {ta tb : TE} {σ : St} {H : Hp} {Q : VK} (b : Bool) (v : V) (hc : ∀ R : Bool → Hp → Prop, R b H → c σ H R) (ht : b = true → ∀ R : VK, R v H → ta σ H R) (hf : b = false → ∀ R : VK, R v H → tb σ H R) (q : Q v H) : tIf c ta tb σ H Q := by
  refine hc _ ?_
  cases b with
  | true => rw [if_pos rfl]; exact ht rfl _ q
  | false => rw [if_neg Bool.false_ne_true]; exact hf rfl _ q
theorem tOrV_by {ta tb : TE} {σ : St} {H : Hp} {Q : VK} (a b : Bool) (ha : ∀ R : VK, R (.bl a) H → ta σ H R) (hb : a = false → ∀ R : VK, R (.bl b) H → tb σ H R) (q : Q (.bl (a || b)) H) : tOrV ta tb σ H Q := by
  refine ha _ ⟨a, rfl, ?_⟩
  cases a with
  | true => rw [if_pos rfl]; exact q
  | false => rw [if_neg Bool.false_ne_true]; exact hb rfl _ q
theorem tAndV_by {ta tb : TE} {σ : St} {H : Hp} {Q : VK} (a b : Bool) (ha : ∀ R : VK, R (.bl a) H → ta σ H R) (hb : a = true → ∀ R : VK, R (.bl b) H → tb σ H R) (q : Q (.bl (a && b)) H) : tAndV ta tb σ H Q := by
  refine ha _ ⟨a, rfl, ?_⟩
  cases a with
  | true => rw [if_pos rfl]; exact hb rfl _ q
  | false => rw [if_neg Bool.false_ne_true]; exact q
theorem dec_nat (a b : Nat) : decide (V.int (a : Int) = V.int (b : Int)) = (a == b) := by
  rw [dec_int]
  by_cases h : a = b
  · subst h; simp
  · have : ¬ (a : Int) = (b : Int) := fun e => h (Int.ofNat.inj e)
    rw [beq_eq_false_iff_ne.mpr this, beq_eq_false_iff_ne.mpr h]
theorem seq_by {t u : TS} {D : Ends} {σ : St} {H : Hp} (R : St → Hp → Prop) (h1 : ∀ D : Ends, (∀ σ' H', R σ' H' → D.nx σ' H') → t D σ H) (h2 : ∀ σ' H', R σ' H' → u D σ' H') : tSeq t u D σ H := h1 _ h2

section
variable {P : Program} {w : World} {K : PySem.W.Frag} {mg : Str → Option Value} {base : Heap} {c : Cl}

theorem ok_Order_init (T : Txt K mg c) (f : Addr) (fd : FuncData) (F : Fun K "__init__" "Order.__init__" s_Order_init f fd) : FnOk P w K mg base CX0 2 f fd ps_Order_init_ (sp_Order_init c) := by
  refine F.ok sc_Order_init (fun vs H Q E h => ?_) (fun cdv A outer s H vs Q E hr h => ?_)
  · obtain ⟨a, dx, p, w, rfl, _⟩ := h
    rfl
  · obtain ⟨a, dx, p, w, rfl, hp, k⟩ := h
    obtain ⟨aW, gW, hW⟩ := T.t_WRITING_KINDS
    obtain ⟨aA, gA, hA⟩ := T.t_FIRST_READING_KINDS
    obtain ⟨aB, gB, hB⟩ := T.t_SECOND_READING_KINDS
    have hk : w % 16 < 16 := Nat.mod_lt _ (by decide)
    refine ⟨_, pss_cons (ps_set (i := 3) sc_Order_init.nd rfl (Or.inl rfl) (pe_def T.d_kind_of (ok_kind_of T) hr rfl (pa_cons (pv 2) pa_nil)))
      (pss_cons (ps_fld (pv 0) (pv 1) rfl)
      (pss_cons (ps_fld (pv 0) (pv 3) rfl)
      (pss_cons (ps_fld (pv 0) (pe_ifExp (pt_cmpR op_in_seq (pv 3) (pe_gref gW rfl) (by with_unfolding_all rfl)) (pe_op op_and (pe_op op_shr (pv 2) pe_int) pe_int) pe_int) rfl)
      (pss_cons (ps_fld (pv 0) (pe_ifExp (pt_cmpR op_in_seq (pv 3) (pe_gref gA rfl) (by with_unfolding_all rfl)) (pe_op op_and (pe_op op_shr (pv 2) pe_int) pe_int) pe_int) rfl)
      (pss_cons (ps_fld (pv 0) (pe_ifExp (pt_cmpR op_in_seq (pv 3) (pe_gref gB rfl) (by with_unfolding_all rfl)) (pe_op op_and (pe_op op_shr (pv 2) pe_int) pe_int) pe_int) rfl)
      (pss_cons (ps_fld (pv 0) (pe_def T.d_number_of (ok_number_of T) hr rfl (pa_cons (pv 2) pa_nil)) rfl)
      (pss_cons (ps_fld (pv 0) (pe_or (pe_cmpR op_eq (pv 3) (pe_gint T.k_IF_SAME rfl) (nomark _)) (pe_one (pe_cmpR op_eq (pv 3) (pe_gint T.k_IF_OTHER rfl) (nomark _)))) rfl)
      (pss_cons (ps_fld (pv 0) (pe_op op_and (pe_op op_add (pv 1) pe_int) (pe_gint T.k_ALL_BITS rfl)) rfl)
      (pss_cons (ps_fld (pv 0) (pe_op op_and (pe_op op_add (pv 1) (pe_fld (pv 0) rfl)) (pe_gint T.k_ALL_BITS rfl)) rfl)
      (pss_one (ps_fld (pv 0) (pe_op op_and (pv 1) pe_int) rfl))))))))))), ?_⟩
    -- kind = kind_of(word)
    refine ⟨_, rfl, w, rfl, ?_⟩
    -- place, kind
    refine ⟨_, rfl, _, rfl, a, _, dx, [], rfl, hp, T.clOrder, T.nOrder_place, (by walk_at "len"), ?_⟩
    refine ⟨_, rfl, _, rfl, a, _, dx, _, rfl, upd_same, T.clOrder, T.nOrder_kind, (by walk_at "len"), ?_⟩
    -- target
    dsimp only [tSeq, sFld]
    refine tIf_by (kW (w % 16)) (.int (((if kW (w % 16) = true then w / 16 % 16 else 0 : Nat)) : Int)) (fun R q => ?_) (fun hb R q => ?_) (fun hb R q => ?_) ?_
    · refine ⟨_, rfl, aW, _, rfl, .inr (hW _), rfl, rfl, _, rfl, ?_⟩
      rw [if_neg Bool.false_ne_true, inW _ hk]
      exact q
    · refine ⟨_, rfl, _, _, rfl, rfl, (by show (0 : Int) ≤ 4; decide), _, _, rfl, rfl, ?_⟩
      rw [if_pos hb] at q
      simp only [shr4]
      exact q
    · rw [if_neg (by simp [hb])] at q
      exact q
    refine ⟨_, rfl, a, _, dx, _, rfl, upd_same, T.clOrder, T.nOrder_target, (by walk_at "len"), ?_⟩
    -- first
    refine tIf_by (kA (w % 16)) (.int (((if kA (w % 16) = true then w / 256 % 16 else 0 : Nat)) : Int)) (fun R q => ?_) (fun hb R q => ?_) (fun hb R q => ?_) ?_
    · refine ⟨_, rfl, aA, _, rfl, .inr (hA _), rfl, rfl, _, rfl, ?_⟩
      rw [if_neg Bool.false_ne_true, inA _ hk]
      exact q
    · refine ⟨_, rfl, _, _, rfl, rfl, (by show (0 : Int) ≤ 8; decide), _, _, rfl, rfl, ?_⟩
      rw [if_pos hb] at q
      simp only [shr8]
      exact q
    · rw [if_neg (by simp [hb])] at q
      exact q
    refine ⟨_, rfl, a, _, dx, _, rfl, upd_same, T.clOrder, T.nOrder_first, (by walk_at "len"), ?_⟩
    -- second
    refine tIf_by (kB (w % 16)) (.int (((if kB (w % 16) = true then w / 4096 % 16 else 0 : Nat)) : Int)) (fun R q => ?_) (fun hb R q => ?_) (fun hb R q => ?_) ?_
    · refine ⟨_, rfl, aB, _, rfl, .inr (hB _), rfl, rfl, _, rfl, ?_⟩
      rw [if_neg Bool.false_ne_true, inB _ hk]
      exact q
    · refine ⟨_, rfl, _, _, rfl, rfl, (by show (0 : Int) ≤ 12; decide), _, _, rfl, rfl, ?_⟩
      rw [if_pos hb] at q
      simp only [shr12]
      exact q
    · rw [if_neg (by simp [hb])] at q
      exact q
    refine ⟨_, rfl, a, _, dx, _, rfl, upd_same, T.clOrder, T.nOrder_second, (by walk_at "len"), ?_⟩
    -- number
    refine ⟨_, rfl, w, rfl, _, rfl, a, _, dx, _, rfl, upd_same, T.clOrder, T.nOrder_number, (by walk_at "len"), ?_⟩
    -- branches
    refine tOrV_by (w % 16 == 9) (w % 16 == 10) (fun R q => ?_) (fun _ R q => ?_) ?_
    · refine ⟨_, rfl, rfl, ?_⟩
      have e := dec_nat (w % 16) 9
      rw [← e] at q
      exact q
    · refine ⟨_, rfl, rfl, ?_⟩
      have e := dec_nat (w % 16) 10
      rw [← e] at q
      exact q
    refine ⟨_, rfl, a, _, dx, _, rfl, upd_same, T.clOrder, T.nOrder_branches, (by walk_at "len"), ?_⟩
    -- following
    refine ⟨_, rfl, _, _, rfl, rfl, _, _, rfl, rfl, _, rfl, a, _, dx, _, rfl, upd_same, T.clOrder, T.nOrder_following, (by walk_at "len"), ?_⟩
    -- aim
    refine ⟨_, rfl, _, rfl, a, _, dx, _, .int (num w), rfl, upd_same, T.clOrder, T.nOrder_number, (by kernel_rfl), _, _, rfl, rfl, _, _, rfl, rfl, _, rfl, a, _, dx, _, rfl, upd_same, T.clOrder, T.nOrder_aim, (by walk_at "len"), ?_⟩
    -- guess_at
    refine ⟨_, rfl, _, _, rfl, rfl, _, rfl, a, _, dx, _, rfl, upd_same, T.clOrder, T.nOrder_guess_at, (by walk_at "len"), ?_⟩
    simp only [upd_upd, and15, and32]
    have e1 : (((p : Int) + 1) % 4294967296).toNat = (p + 1) % W32 := by show _ = (p + 1) % 4294967296; omega
    rw [e1]
    exact k
theorem ok_needs (T : Txt K mg c) (f : Addr) (fd : FuncData) (F : Fun K "needs" "Order.needs" s_needs f fd) : FnOk P w K mg base CX0 1 f fd ps_needs_ (sp_needs c) := by
  refine F.ok sc_needs (fun vs H Q E h => ?_) (fun cdv A outer s H vs Q E hr h => ?_)
  · obtain ⟨a, o, t, rfl, _⟩ := h
    rfl
  · obtain ⟨a, o, t, rfl, ⟨dx, ho⟩, k⟩ := h
    refine ⟨_, pss_one (ps_ret (pe_and (pe_cmpR op_ne (pv 1) pe_int (nomark _)) (pe_one (pe_or (pe_cmpR op_eq (pv 1) (pe_fld (pv 0) rfl) (nomark _)) (pe_one (pe_cmpR op_eq (pv 1) (pe_fld (pv 0) rfl) (nomark _))))))), ?_⟩
    refine tAndV_by (t != 0) (t == o.first || t == o.second) (fun R q => ?_) (fun _ R q => ?_) k
    · refine ⟨_, rfl, rfl, ?_⟩
      have e := dec_nat t 0
      rw [show (t != 0) = !(t == 0) from rfl, ← e] at q
      exact q
    · refine tOrV_by (t == o.first) (t == o.second) (fun R q => ?_) (fun _ R q => ?_) q
      · refine ⟨_, rfl, _, rfl, a, _, dx, _, _, rfl, ho, T.clOrder, T.nOrder_first, oL_first o, rfl, ?_⟩
        rw [← dec_nat] at q
        exact q
      · refine ⟨_, rfl, _, rfl, a, _, dx, _, _, rfl, ho, T.clOrder, T.nOrder_second, oL_second o, rfl, ?_⟩
        rw [← dec_nat] at q
        exact q
end
end Fs

set_option Elab.async false
set_option linter.all false
set_option maxRecDepth 100000
namespace Fs
open PySem L2
section
variable {P : Program} {w : World} {K : PySem.W.Frag} {mg : Str → Option Value} {base : Heap} {c : Cl}

theorem ok_total (T : Txt K mg c) (f : Addr) (fd : FuncData) (F : Fun K "total" "total" s_total f fd) : FnOk P w K mg base CX0 2 f fd ps_total_ (sp_res c (fun _ x y => (x + y) % W32)) := by
  refine F.ok sc_total (fun vs H Q E h => ?_) (fun cdv A outer s H vs Q E hr h => ?_)
  · obtain ⟨a, o, x, y, rfl, _⟩ := h
    rfl
  · obtain ⟨a, o, x, y, rfl, ⟨dx, ho⟩, k⟩ := h
    refine ⟨_, pss_one (ps_ret (pe_op op_and (pe_op op_add (pv 1) (pv 2)) (pe_gint T.k_ALL_BITS rfl))), ?_⟩
    refine ⟨_, rfl, _, rfl, _, _, rfl, rfl, _, _, rfl, rfl, ?_⟩
    simp only [and32]
    have e : (((x : Int) + (y : Int)) % 4294967296).toNat = (x + y) % W32 := by show _ = (x + y) % 4294967296; omega
    rw [e]
    exact k

theorem ok_difference (T : Txt K mg c) (f : Addr) (fd : FuncData) (F : Fun K "difference" "difference" s_difference f fd) : FnOk P w K mg base CX0 2 f fd ps_difference_ (sp_res c (fun _ x y => (((x : Int) - (y : Int)) % (W32 : Int)).toNat)) := by
  refine F.ok sc_difference (fun vs H Q E h => ?_) (fun cdv A outer s H vs Q E hr h => ?_)
  · obtain ⟨a, o, x, y, rfl, _⟩ := h
    rfl
  · obtain ⟨a, o, x, y, rfl, ⟨dx, ho⟩, k⟩ := h
    refine ⟨_, pss_one (ps_ret (pe_op op_and (pe_op op_sub (pv 1) (pv 2)) (pe_gint T.k_ALL_BITS rfl))), ?_⟩
    refine ⟨_, rfl, _, rfl, _, _, rfl, rfl, _, _, rfl, rfl, ?_⟩
    simp only [and32]
    exact k

theorem ok_bits_of_both (T : Txt K mg c) (f : Addr) (fd : FuncData) (F : Fun K "bits_of_both" "bits_of_both" s_bits_of_both f fd) : FnOk P w K mg base CX0 2 f fd ps_bits_of_both_ (sp_res c (fun _ x y => x &&& y)) := by
  refine F.ok sc_bits_of_both (fun vs H Q E h => ?_) (fun cdv A outer s H vs Q E hr h => ?_)
  · obtain ⟨a, o, x, y, rfl, _⟩ := h
    rfl
  · obtain ⟨a, o, x, y, rfl, ⟨dx, ho⟩, k⟩ := h
    refine ⟨_, pss_one (ps_ret (pe_op op_and (pv 1) (pv 2))), ?_⟩
    refine ⟨_, rfl, _, rfl, _, _, rfl, rfl, ?_⟩
    simp only [andNat]
    exact k

theorem ok_bits_of_any (T : Txt K mg c) (f : Addr) (fd : FuncData) (F : Fun K "bits_of_any" "bits_of_any" s_bits_of_any f fd) : FnOk P w K mg base CX0 2 f fd ps_bits_of_any_ (sp_res c (fun _ x y => x ||| y)) := by
  refine F.ok sc_bits_of_any (fun vs H Q E h => ?_) (fun cdv A outer s H vs Q E hr h => ?_)
  · obtain ⟨a, o, x, y, rfl, _⟩ := h
    rfl
  · obtain ⟨a, o, x, y, rfl, ⟨dx, ho⟩, k⟩ := h
    refine ⟨_, pss_one (ps_ret (pe_op op_or (pv 1) (pv 2))), ?_⟩
    refine ⟨_, rfl, _, rfl, _, _, rfl, rfl, ?_⟩
    simp only [orNat]
    exact k

theorem ok_bits_of_one (T : Txt K mg c) (f : Addr) (fd : FuncData) (F : Fun K "bits_of_one" "bits_of_one" s_bits_of_one f fd) : FnOk P w K mg base CX0 2 f fd ps_bits_of_one_ (sp_res c (fun _ x y => x ^^^ y)) := by
  refine F.ok sc_bits_of_one (fun vs H Q E h => ?_) (fun cdv A outer s H vs Q E hr h => ?_)
  · obtain ⟨a, o, x, y, rfl, _⟩ := h
    rfl
  · obtain ⟨a, o, x, y, rfl, ⟨dx, ho⟩, k⟩ := h
    refine ⟨_, pss_one (ps_ret (pe_op op_xor (pv 1) (pv 2))), ?_⟩
    refine ⟨_, rfl, _, rfl, _, _, rfl, rfl, ?_⟩
    simp only [xorNat]
    exact k

theorem ok_is_less (T : Txt K mg c) (f : Addr) (fd : FuncData) (F : Fun K "is_less" "is_less" s_is_less f fd) : FnOk P w K mg base CX0 2 f fd ps_is_less_ (sp_res c (fun _ x y => if sgn x < sgn y then 1 else 0)) := by
  refine F.ok sc_is_less (fun vs H Q E h => ?_) (fun cdv A outer s H vs Q E hr h => ?_)
  · obtain ⟨a, o, x, y, rfl, _⟩ := h
    rfl
  · obtain ⟨a, o, x, y, rfl, ⟨dx, ho⟩, k⟩ := h
    refine ⟨_, pss_one (ps_ret (pe_ifExp (pt_cmpR op_lt (pe_def T.d_with_sign (ok_with_sign T) hr rfl (pa_cons (pv 1) pa_nil)) (pe_def T.d_with_sign (ok_with_sign T) hr rfl (pa_cons (pv 2) pa_nil)) (nomark _)) pe_int pe_int)), ?_⟩
    refine ⟨_, rfl, x, rfl, _, rfl, y, rfl, _, _, rfl, rfl, _, rfl, ite2 (fun hc => ?_) fun hc => ?_⟩
    · have e : (if sgn x < sgn y then 1 else 0 : Nat) = 1 := if_pos (of_decide_eq_true hc)
      simp only [e] at k
      exact k
    · have e : (if sgn x < sgn y then 1 else 0 : Nat) = 0 := if_neg fun q => hc (decide_eq_true q)
      simp only [e] at k
      exact k

theorem ok_offset (T : Txt K mg c) (f : Addr) (fd : FuncData) (F : Fun K "offset" "offset" s_offset f fd) : FnOk P w K mg base CX0 2 f fd ps_offset_ (sp_res c (fun o x _ => (((x : Int) + o.number) % (W32 : Int)).toNat)) := by
  refine F.ok sc_offset (fun vs H Q E h => ?_) (fun cdv A outer s H vs Q E hr h => ?_)
  · obtain ⟨a, o, x, y, rfl, _⟩ := h
    rfl
  · obtain ⟨a, o, x, y, rfl, ⟨dx, ho⟩, k⟩ := h
    refine ⟨_, pss_one (ps_ret (pe_op op_and (pe_op op_add (pv 1) (pe_fld (pv 0) rfl)) (pe_gint T.k_ALL_BITS rfl))), ?_⟩
    refine ⟨_, rfl, _, rfl, a, _, dx, _, _, rfl, ho, T.clOrder, T.nOrder_number, oL_number o, _, _, rfl, rfl, _, _, rfl, rfl, ?_⟩
    simp only [and32]
    exact k

theorem ok_goes_if_same (T : Txt K mg c) (f : Addr) (fd : FuncData) (F : Fun K "goes_if_same" "goes_if_same" s_goes_if_same f fd) : FnOk P w K mg base CX0 2 f fd ps_goes_if_same_ (sp_res c (fun _ x y => if x = y then 1 else 0)) := by
  refine F.ok sc_goes_if_same (fun vs H Q E h => ?_) (fun cdv A outer s H vs Q E hr h => ?_)
  · obtain ⟨a, o, x, y, rfl, _⟩ := h
    rfl
  · obtain ⟨a, o, x, y, rfl, ⟨dx, ho⟩, k⟩ := h
    refine ⟨_, pss_one (ps_ret (pe_ifExp (pt_cmpR op_eq (pv 1) (pv 2) (nomark _)) pe_int pe_int)), ?_⟩
    refine ⟨_, rfl, _, rfl, rfl, _, rfl, ite2 (fun hc => ?_) fun hc => ?_⟩
    · have hc' : x = y := by rw [dec_nat] at hc; exact eq_of_beq hc
      have e : (if x = y then 1 else 0 : Nat) = 1 := if_pos hc'
      simp only [e] at k
      exact k
    · have hc' : ¬ x = y := fun q => hc (by rw [dec_nat, q]; exact beq_self_eq_true y)
      have e : (if x = y then 1 else 0 : Nat) = 0 := if_neg hc'
      simp only [e] at k
      exact k

theorem ok_goes_if_other (T : Txt K mg c) (f : Addr) (fd : FuncData) (F : Fun K "goes_if_other" "goes_if_other" s_goes_if_other f fd) : FnOk P w K mg base CX0 2 f fd ps_goes_if_other_ (sp_res c (fun _ x y => if x ≠ y then 1 else 0)) := by
  refine F.ok sc_goes_if_other (fun vs H Q E h => ?_) (fun cdv A outer s H vs Q E hr h => ?_)
  · obtain ⟨a, o, x, y, rfl, _⟩ := h
    rfl
  · obtain ⟨a, o, x, y, rfl, ⟨dx, ho⟩, k⟩ := h
    refine ⟨_, pss_one (ps_ret (pe_ifExp (pt_cmpR op_ne (pv 1) (pv 2) (nomark _)) pe_int pe_int)), ?_⟩
    refine ⟨_, rfl, _, rfl, rfl, _, rfl, ite2 (fun hc => ?_) fun hc => ?_⟩
    · have hc' : x ≠ y := fun q => by rw [dec_nat, q, beq_self_eq_true y] at hc; exact absurd hc (by decide)
      have e : (if x ≠ y then 1 else 0 : Nat) = 1 := if_pos hc'
      simp only [e] at k
      exact k
    · have hc' : ¬ x ≠ y := fun q => hc (by rw [dec_nat, beq_eq_false_iff_ne.mpr q]; rfl)
      have e : (if x ≠ y then 1 else 0 : Nat) = 0 := if_neg hc'
      simp only [e] at k
      exact k

theorem ok_way_back (T : Txt K mg c) (f : Addr) (fd : FuncData) (F : Fun K "way_back" "way_back" s_way_back f fd) : FnOk P w K mg base CX0 2 f fd ps_way_back_ (sp_res c (fun o _ _ => o.following)) := by
  refine F.ok sc_way_back (fun vs H Q E h => ?_) (fun cdv A outer s H vs Q E hr h => ?_)
  · obtain ⟨a, o, x, y, rfl, _⟩ := h
    rfl
  · obtain ⟨a, o, x, y, rfl, ⟨dx, ho⟩, k⟩ := h
    refine ⟨_, pss_one (ps_ret (pe_fld (pv 0) rfl)), ?_⟩
    exact ⟨_, rfl, a, _, dx, _, _, rfl, ho, T.clOrder, T.nOrder_following, oL_following o, k⟩

theorem ok_no_result (T : Txt K mg c) (f : Addr) (fd : FuncData) (F : Fun K "no_result" "no_result" s_no_result f fd) : FnOk P w K mg base CX0 2 f fd ps_no_result_ (sp_res c (fun _ _ _ => 0)) := by
  refine F.ok sc_no_result (fun vs H Q E h => ?_) (fun cdv A outer s H vs Q E hr h => ?_)
  · obtain ⟨a, o, x, y, rfl, _⟩ := h
    rfl
  · obtain ⟨a, o, x, y, rfl, ⟨dx, ho⟩, k⟩ := h
    refine ⟨_, pss_one (ps_ret (pe_int)), ?_⟩
    exact k

theorem fs_get {fs : List Addr} {L : List (Option Value)} (h : fs.map (fun f => some (Value.ref f)) = L) {k : Nat} {f : Addr} (e : L[k]? = some (some (.ref f))) : fs[k]? = some f := by
  rw [← h, List.getElem?_map] at e
  cases hk : fs[k]? with
  | none => rw [hk] at e; cases e
  | some g =>
    rw [hk] at e
    have e2 : some (some (Value.ref g)) = some (some (Value.ref f)) := e
    injection e2 with e3
    injection e3 with e4
    injection e4 with e5
    rw [e5]
abbrev resL (mg : Str → Option Value) : List (Option Value) := [mg "total", mg "difference", mg "bits_of_both", mg "bits_of_any", mg "bits_of_one", mg "is_less", mg "offset", mg "offset", mg "offset", mg "goes_if_same", mg "goes_if_other", mg "way_back", mg "no_result"]
theorem res_at (T : Txt K mg c) {fs : List Addr} (hfs : fs.map (fun f => some (Value.ref f)) = resL mg) (o : Ord) (hk : o.kind ≤ 12) (x y : Nat) :
    ∃ (f : Addr) (fd : FuncData) (ps : List Str) (r : Ord → Nat → Nat → Nat), fs[o.kind]? = some f ∧ FnOk P w K mg base CX0 2 f fd ps (sp_res c r) ∧ Binds K fd ps [] ∧ PySem.W.keepIn K (.ref f) = true ∧ r o x y = resM o x y := by
  unfold resM
  generalize o.kind = k at hk
  match k, hk with
  | 0, _ =>
    obtain ⟨f, fd, F, B, g⟩ := T.d_total.ex
    exact ⟨f, fd, _, _, fs_get hfs (by show some (mg "total") = _; rw [g]), ok_total T f fd F, B, F.kp, rfl⟩
  | 1, _ =>
    obtain ⟨f, fd, F, B, g⟩ := T.d_difference.ex
    exact ⟨f, fd, _, _, fs_get hfs (by show some (mg "difference") = _; rw [g]), ok_difference T f fd F, B, F.kp, rfl⟩
  | 2, _ =>
    obtain ⟨f, fd, F, B, g⟩ := T.d_bits_of_both.ex
    exact ⟨f, fd, _, _, fs_get hfs (by show some (mg "bits_of_both") = _; rw [g]), ok_bits_of_both T f fd F, B, F.kp, rfl⟩
  | 3, _ =>
    obtain ⟨f, fd, F, B, g⟩ := T.d_bits_of_any.ex
    exact ⟨f, fd, _, _, fs_get hfs (by show some (mg "bits_of_any") = _; rw [g]), ok_bits_of_any T f fd F, B, F.kp, rfl⟩
  | 4, _ =>
    obtain ⟨f, fd, F, B, g⟩ := T.d_bits_of_one.ex
    exact ⟨f, fd, _, _, fs_get hfs (by show some (mg "bits_of_one") = _; rw [g]), ok_bits_of_one T f fd F, B, F.kp, rfl⟩
  | 5, _ =>
    obtain ⟨f, fd, F, B, g⟩ := T.d_is_less.ex
    exact ⟨f, fd, _, _, fs_get hfs (by show some (mg "is_less") = _; rw [g]), ok_is_less T f fd F, B, F.kp, rfl⟩
  | 6, _ =>
    obtain ⟨f, fd, F, B, g⟩ := T.d_offset.ex
    exact ⟨f, fd, _, _, fs_get hfs (by show some (mg "offset") = _; rw [g]), ok_offset T f fd F, B, F.kp, rfl⟩
  | 7, _ =>
    obtain ⟨f, fd, F, B, g⟩ := T.d_offset.ex
    exact ⟨f, fd, _, _, fs_get hfs (by show some (mg "offset") = _; rw [g]), ok_offset T f fd F, B, F.kp, rfl⟩
  | 8, _ =>
    obtain ⟨f, fd, F, B, g⟩ := T.d_offset.ex
    exact ⟨f, fd, _, _, fs_get hfs (by show some (mg "offset") = _; rw [g]), ok_offset T f fd F, B, F.kp, rfl⟩
  | 9, _ =>
    obtain ⟨f, fd, F, B, g⟩ := T.d_goes_if_same.ex
    exact ⟨f, fd, _, _, fs_get hfs (by show some (mg "goes_if_same") = _; rw [g]), ok_goes_if_same T f fd F, B, F.kp, rfl⟩
  | 10, _ =>
    obtain ⟨f, fd, F, B, g⟩ := T.d_goes_if_other.ex
    exact ⟨f, fd, _, _, fs_get hfs (by show some (mg "goes_if_other") = _; rw [g]), ok_goes_if_other T f fd F, B, F.kp, rfl⟩
  | 11, _ =>
    obtain ⟨f, fd, F, B, g⟩ := T.d_way_back.ex
    exact ⟨f, fd, _, _, fs_get hfs (by show some (mg "way_back") = _; rw [g]), ok_way_back T f fd F, B, F.kp, rfl⟩
  | 12, _ =>
    obtain ⟨f, fd, F, B, g⟩ := T.d_no_result.ex
    exact ⟨f, fd, _, _, fs_get hfs (by show some (mg "no_result") = _; rw [g]), ok_no_result T f fd F, B, F.kp, rfl⟩
theorem ok_result_of (T : Txt K mg c) (f : Addr) (fd : FuncData) (F : Fun K "result_of" "result_of" s_result_of f fd) : FnOk P w K mg base CX0 3 f fd ps_result_of_ (sp_result_of c) := by
  refine F.ok sc_result_of (fun vs H Q E h => ?_) (fun cdv A outer s H vs Q E hr h => ?_)
  · obtain ⟨a, o, x, y, rfl, _⟩ := h
    rfl
  · obtain ⟨a, o, x, y, rfl, ⟨dx, ho⟩, hk, k⟩ := h
    obtain ⟨aR, fs, gR, hR, hfs⟩ := T.t_RESULTS
    obtain ⟨f1, fd1, ps1, r, h1, h2, h3, h4, h5⟩ := res_at (P := P) (w := w) (base := base) T hfs o hk x y
    refine ⟨_, pss_one (ps_ret (pe_callV (pe_ix ix_tup (pe_gref gR rfl) (pe_fld (pv 0) rfl) (fun _ _ => rfl)) (pa_cons (pv 0) (pa_cons (pv 1) (pa_cons (pv 2) pa_nil))))), ?_⟩
    refine ⟨_, rfl, a, _, dx, _, _, rfl, ho, T.clOrder, T.nOrder_kind, oL_kind o, aR, _, _, .ref f1, rfl, rfl, hR H, atI_nat (by rw [List.getElem?_map, h1]; rfl), ?_⟩
    refine ⟨f1, fd1, ps1, 2, _, rfl, h2, hr, h3, h4, _, rfl, _, rfl, _, rfl, ?_⟩
    refine ⟨a, o, x, y, rfl, ⟨dx, ho⟩, ?_⟩
    rw [h5]
    exact k
end
end Fs

set_option Elab.async false
set_option linter.all false
set_option maxRecDepth 100000
namespace Fs
open PySem L2

/-! ### a pipeline as it stands in the heap -/
def lint (l : List Nat) : List V := l.map fun (x : Nat) => V.int (x : Int)
theorem lint_len (l : List Nat) : (lint l).length = l.length := List.length_map _
theorem lint_get {l : List Nat} {i : Nat} {x : Nat} (h : l[i]? = some x) : (lint l)[i]? = some (.int (x : Int)) := by
  unfold lint
  rw [List.getElem?_map, h]
  rfl
theorem lint_getD {l : List Nat} {i : Nat} (h : i < l.length) : (lint l)[i]? = some (.int ((l.getD i 0 : Nat) : Int)) := by
  refine lint_get ?_
  rw [List.getD_eq_getElem?_getD, List.getElem?_eq_getElem h]
  rfl
theorem lint_set (l : List Nat) (i x : Nat) : (lint l).set i (.int (x : Int)) = lint (l.set i x) := by
  unfold lint
  rw [List.map_set]
structure Ge where
  dx : Addr
  d : Addr
  lr : Addr
  lm : Addr
  lg : Addr
structure Va where
  kvs : List (Key × V)
  rd : V
  rk : V
  im : V
  wr : V
def pipF (P : Pg) (g : Ge) (v : Va) (pl : Nat) (fe en : Bool) (n : Cnt) : List (Str × V) :=
  [("orders", .ref g.d), ("hands_on", .bl P.hands), ("guesses_goings", .bl P.gs), ("registers", .ref g.lr), ("memory", .ref g.lm), ("guesses", .ref g.lg), ("place", .int (pl : Int)), ("fetches", .bl fe), ("to_read", v.rd), ("to_reckon", v.rk), ("in_memory", v.im), ("to_write", v.wr), ("ended", .bl en), ("cycles", .int (n.cycles : Int)), ("done", .int (n.done : Int)), ("waited", .int (n.waited : Int)), ("lost", .int (n.lost : Int))]
section
variable (P : Pg) (g : Ge) (v : Va) (pl : Nat) (fe en : Bool) (n : Cnt)
theorem pF_len : (pipF P g v pl fe en n).length < 1000 := Nat.le_of_ble_eq_true (by kernel_rfl)
theorem pL_orders : (pipF P g v pl fe en n).lookup ("orders" : Str) = some (.ref g.d) := by kernel_rfl
theorem pL_hands_on : (pipF P g v pl fe en n).lookup ("hands_on" : Str) = some (.bl P.hands) := by kernel_rfl
theorem pL_guesses_goings : (pipF P g v pl fe en n).lookup ("guesses_goings" : Str) = some (.bl P.gs) := by kernel_rfl
theorem pL_registers : (pipF P g v pl fe en n).lookup ("registers" : Str) = some (.ref g.lr) := by kernel_rfl
theorem pL_memory : (pipF P g v pl fe en n).lookup ("memory" : Str) = some (.ref g.lm) := by kernel_rfl
theorem pL_guesses : (pipF P g v pl fe en n).lookup ("guesses" : Str) = some (.ref g.lg) := by kernel_rfl
theorem pL_place : (pipF P g v pl fe en n).lookup ("place" : Str) = some (.int (pl : Int)) := by kernel_rfl
theorem pL_fetches : (pipF P g v pl fe en n).lookup ("fetches" : Str) = some (.bl fe) := by kernel_rfl
theorem pL_to_read : (pipF P g v pl fe en n).lookup ("to_read" : Str) = some (v.rd) := by kernel_rfl
theorem pL_to_reckon : (pipF P g v pl fe en n).lookup ("to_reckon" : Str) = some (v.rk) := by kernel_rfl
theorem pL_in_memory : (pipF P g v pl fe en n).lookup ("in_memory" : Str) = some (v.im) := by kernel_rfl
theorem pL_to_write : (pipF P g v pl fe en n).lookup ("to_write" : Str) = some (v.wr) := by kernel_rfl
theorem pL_ended : (pipF P g v pl fe en n).lookup ("ended" : Str) = some (.bl en) := by kernel_rfl
theorem pL_cycles : (pipF P g v pl fe en n).lookup ("cycles" : Str) = some (.int (n.cycles : Int)) := by kernel_rfl
theorem pL_done : (pipF P g v pl fe en n).lookup ("done" : Str) = some (.int (n.done : Int)) := by kernel_rfl
theorem pL_waited : (pipF P g v pl fe en n).lookup ("waited" : Str) = some (.int (n.waited : Int)) := by kernel_rfl
theorem pL_lost : (pipF P g v pl fe en n).lookup ("lost" : Str) = some (.int (n.lost : Int)) := by kernel_rfl
theorem pN_cycle : (pipF P g v pl fe en n).lookup ("cycle" : Str) = none := by kernel_rfl
theorem pN_write : (pipF P g v pl fe en n).lookup ("write" : Str) = none := by kernel_rfl
theorem pN_use_memory : (pipF P g v pl fe en n).lookup ("use_memory" : Str) = none := by kernel_rfl
theorem pN_reckon : (pipF P g v pl fe en n).lookup ("reckon" : Str) = none := by kernel_rfl
theorem pN_place_if_wrong : (pipF P g v pl fe en n).lookup ("place_if_wrong" : Str) = none := by kernel_rfl
theorem pN_learn : (pipF P g v pl fe en n).lookup ("learn" : Str) = none := by kernel_rfl
theorem pN_lose_guessed : (pipF P g v pl fe en n).lookup ("lose_guessed" : Str) = none := by kernel_rfl
theorem pN_has_to_wait : (pipF P g v pl fe en n).lookup ("has_to_wait" : Str) = none := by kernel_rfl
theorem pN_read_registers : (pipF P g v pl fe en n).lookup ("read_registers" : Str) = none := by kernel_rfl
theorem pN_fetch : (pipF P g v pl fe en n).lookup ("fetch" : Str) = none := by kernel_rfl
theorem pN_order_at : (pipF P g v pl fe en n).lookup ("order_at" : Str) = none := by kernel_rfl
theorem pN_is_guessed_to_go : (pipF P g v pl fe en n).lookup ("is_guessed_to_go" : Str) = none := by kernel_rfl
theorem pN_run : (pipF P g v pl fe en n).lookup ("run" : Str) = none := by kernel_rfl
theorem pN_run_to_state : (pipF P g v pl fe en n).lookup ("run_to_state" : Str) = none := by kernel_rfl
theorem pN_stages : (pipF P g v pl fe en n).lookup ("stages" : Str) = none := by kernel_rfl
theorem pN_state : (pipF P g v pl fe en n).lookup ("state" : Str) = none := by kernel_rfl
theorem pN_is_in_state : (pipF P g v pl fe en n).lookup ("is_in_state" : Str) = none := by kernel_rfl
theorem pN_counts : (pipF P g v pl fe en n).lookup ("counts" : Str) = none := by kernel_rfl
theorem pN_count_again : (pipF P g v pl fe en n).lookup ("count_again" : Str) = none := by kernel_rfl
theorem pP_place (x : Nat) : putF "place" (.int (x : Int)) (pipF P g v pl fe en n) = pipF P g v x fe en n := by kernel_rfl
theorem pP_fetches (x : Bool) : putF "fetches" (.bl x) (pipF P g v pl fe en n) = pipF P g v pl x en n := by kernel_rfl
theorem pP_to_read (x : V) : putF "to_read" (x) (pipF P g v pl fe en n) = pipF P g { v with rd := x } pl fe en n := by kernel_rfl
theorem pP_to_reckon (x : V) : putF "to_reckon" (x) (pipF P g v pl fe en n) = pipF P g { v with rk := x } pl fe en n := by kernel_rfl
theorem pP_in_memory (x : V) : putF "in_memory" (x) (pipF P g v pl fe en n) = pipF P g { v with im := x } pl fe en n := by kernel_rfl
theorem pP_to_write (x : V) : putF "to_write" (x) (pipF P g v pl fe en n) = pipF P g { v with wr := x } pl fe en n := by kernel_rfl
theorem pP_ended (x : Bool) : putF "ended" (.bl x) (pipF P g v pl fe en n) = pipF P g v pl fe x n := by kernel_rfl
theorem pP_cycles (x : Nat) : putF "cycles" (.int (x : Int)) (pipF P g v pl fe en n) = pipF P g v pl fe en { n with cycles := x } := by kernel_rfl
theorem pP_done (x : Nat) : putF "done" (.int (x : Int)) (pipF P g v pl fe en n) = pipF P g v pl fe en { n with done := x } := by kernel_rfl
theorem pP_waited (x : Nat) : putF "waited" (.int (x : Int)) (pipF P g v pl fe en n) = pipF P g v pl fe en { n with waited := x } := by kernel_rfl
theorem pP_lost (x : Nat) : putF "lost" (.int (x : Int)) (pipF P g v pl fe en n) = pipF P g v pl fe en { n with lost := x } := by kernel_rfl
end
/-! stages -/
def VRd (kvs : List (Key × V)) (v : V) (r : Option Nat) : Prop := match r with
  | none => v = .non
  | some q => ∃ a, v = .ref a ∧ valV kvs (Sum.inl (q : Int)) = some (.ref a)
def VT3 (H : Hp) (kvs : List (Key × V)) (v : V) (r : Option (Nat × Nat × Nat)) : Prop := match r with
  | none => v = .non
  | some (q, x, y) => ∃ t a, v = .ref t ∧ H t = some (.tup [.ref a, .int (x : Int), .int (y : Int)]) ∧ valV kvs (Sum.inl (q : Int)) = some (.ref a)
def VT2 (H : Hp) (kvs : List (Key × V)) (v : V) (r : Option (Nat × Nat)) : Prop := match r with
  | none => v = .non
  | some (q, x) => ∃ t a, v = .ref t ∧ H t = some (.tup [.ref a, .int (x : Int)]) ∧ valV kvs (Sum.inl (q : Int)) = some (.ref a)
/-- the dict of orders -/
structure DictOk (c : Cl) (H : Hp) (ws : List Nat) (kvs : List (Key × V)) : Prop where
  at_ : ∀ (k : Key) (v : V), valV kvs k = some v → ∃ (q : Nat) (a : Addr), k = Sum.inl (q : Int) ∧ v = .ref a ∧ OrdAt c H a (ordAt ws q) ∧ PlOk ws q
  has : ∀ q, q < ws.length → ∃ v, valV kvs (Sum.inl (q : Int)) = some v
  nd : (kvs.map (·.1)).Nodup
structure PipAt (c : Cl) (H : Hp) (p : Addr) (g : Ge) (v : Va) (P : Pg) (m : MS) (n : Cnt) : Prop where
  ob : H p = some (.ins c.cPipeline g.dx (pipF P g v m.place m.fetches m.ended n))
  rg : H g.lr = some (.lst (lint m.regs))
  mm : H g.lm = some (.lst (lint m.mem))
  gg : H g.lg = some (.lst (lint m.guess))
  dd : H g.d = some (.dK v.kvs)
  n1 : g.lr ≠ g.lm
  n2 : g.lr ≠ g.lg
  n3 : g.lm ≠ g.lg
  dk : DictOk c H P.ws v.kvs
  rd : VRd v.kvs v.rd m.rd
  rk : VT3 H v.kvs v.rk m.rk
  im : VT3 H v.kvs v.im m.im
  wr : VT2 H v.kvs v.wr m.wr
/-- what a method may turn: the pipeline itself, its dict, its three lists -/
def Fr (g : Ge) (p : Addr) (H H' : Hp) : Prop := ∀ b u, H b = some u → b ≠ p → b ≠ g.d → b ≠ g.lr → b ≠ g.lm → b ≠ g.lg → H' b = some u
theorem Fr.refl (g : Ge) (p : Addr) (H : Hp) : Fr g p H H := fun _ _ h _ _ _ _ _ => h
theorem Fr.trans {g : Ge} {p : Addr} {H H1 H2 : Hp} (a : Fr g p H H1) (b : Fr g p H1 H2) : Fr g p H H2 := fun x u h h1 h2 h3 h4 h5 => b x u (a x u h h1 h2 h3 h4 h5) h1 h2 h3 h4 h5
theorem Fr.of_same {g : Ge} {p : Addr} {H H' : Hp} (s : L2.Same H H') : Fr g p H H' := fun b u h _ _ _ _ _ => s b u h
def Ext (v v' : Va) : Prop := ∀ k x, valV v.kvs k = some x → valV v'.kvs k = some x
theorem Ext.refl (v : Va) : Ext v v := fun _ _ h => h
theorem Ext.trans {a b c : Va} (h : Ext a b) (h' : Ext b c) : Ext a c := fun k x e => h' k x (h k x e)

section
variable {c : Cl} {H H' : Hp} {p : Addr} {g : Ge} {v v' : Va} {P : Pg} {m : MS} {n : Cnt}
theorem VT3.keep {kvs : List (Key × V)} {x : V} {r : Option (Nat × Nat × Nat)} (h : VT3 H kvs x r) (k : ∀ t xs, H t = some (.tup xs) → H' t = some (.tup xs)) : VT3 H' kvs x r := by
  match r, h with
  | none, h => exact h
  | some (q, a, b), ⟨t, o, h1, h2, h3⟩ => exact ⟨t, o, h1, k _ _ h2, h3⟩
theorem VT2.keep {kvs : List (Key × V)} {x : V} {r : Option (Nat × Nat)} (h : VT2 H kvs x r) (k : ∀ t xs, H t = some (.tup xs) → H' t = some (.tup xs)) : VT2 H' kvs x r := by
  match r, h with
  | none, h => exact h
  | some (q, a), ⟨t, o, h1, h2, h3⟩ => exact ⟨t, o, h1, k _ _ h2, h3⟩
theorem VRd.ext {x : V} {r : Option Nat} (h : VRd v.kvs x r) (e : Ext v v') : VRd v'.kvs x r := by
  match r, h with
  | none, h => exact h
  | some q, ⟨a, h1, h2⟩ => exact ⟨a, h1, e _ _ h2⟩
theorem VT3.ext {x : V} {r : Option (Nat × Nat × Nat)} (h : VT3 H v.kvs x r) (e : Ext v v') : VT3 H v'.kvs x r := by
  match r, h with
  | none, h => exact h
  | some (q, a, b), ⟨t, o, h1, h2, h3⟩ => exact ⟨t, o, h1, h2, e _ _ h3⟩
theorem VT2.ext {x : V} {r : Option (Nat × Nat)} (h : VT2 H v.kvs x r) (e : Ext v v') : VT2 H v'.kvs x r := by
  match r, h with
  | none, h => exact h
  | some (q, a), ⟨t, o, h1, h2, h3⟩ => exact ⟨t, o, h1, h2, e _ _ h3⟩
theorem DictOk.keep {ws : List Nat} {kvs : List (Key × V)} (h : DictOk c H ws kvs) (k : ∀ a o, OrdAt c H a o → OrdAt c H' a o) : DictOk c H' ws kvs :=
  ⟨fun x y e => let ⟨q, a, e1, e2, e3, e4⟩ := h.at_ x y e; ⟨q, a, e1, e2, k _ _ e3, e4⟩, h.has, h.nd⟩
theorem PipAt.keep (h : PipAt c H p g v P m n) (k : L2.Same H H') : PipAt c H' p g v P m n :=
  ⟨k _ _ h.ob, k _ _ h.rg, k _ _ h.mm, k _ _ h.gg, k _ _ h.dd, h.n1, h.n2, h.n3, h.dk.keep fun a o ⟨dx, e⟩ => ⟨dx, k _ _ e⟩, h.rd, h.rk.keep fun t xs e => k _ _ e, h.im.keep fun t xs e => k _ _ e, h.wr.keep fun t xs e => k _ _ e⟩
theorem tup_upd {b : Addr} {u o : HO} (hb : H b = some u) (hu : ∀ xs, u ≠ .tup xs) : ∀ t xs, H t = some (.tup xs) → upd H b o t = some (.tup xs) := fun t xs e => by
  rw [upd_ne (ne_of e hb fun z => hu xs z.symm)]
  exact e
theorem ord_upd {b : Addr} {u o : HO} (hb : H b = some u) (hu : ∀ dx fs, u ≠ .ins c.cOrder dx fs) : ∀ a r, OrdAt c H a r → OrdAt c (upd H b o) a r := fun a r ⟨dx, e⟩ => ⟨dx, by
  rw [upd_ne (ne_of e hb fun z => hu _ _ z.symm)]
  exact e⟩
theorem lst_upd {b t : Addr} {u o : HO} {xs : List V} (e : H t = some (.lst xs)) (hb : H b = some u) (hu : ∀ xs, u ≠ .lst xs) : upd H b o t = some (.lst xs) := by
  rw [upd_ne (ne_of e hb fun z => hu xs z.symm)]
  exact e
/-- the pipeline's own fields are written -/
theorem PipAt.fld (ne : c.cOrder ≠ c.cPipeline) (h : PipAt c H p g v P m n) (v' : Va) (m' : MS) (n' : Cnt) (hk : v'.kvs = v.kvs) (h1 : m'.regs = m.regs) (h2 : m'.mem = m.mem) (h3 : m'.guess = m.guess)
    (hrd : VRd v.kvs v'.rd m'.rd) (hrk : VT3 H v.kvs v'.rk m'.rk) (him : VT3 H v.kvs v'.im m'.im) (hwr : VT2 H v.kvs v'.wr m'.wr) :
    PipAt c (upd H p (.ins c.cPipeline g.dx (pipF P g v' m'.place m'.fetches m'.ended n'))) p g v' P m' n' := by
  have kt := tup_upd (o := .ins c.cPipeline g.dx (pipF P g v' m'.place m'.fetches m'.ended n')) h.ob (by intro xs z; cases z)
  have ko := ord_upd (c := c) (o := .ins c.cPipeline g.dx (pipF P g v' m'.place m'.fetches m'.ended n')) h.ob (by intro dx fs z; injection z with z1; exact ne z1.symm)
  refine ⟨upd_same, ?_, ?_, ?_, ?_, h.n1, h.n2, h.n3, ?_, ?_, ?_, ?_, ?_⟩
  · rw [h1]; exact lst_upd h.rg h.ob (by intro xs z; cases z)
  · rw [h2]; exact lst_upd h.mm h.ob (by intro xs z; cases z)
  · rw [h3]; exact lst_upd h.gg h.ob (by intro xs z; cases z)
  · rw [hk, upd_ne (ne_of h.dd h.ob (by intro z; cases z))]; exact h.dd
  · rw [hk]; exact h.dk.keep ko
  · rw [hk]; exact hrd
  · rw [hk]; exact hrk.keep kt
  · rw [hk]; exact him.keep kt
  · rw [hk]; exact hwr.keep kt
theorem PipAt.fr_p (o : HO) : Fr g p H (upd H p o) := fun b u e h1 _ _ _ _ => by rw [upd_ne h1]; exact e
theorem PipAt.fr_r (o : HO) : Fr g p H (upd H g.lr o) := fun b u e _ _ h1 _ _ => by rw [upd_ne h1]; exact e
theorem PipAt.fr_m (o : HO) : Fr g p H (upd H g.lm o) := fun b u e _ _ _ h1 _ => by rw [upd_ne h1]; exact e
theorem PipAt.fr_g (o : HO) : Fr g p H (upd H g.lg o) := fun b u e _ _ _ _ h1 => by rw [upd_ne h1]; exact e
theorem PipAt.fr_d (o : HO) : Fr g p H (upd H g.d o) := fun b u e _ h1 _ _ _ => by rw [upd_ne h1]; exact e
theorem PipAt.setR (h : PipAt c H p g v P m n) (r : List Nat) : PipAt c (upd H g.lr (.lst (lint r))) p g v P { m with regs := r } n := by
  have kt := tup_upd (o := .lst (lint r)) h.rg (by intro xs z; cases z)
  have ko := ord_upd (c := c) (o := .lst (lint r)) h.rg (by intro dx fs z; cases z)
  exact ⟨by rw [upd_ne (ne_of h.ob h.rg (by intro z; cases z))]; exact h.ob, upd_same, by rw [upd_ne h.n1.symm]; exact h.mm, by rw [upd_ne h.n2.symm]; exact h.gg, by rw [upd_ne (ne_of h.dd h.rg (by intro z; cases z))]; exact h.dd, h.n1, h.n2, h.n3, h.dk.keep ko, h.rd, h.rk.keep kt, h.im.keep kt, h.wr.keep kt⟩
theorem PipAt.setM (h : PipAt c H p g v P m n) (r : List Nat) : PipAt c (upd H g.lm (.lst (lint r))) p g v P { m with mem := r } n := by
  have kt := tup_upd (o := .lst (lint r)) h.mm (by intro xs z; cases z)
  have ko := ord_upd (c := c) (o := .lst (lint r)) h.mm (by intro dx fs z; cases z)
  exact ⟨by rw [upd_ne (ne_of h.ob h.mm (by intro z; cases z))]; exact h.ob, by rw [upd_ne h.n1]; exact h.rg, upd_same, by rw [upd_ne h.n3.symm]; exact h.gg, by rw [upd_ne (ne_of h.dd h.mm (by intro z; cases z))]; exact h.dd, h.n1, h.n2, h.n3, h.dk.keep ko, h.rd, h.rk.keep kt, h.im.keep kt, h.wr.keep kt⟩
theorem PipAt.setG (h : PipAt c H p g v P m n) (r : List Nat) : PipAt c (upd H g.lg (.lst (lint r))) p g v P { m with guess := r } n := by
  have kt := tup_upd (o := .lst (lint r)) h.gg (by intro xs z; cases z)
  have ko := ord_upd (c := c) (o := .lst (lint r)) h.gg (by intro dx fs z; cases z)
  exact ⟨by rw [upd_ne (ne_of h.ob h.gg (by intro z; cases z))]; exact h.ob, by rw [upd_ne h.n2]; exact h.rg, by rw [upd_ne h.n3]; exact h.mm, upd_same, by rw [upd_ne (ne_of h.dd h.gg (by intro z; cases z))]; exact h.dd, h.n1, h.n2, h.n3, h.dk.keep ko, h.rd, h.rk.keep kt, h.im.keep kt, h.wr.keep kt⟩
/-- an order that a stage names -/
theorem PipAt.ord (h : PipAt c H p g v P m n) {q : Nat} {a : Addr} (e : valV v.kvs (Sum.inl (q : Int)) = some (.ref a)) : OrdAt c H a (ordAt P.ws q) := by
  obtain ⟨q', a', e1, e2, e3, _⟩ := h.dk.at_ _ _ e
  have e4 : (q : Int) = (q' : Int) := Sum.inl.inj e1
  have e5 : q = q' := by omega
  subst e5
  cases e2
  exact e3
/-- two names of one order -/
theorem DictOk.inj {ws : List Nat} {kvs : List (Key × V)} (h : DictOk c H ws kvs) {q q' : Nat} {a : Addr} (e : valV kvs (Sum.inl (q : Int)) = some (.ref a)) (e' : valV kvs (Sum.inl (q' : Int)) = some (.ref a)) : q = q' := by
  obtain ⟨q1, a1, e1, e2, ⟨dx, e3⟩, _⟩ := h.at_ _ _ e
  obtain ⟨q2, a2, f1, f2, ⟨dx', f3⟩, _⟩ := h.at_ _ _ e'
  have g1 : q = q1 := by have : (q : Int) = (q1 : Int) := Sum.inl.inj e1; omega
  have g2 : q' = q2 := by have : (q' : Int) = (q2 : Int) := Sum.inl.inj f1; omega
  subst g1 g2
  cases e2
  cases f2
  rw [e3] at f3
  have z := Option.some.inj f3
  injection z with _ _ z
  have y := oL_place (ordAt ws q)
  rw [z, oL_place] at y
  have y2 := Option.some.inj y
  injection y2 with y3
  have y4 : ((q' : Nat) : Int) = ((q : Nat) : Int) := y3
  omega
theorem DictOk.few {kvs : List (Key × V)} (hw : P.ws.length ≤ 1024) (h : DictOk c H P.ws kvs) : kvs.length ≤ 2049 := by
  have key : ∀ x ∈ kvs.map (·.1), ∃ q : Nat, x = Sum.inl (q : Int) ∧ PlOk P.ws q := by
    intro x hx
    cases e : valV kvs x with
    | none => exact absurd hx (valV_not e)
    | some y =>
      obtain ⟨q, a, e1, _, _, e4⟩ := h.at_ x y e
      exact ⟨q, e1, e4⟩
  have hN : ((kvs.map (·.1)).map fun k => match k with | Sum.inl (z : Int) => z.toNat | Sum.inr _ => 0).Nodup := by
    have hn := h.nd
    generalize kvs.map (·.1) = l at key hn
    induction l with
    | nil => exact List.nodup_nil
    | cons x r ih =>
      obtain ⟨h1, h2⟩ := List.nodup_cons.mp hn
      rw [List.map_cons]
      refine List.nodup_cons.mpr ⟨fun hm => h1 ?_, ih (fun y hy => key y (List.mem_cons_of_mem _ hy)) h2⟩
      obtain ⟨y, hy, e⟩ := List.mem_map.mp hm
      obtain ⟨q, e1, _⟩ := key x List.mem_cons_self
      obtain ⟨q', e2, _⟩ := key y (List.mem_cons_of_mem _ hy)
      subst e1 e2
      have e3 : q' = q := by simpa using e
      subst e3
      exact hy
  have := places_le P hw hN fun q hq => by
    obtain ⟨x, hx, e⟩ := List.mem_map.mp hq
    obtain ⟨q', e1, e2⟩ := key x hx
    subst e1
    have e3 : q' = q := by simpa using e
    subst e3
    exact e2
  rwa [List.length_map, List.length_map] at this
/-- a new order -/
theorem DictOk.put {ws : List Nat} {kvs : List (Key × V)} (h : DictOk c H ws kvs) {q : Nat} {a : Addr} (hn : valV kvs (Sum.inl (q : Int)) = none) (ho : OrdAt c H a (ordAt ws q)) (hp : PlOk ws q) : DictOk c H ws (putK kvs (Sum.inl (q : Int)) (.ref a)) := by
  refine ⟨fun k y e => ?_, fun q' hq' => ?_, nd_putK _ h.nd hn⟩
  · rw [valV_put] at e
    by_cases hk : k = Sum.inl (q : Int)
    · rw [if_pos hk] at e
      cases e
      exact ⟨q, a, hk, rfl, ho, hp⟩
    · rw [if_neg hk] at e
      exact h.at_ k y e
  · rw [valV_put]
    by_cases hk : (Sum.inl (q' : Int) : Key) = Sum.inl (q : Int)
    · exact ⟨_, if_pos hk⟩
    · rw [if_neg hk]
      exact h.has q' hq'
theorem Ext.put {kvs : List (Key × V)} {k : Key} {y : V} (hn : valV kvs k = none) : ∀ k' x, valV kvs k' = some x → valV (putK kvs k y) k' = some x := fun k' x e => by
  rw [valV_put, if_neg]
  · exact e
  · intro z
    rw [z, hn] at e
    cases e
end
end Fs

set_option Elab.async false
set_option linter.all false
set_option maxRecDepth 100000
namespace Fs
open PySem L2 PySem.SeqAt
section
variable {X : Cx} {pins : List (Addr × Obj)} {σ : St} {H : Hp} {s : Shared} {c : Cl} {A : Around} {ws : List Nat} {kvs : List (Key × V)}
theorem ord_obj (I : Inv X pins σ H s) {a : Addr} {o : Ord} (h : OrdAt c H a o) : ∃ ob : Obj, s.heap.get? a = some ob ∧ ob.cls = .ref c.cOrder := by
  obtain ⟨dx, e⟩ := h
  obtain ⟨_, _, _, e2, _⟩ := I.hok a _ e
  exact ⟨_, e2, rfl⟩
theorem DictOk.ord (D : DictOk c H ws kvs) {q : Nat} {a : Addr} (e : valV kvs (Sum.inl (q : Int)) = some (.ref a)) : OrdAt c H a (ordAt ws q) := by
  obtain ⟨q', a', e1, e2, e3, _⟩ := D.at_ _ _ e
  have e4 : (q : Int) = (q' : Int) := Sum.inl.inj e1
  have e5 : q = q' := by omega
  subst e5
  cases e2
  exact e3
theorem eqAt_ord (I : Inv X pins σ H s) (k : CmpK X.K c.cOrder) (D : DictOk c H ws kvs) {q q' : Nat} {a b : Addr} (ha : valV kvs (Sum.inl (q : Int)) = some (.ref a)) (hb : valV kvs (Sum.inl (q' : Int)) = some (.ref b)) (hu : A.units < cLine) : EqAt A s (.ref a) (.ref b) (decide (q = q')) := by
  by_cases h : a = b
  · subst h
    rw [decide_eq_true (D.inj ha hb)]
    exact EqAt.same _
  · have hq : q ≠ q' := fun e => by
      subst e
      rw [ha] at hb
      cases hb
      exact h rfl
    rw [decide_eq_false hq]
    obtain ⟨o1, g1, g2⟩ := ord_obj I (D.ord ha)
    obtain ⟨o2, g3, g4⟩ := ord_obj I (D.ord hb)
    exact EqAt.of_refs h (rc_ord_ord I.kIn k g1 g2 g3 g4 h hu)
theorem eqAt_rd (I : Inv X pins σ H s) (k : CmpK X.K c.cOrder) (D : DictOk c H ws kvs) {x y : V} {u u' : Value} {r r' : Option Nat} (hx : VRd kvs x r) (hy : VRd kvs y r') (ru : RelV x u) (ru' : RelV y u') (hu : A.units < cLine) : EqAt A s u u' (decide (r = r')) := by
  match r, hx, r', hy with
  | none, hx, none, hy =>
    have hx : x = .non := hx
    have hy : y = .non := hy
    subst hx hy
    cases ru
    cases ru'
    exact EqAt.same _
  | none, hx, some q, ⟨a, e1, e2⟩ =>
    have hx : x = .non := hx
    subst hx e1
    cases ru
    cases ru'
    obtain ⟨o1, g1, g2⟩ := ord_obj I (D.ord e2)
    exact eq_nr (rc_none_ord I.kIn k g1 g2 hu)
  | some q, ⟨a, e1, e2⟩, none, hy =>
    have hy : y = .non := hy
    subst hy e1
    cases ru
    cases ru'
    obtain ⟨o1, g1, g2⟩ := ord_obj I (D.ord e2)
    exact eq_rn (rc_ord_none I.kIn k g1 g2 hu)
  | some q, ⟨a, e1, e2⟩, some q', ⟨b, e3, e4⟩ =>
    subst e1 e3
    cases ru
    cases ru'
    have h := eqAt_ord (A := A) I k D e2 e4 hu
    have e : decide (some q = some q') = decide (q = q') := decide_eq_decide.mpr ⟨Option.some.inj, congrArg some⟩
    rw [e]
    exact h
theorem in1_units (hu : A.units + 1 < cLine) : A.in1.units < cLine := hu
theorem eqI (a b : Nat) : ((a : Int) == (b : Int)) = decide (a = b) := by
  by_cases h : a = b
  · subst h; simp
  · rw [decide_eq_false h]
    exact beq_eq_false_iff_ne.mpr fun e => h (Int.ofNat.inj e)
theorem eqAt_int {a b : Nat} {t u : Tok} : EqAt A s (.int (a : Int) t) (.int (b : Int) u) (decide (a = b)) := by
  rw [← eqI]
  exact EqAt.int_int _ _ _ _
theorem eqAt_t3 (I : Inv X pins σ H s) (k : CmpK X.K c.cOrder) (D : DictOk c H ws kvs) {x y : V} {u u' : Value} {r r' : Option (Nat × Nat × Nat)} (hx : VT3 H kvs x r) (hy : VT3 H kvs y r') (ru : RelV x u) (ru' : RelV y u') (hu : A.units + 1 < cLine) : EqAt A s u u' (decide (r = r')) := by
  have hu0 : A.units < cLine := Nat.lt_of_succ_lt hu
  match r, hx, r', hy with
  | none, hx, none, hy =>
    have hx : x = .non := hx
    have hy : y = .non := hy
    subst hx hy
    cases ru
    cases ru'
    exact EqAt.same _
  | none, hx, some (q, a, b), ⟨t, oa, e1, e2, e3⟩ =>
    have hx : x = .non := hx
    subst hx e1
    cases ru
    cases ru'
    obtain ⟨its, rv, ht, _⟩ := I.tuple (SqT.of e2)
    exact EqAt.none_tuple ht hu0
  | some (q, a, b), ⟨t, oa, e1, e2, e3⟩, none, hy =>
    have hy : y = .non := hy
    subst hy e1
    cases ru
    cases ru'
    obtain ⟨its, rv, ht, _⟩ := I.tuple (SqT.of e2)
    exact EqAt.tuple_none ht hu0
  | some (q, a, b), ⟨t, oa, e1, e2, e3⟩, some (q', a', b'), ⟨t', oa', e1', e2', e3'⟩ =>
    subst e1 e1'
    cases ru
    cases ru'
    by_cases h : t = t'
    · subst h
      rw [e2] at e2'
      have z := Option.some.inj e2'
      injection z with z
      injection z with z1 z
      injection z with z2 z
      injection z with z3 _
      injection z1 with z1
      injection z2 with z2
      injection z3 with z3
      subst z1
      have q1 := D.inj e3 e3'
      have q2 : a = a' := Int.ofNat.inj z2
      have q3 : b = b' := Int.ofNat.inj z3
      subst q1 q2 q3
      rw [decide_eq_true rfl]
      exact EqAt.same _
    · obtain ⟨its, rv, ht, _⟩ := I.tuple (SqT.of e2)
      obtain ⟨its', rv', ht', _⟩ := I.tuple (SqT.of e2')
      cases rv with
      | cons r0 rv => cases rv with
        | cons r1 rv => cases rv with
          | cons r2 rv =>
            cases rv
            cases rv' with
            | cons r0' rv' => cases rv' with
              | cons r1' rv' => cases rv' with
                | cons r2' rv' =>
                  cases rv'
                  cases r0
                  cases r0'
                  obtain ⟨k1, rfl⟩ := r1
                  obtain ⟨k2, rfl⟩ := r2
                  obtain ⟨k1', rfl⟩ := r1'
                  obtain ⟨k2', rfl⟩ := r2'
                  have h1 := RcAt.tuples (A := A) (e := fun j => match j with | 0 => decide (q = q') | 1 => decide (a = a') | _ => decide (b = b')) ht ht' hu0 (fun j j1 j2 => by
                    match j, j1 with
                    | 0, _ => exact eqAt_ord I k D e3 e3' (in1_units hu)
                    | 1, _ => exact eqAt_int
                    | 2, _ => exact eqAt_int)
                  have e : (((List.range (min 3 3)).all fun j => match j with | 0 => decide (q = q') | 1 => decide (a = a') | _ => decide (b = b')) && (3 == 3)) = decide (some (q, a, b) = some (q', a', b')) := by
                    rw [Bool.eq_iff_iff]
                    simp [List.range, List.range.loop]
                  rw [← e]
                  exact EqAt.of_refs h h1
theorem eqAt_t2 (I : Inv X pins σ H s) (k : CmpK X.K c.cOrder) (D : DictOk c H ws kvs) {x y : V} {u u' : Value} {r r' : Option (Nat × Nat)} (hx : VT2 H kvs x r) (hy : VT2 H kvs y r') (ru : RelV x u) (ru' : RelV y u') (hu : A.units + 1 < cLine) : EqAt A s u u' (decide (r = r')) := by
  have hu0 : A.units < cLine := Nat.lt_of_succ_lt hu
  match r, hx, r', hy with
  | none, hx, none, hy =>
    have hx : x = .non := hx
    have hy : y = .non := hy
    subst hx hy
    cases ru
    cases ru'
    exact EqAt.same _
  | none, hx, some (q, a), ⟨t, oa, e1, e2, e3⟩ =>
    have hx : x = .non := hx
    subst hx e1
    cases ru
    cases ru'
    obtain ⟨its, rv, ht, _⟩ := I.tuple (SqT.of e2)
    exact EqAt.none_tuple ht hu0
  | some (q, a), ⟨t, oa, e1, e2, e3⟩, none, hy =>
    have hy : y = .non := hy
    subst hy e1
    cases ru
    cases ru'
    obtain ⟨its, rv, ht, _⟩ := I.tuple (SqT.of e2)
    exact EqAt.tuple_none ht hu0
  | some (q, a), ⟨t, oa, e1, e2, e3⟩, some (q', a'), ⟨t', oa', e1', e2', e3'⟩ =>
    subst e1 e1'
    cases ru
    cases ru'
    by_cases h : t = t'
    · subst h
      rw [e2] at e2'
      have z := Option.some.inj e2'
      injection z with z
      injection z with z1 z
      injection z with z2 _
      injection z1 with z1
      injection z2 with z2
      subst z1
      have q1 := D.inj e3 e3'
      have q2 : a = a' := Int.ofNat.inj z2
      subst q1 q2
      rw [decide_eq_true rfl]
      exact EqAt.same _
    · obtain ⟨its, rv, ht, _⟩ := I.tuple (SqT.of e2)
      obtain ⟨its', rv', ht', _⟩ := I.tuple (SqT.of e2')
      cases rv with
      | cons r0 rv => cases rv with
        | cons r1 rv =>
          cases rv
          cases rv' with
          | cons r0' rv' => cases rv' with
            | cons r1' rv' =>
              cases rv'
              cases r0
              cases r0'
              obtain ⟨k1, rfl⟩ := r1
              obtain ⟨k1', rfl⟩ := r1'
              have h1 := RcAt.tuples (A := A) (e := fun j => match j with | 0 => decide (q = q') | _ => decide (a = a')) ht ht' hu0 (fun j j1 j2 => by
                match j, j1 with
                | 0, _ => exact eqAt_ord I k D e3 e3' (in1_units hu)
                | 1, _ => exact eqAt_int)
              have e : (((List.range (min 2 2)).all fun j => match j with | 0 => decide (q = q') | _ => decide (a = a')) && (2 == 2)) = decide (some (q, a) = some (q', a')) := by
                rw [Bool.eq_iff_iff]
                simp [List.range, List.range.loop]
              rw [← e]
              exact EqAt.of_refs h h1
end
/-! the four stages compared -/
def rNeS (c : Cl) : R2 := fun x y H Q => ∃ (t t' : Addr) (x1 x2 x3 x4 y1 y2 y3 y4 : V) (ws : List Nat) (kvs : List (Key × V)) (m m' : MS), x = .ref t ∧ y = .ref t' ∧ H t = some (.tup [x1, x2, x3, x4]) ∧ H t' = some (.tup [y1, y2, y3, y4]) ∧ DictOk c H ws kvs ∧
  VRd kvs x1 m.rd ∧ VT3 H kvs x2 m.rk ∧ VT3 H kvs x3 m.im ∧ VT2 H kvs x4 m.wr ∧ VRd kvs y1 m'.rd ∧ VT3 H kvs y2 m'.rk ∧ VT3 H kvs y3 m'.im ∧ VT2 H kvs y4 m'.wr ∧
  Q (.bl (!decide (m.rd = m'.rd ∧ m.rk = m'.rk ∧ m.im = m'.im ∧ m.wr = m'.wr))) H
theorem op_neS {X : Cx} {mg : Str → Option Value} {c : Cl} (T : Txt X.K mg c) (hu : X.A.units + 64 < cLine) : OpR X (compareOp .NotEq) (rNeS c) := by
  intro pins s σ H x y v u Q I rx ry h
  obtain ⟨t, t', x1, x2, x3, x4, y1, y2, y3, y4, ws, kvs, m, m', rfl, rfl, ht, ht', D, a1, a2, a3, a4, b1, b2, b3, b4, q⟩ := h
  cases rx
  cases ry
  have hu1 : X.A.in1.units + 1 < cLine := by show X.A.units + 1 + 1 < cLine; omega
  have hu0 : X.A.in1.units < cLine := Nat.lt_of_succ_lt hu1
  obtain ⟨its, rv, hT, _⟩ := I.tuple (SqT.of ht)
  obtain ⟨its', rv', hT', _⟩ := I.tuple (SqT.of ht')
  cases rv with
  | cons r1 rv => cases rv with
    | cons r2 rv => cases rv with
      | cons r3 rv => cases rv with
        | cons r4 rv =>
          cases rv
          cases rv' with
          | cons r1' rv' => cases rv' with
            | cons r2' rv' => cases rv' with
              | cons r3' rv' => cases rv' with
                | cons r4' rv' =>
                  cases rv'
                  have h1 := RcNeAt.tuples (A := X.A) (s := s) (e := fun j => match j with | 0 => decide (m.rd = m'.rd) | 1 => decide (m.rk = m'.rk) | 2 => decide (m.im = m'.im) | _ => decide (m.wr = m'.wr)) hT hT' (by omega) (fun j j1 j2 => by
                    match j, j1 with
                    | 0, _ => exact eqAt_rd I T.cmpOrder D a1 b1 r1 r1' hu0
                    | 1, _ => exact eqAt_t3 I T.cmpOrder D a2 b2 r2 r2' hu1
                    | 2, _ => exact eqAt_t3 I T.cmpOrder D a3 b3 r3 r3' hu1
                    | 3, _ => exact eqAt_t2 I T.cmpOrder D a4 b4 r4 r4' hu1)
                  have e : (((List.range (min 4 4)).all fun j => match j with | 0 => decide (m.rd = m'.rd) | 1 => decide (m.rk = m'.rk) | 2 => decide (m.im = m'.im) | _ => decide (m.wr = m'.wr)) && (4 == 4)) = decide (m.rd = m'.rd ∧ m.rk = m'.rk ∧ m.im = m'.im ∧ m.wr = m'.wr) := by
                    rw [Bool.eq_iff_iff]
                    simp [List.range, List.range.loop]
                  rw [← e] at q
                  exact h1 X.prog X.w X.xe _ ⟨.bl _, H, I, rfl, q⟩
end Fs

set_option Elab.async false
set_option linter.all false
set_option maxRecDepth 100000
namespace Fs
open PySem L2
local macro_rules | `(tactic| walk_at "un") => `(tactic| try dsimp only [tSeq, tNext, tAsg, sFld, sFldAug, tRet, tDrop])

theorem tAnd_by {t u : TT} {σ : St} {H : Hp} {Q : Bool → Hp → Prop} (a b : Bool) (ha : ∀ R : Bool → Hp → Prop, R a H → t σ H R) (hb : a = true → ∀ R : Bool → Hp → Prop, R b H → u σ H R) (q : Q (a && b) H) : tAnd t u σ H Q := by
  refine ha _ ?_
  cases a with
  | true => rw [if_pos rfl]; exact hb rfl _ q
  | false => rw [if_neg Bool.false_ne_true]; exact q
theorem tOr_by {t u : TT} {σ : St} {H : Hp} {Q : Bool → Hp → Prop} (a b : Bool) (ha : ∀ R : Bool → Hp → Prop, R a H → t σ H R) (hb : a = false → ∀ R : Bool → Hp → Prop, R b H → u σ H R) (q : Q (a || b) H) : tOr t u σ H Q := by
  refine ha _ ?_
  cases a with
  | true => rw [if_pos rfl]; exact q
  | false => rw [if_neg Bool.false_ne_true]; exact hb rfl _ q
theorem tIfS_by {c : TT} {t u : TS} {D : Ends} {σ : St} {H : Hp} (b : Bool) (hc : ∀ R : Bool → Hp → Prop, R b H → c σ H R) (ht : b = true → t D σ H) (hf : b = false → u D σ H) : tIfS c t u D σ H := by
  refine hc _ ?_
  cases b with
  | true => rw [if_pos rfl]; exact ht rfl
  | false => rw [if_neg Bool.false_ne_true]; exact hf rfl
theorem ixN_nat {n t : Nat} (h : t < n) : ixN n (t : Int) = some t := by
  unfold ixN
  rw [if_pos (Int.natCast_nonneg t), if_pos (by omega), Int.toNat_natCast]
theorem nn_ref (t : Addr) : (!decide (V.ref t = V.non)) = true := by simp
theorem nn_non : (!decide (V.non = V.non)) = false := by simp

/-- the orders that are named -/
def Ords (c : Cl) (H : Hp) (ws : List Nat) (kvs : List (Key × V)) : Prop := ∀ (q : Nat) (a : Addr), valV kvs (Sum.inl (q : Int)) = some (.ref a) → OrdAt c H a (ordAt ws q)
theorem PipAt.ords {c : Cl} {H : Hp} {p : Addr} {g : Ge} {v : Va} {P : Pg} {m : MS} {n : Cnt} (h : PipAt c H p g v P m n) : Ords c H P.ws v.kvs := fun q a e => h.ord e

def imHit (P : Pg) (k : Nat) (im : Option (Nat × Nat × Nat)) : Bool := match im with
  | some (q, _, _) => (ordAt P.ws q).target == k && (ordAt P.ws q).kind != 7
  | none => false
def wrHit (P : Pg) (k : Nat) (wr : Option (Nat × Nat)) : Bool := match wr with
  | some (q, _) => (ordAt P.ws q).target == k
  | none => false
theorem newM_hit {P : Pg} {k z q x y : Nat} {wr : Option (Nat × Nat)} (hk : k ≠ 0) (h : imHit P k (some (q, x, y)) = true) : newM P k z (some (q, x, y)) wr = x := by
  have h' : ((ordAt P.ws q).target == k && (ordAt P.ws q).kind != 7) = true := h
  rw [Bool.and_eq_true] at h'
  unfold newM
  rw [if_neg hk]
  exact if_pos ⟨eq_of_beq h'.1, by simpa using h'.2⟩
theorem newM_miss {P : Pg} {k z : Nat} {im : Option (Nat × Nat × Nat)} {wr : Option (Nat × Nat)} (hk : k ≠ 0) (h : imHit P k im = false) : newM P k z im wr = newWr P k z wr := by
  unfold newM
  rw [if_neg hk]
  match im, h with
  | none, _ => rfl
  | some (q, x, y), h =>
    have h' : ((ordAt P.ws q).target == k && (ordAt P.ws q).kind != 7) = false := h
    refine if_neg fun z => ?_
    rw [z.1, beq_self_eq_true, Bool.true_and] at h'
    exact z.2 (by simpa using h')

def sp_newest_value (c : Cl) : Sp := fun vs H Q _ => ∃ (P : Pg) (kvs : List (Key × V)) (k z : Nat) (x y : V) (im : Option (Nat × Nat × Nat)) (wr : Option (Nat × Nat)), vs = [.int (k : Int), .int (z : Int), x, y] ∧ VT3 H kvs x im ∧ VT2 H kvs y wr ∧ Ords c H P.ws kvs ∧
  Q (.int ((newM P k z im wr : Nat) : Int)) H

section
variable {P : Program} {w : World} {K : PySem.W.Frag} {mg : Str → Option Value} {base : Heap} {c : Cl}

theorem ok_newest_value (T : Txt K mg c) (f : Addr) (fd : FuncData) (F : Fun K "newest_value" "newest_value" s_newest_value f fd) : FnOk P w K mg base CX0 1 f fd ps_newest_value_ (sp_newest_value c) := by
  refine F.ok sc_newest_value (fun vs H Q E h => ?_) (fun cdv A outer s H vs Q E hr h => ?_)
  · obtain ⟨_, _, _, _, _, _, _, _, rfl, _⟩ := h
    rfl
  · obtain ⟨Pg, kvs, k, z, x, y, im, wr, rfl, hx, hy, ho, q⟩ := h
    refine ⟨_, pss_cons (ps_if (pt_cmpR op_eq (pv 0) pe_int (nomark _)) (pss_one (ps_ret (pv 1))) pss_nil)
      (pss_cons (ps_if (PW.pt (pw_and (pt_cmp (pc_notN (pv 2))) (pw_and (pt_cmpR op_eq (pe_fld (pe_ix ix_tup (pv 2) pe_int (fun _ _ => rfl)) rfl) (pv 0) (nomark _)) (pw_and1 (pt_cmpR op_ne (pe_fld (pe_ix ix_tup (pv 2) pe_int (fun _ _ => rfl)) rfl) (pe_gint T.k_LOAD rfl) (nomark _))))))
        (pss_one (ps_ret (pe_ix ix_tup (pv 2) pe_int (fun _ _ => rfl)))) pss_nil)
      (pss_cons (ps_if (PW.pt (pw_and (pt_cmp (pc_notN (pv 3))) (pw_and1 (pt_cmpR op_eq (pe_fld (pe_ix ix_tup (pv 3) pe_int (fun _ _ => rfl)) rfl) (pv 0) (nomark _)))))
        (pss_one (ps_ret (pe_ix ix_tup (pv 3) pe_int (fun _ _ => rfl)))) pss_nil)
      (pss_one (ps_ret (pv 1))))), ?_⟩
    walk_at "un"
    refine tIfS_by (k == 0) (fun R r => ?_) (fun hk => ?_) (fun hk => ?_)
    · refine ⟨_, rfl, rfl, _, rfl, ?_⟩
      have e := dec_nat k 0
      rw [← e] at r
      exact r
    · refine ⟨_, rfl, ?_⟩
      have e : newM Pg k z im wr = z := by unfold newM; rw [if_pos (eq_of_beq hk)]
      rw [e] at q
      exact q
    · have hk0 : k ≠ 0 := by simpa using hk
      walk_at "un"
      refine tIfS_by (imHit Pg k im) (fun R r => ?_) (fun hb => ?_) (fun hb => ?_)
      · match im, hx, r with
        | none, hx, r =>
          have hx : x = .non := hx
          subst hx
          exact tAnd_by false false (fun R r => ⟨_, rfl, _, rfl, r⟩) (fun e => by cases e) r
        | some (q1, x1, y1), ⟨t, a, e1, ht, hv⟩, r =>
          subst e1
          obtain ⟨dx, hd⟩ := ho q1 a hv
          refine tAnd_by true ((ordAt Pg.ws q1).target == k && (ordAt Pg.ws q1).kind != 7) (fun R r => ⟨_, rfl, _, rfl, r⟩) (fun _ R r => ?_) r
          refine tAnd_by ((ordAt Pg.ws q1).target == k) ((ordAt Pg.ws q1).kind != 7) (fun R r => ?_) (fun _ R r => ?_) r
          · refine ⟨_, rfl, t, _, _, _, rfl, rfl, SqT.of ht, rfl, a, _, dx, _, _, rfl, hd, T.clOrder, T.nOrder_target, oL_target _, _, rfl, rfl, _, rfl, ?_⟩
            rw [← dec_nat] at r
            exact r
          · refine ⟨_, rfl, t, _, _, _, rfl, rfl, SqT.of ht, rfl, a, _, dx, _, _, rfl, hd, T.clOrder, T.nOrder_kind, oL_kind _, rfl, _, rfl, ?_⟩
            have e := dec_nat (ordAt Pg.ws q1).kind 7
            rw [show ((ordAt Pg.ws q1).kind != 7) = !((ordAt Pg.ws q1).kind == 7) from rfl, ← e] at r
            exact r
      · match im, hx, hb, q with
        | none, hx, hb, q => cases hb
        | some (q1, x1, y1), ⟨t, a, e1, ht, hv⟩, hb, q =>
          subst e1
          have e : newM Pg k z (some (q1, x1, y1)) wr = x1 := newM_hit hk0 hb
          rw [e] at q
          exact ⟨_, rfl, t, _, _, _, rfl, rfl, SqT.of ht, rfl, q⟩
      · have e : newM Pg k z im wr = newWr Pg k z wr := newM_miss hk0 hb
        rw [e] at q
        walk_at "un"
        refine tIfS_by (wrHit Pg k wr) (fun R r => ?_) (fun hb => ?_) (fun hb => ?_)
        · match wr, hy, r with
          | none, hy, r =>
            have hy : y = .non := hy
            subst hy
            exact tAnd_by false false (fun R r => ⟨_, rfl, _, rfl, r⟩) (fun e => by cases e) r
          | some (q1, x1), ⟨t, a, e1, ht, hv⟩, r =>
            subst e1
            obtain ⟨dx, hd⟩ := ho q1 a hv
            refine tAnd_by true ((ordAt Pg.ws q1).target == k) (fun R r => ⟨_, rfl, _, rfl, r⟩) (fun _ R r => ?_) r
            refine ⟨_, rfl, t, _, _, _, rfl, rfl, SqT.of ht, rfl, a, _, dx, _, _, rfl, hd, T.clOrder, T.nOrder_target, oL_target _, _, rfl, rfl, _, rfl, ?_⟩
            rw [← dec_nat] at r
            exact r
        · match wr, hy, hb, q with
          | none, hy, hb, q => cases hb
          | some (q1, x1), ⟨t, a, e1, ht, hv⟩, hb, q =>
            subst e1
            have e : newWr Pg k z (some (q1, x1)) = x1 := if_pos (eq_of_beq hb)
            rw [e] at q
            exact ⟨_, rfl, t, _, _, _, rfl, rfl, SqT.of ht, rfl, q⟩
        · have e : newWr Pg k z wr = z := by
            match wr, hb with
            | none, _ => rfl
            | some (q1, x1), hb => exact if_neg fun h => by rw [show wrHit Pg k (some (q1, x1)) = ((ordAt Pg.ws q1).target == k) from rfl, h, beq_self_eq_true] at hb; cases hb
          rw [e] at q
          exact ⟨_, rfl, q⟩
end
end Fs

set_option Elab.async false
set_option linter.all false
set_option maxRecDepth 100000
namespace Fs
open PySem L2
local macro_rules | `(tactic| walk_at "un") => `(tactic| try dsimp only [tSeq, tNext, tAsg, sFld, sFldAug, tRet, tDrop])

def sp_write (c : Cl) : Sp := fun vs H Q _ => ∃ (p : Addr) (g : Ge) (v : Va) (P : Pg) (m : MS) (n : Cnt) (x : V) (q z : Nat), vs = [.ref p, x] ∧ PipAt c H p g v P m n ∧ VT2 H v.kvs x (some (q, z)) ∧ m.regs.length = 16 ∧
  ∀ H' : Hp, PipAt c H' p g v P { m with regs := if (ordAt P.ws q).target ≠ 0 then m.regs.set (ordAt P.ws q).target z else m.regs, ended := if (ordAt P.ws q).kind = 12 then true else m.ended } { n with done := n.done + if (ordAt P.ws q).kind = 12 then 0 else 1 } → Fr g p H H' → Q .non H'
def sp_use_memory (c : Cl) : Sp := fun vs H Q _ => ∃ (p : Addr) (g : Ge) (v : Va) (P : Pg) (m : MS) (n : Cnt) (x : V) (q z y : Nat), vs = [.ref p, x] ∧ PipAt c H p g v P m n ∧ VT3 H v.kvs x (some (q, z, y)) ∧ m.mem.length = 1024 ∧
  ∀ (H' : Hp) (r : V), PipAt c H' p g v P { m with mem := if (ordAt P.ws q).kind = 8 then m.mem.set (z % 1024) y else m.mem } n → VT2 H' v.kvs r (some (q, if (ordAt P.ws q).kind = 7 then m.mem.getD (z % 1024) 0 else z)) → Fr g p H H' → Q r H'
def sp_reckon (c : Cl) : Sp := fun vs H Q _ => ∃ (p : Addr) (g : Ge) (v : Va) (P : Pg) (m : MS) (n : Cnt) (x y z : V) (q a b : Nat) (im : Option (Nat × Nat × Nat)) (wr : Option (Nat × Nat)), vs = [.ref p, x, y, z] ∧ PipAt c H p g v P m n ∧
  VT3 H v.kvs x (some (q, a, b)) ∧ VT3 H v.kvs y im ∧ VT2 H v.kvs z wr ∧ (ordAt P.ws q).kind ≤ 12 ∧
  ∀ (H' : Hp) (r : V), L2.Same H H' → VT3 H' v.kvs r (some (q, resM (ordAt P.ws q) (if P.hands = true then newM P (ordAt P.ws q).first a im wr else a) (if P.hands = true then newM P (ordAt P.ws q).second b im wr else b), if P.hands = true then newM P (ordAt P.ws q).second b im wr else b)) → Q r H'
def sp_learn (c : Cl) : Sp := fun vs H Q _ => ∃ (p : Addr) (g : Ge) (v : Va) (P : Pg) (m : MS) (n : Cnt) (x : V) (q z y : Nat), vs = [.ref p, x] ∧ PipAt c H p g v P m n ∧ VT3 H v.kvs x (some (q, z, y)) ∧ m.guess.length = 16 ∧
  ∀ H' : Hp, PipAt c H' p g v P { m with guess := m.guess.set (ordAt P.ws q).guessAt (if z = 1 then min 3 (m.guess.getD (ordAt P.ws q).guessAt 0 + 1) else m.guess.getD (ordAt P.ws q).guessAt 0 - 1) } n → Fr g p H H' → Q .non H'
def sp_lose_guessed (c : Cl) : Sp := fun vs H Q _ => ∃ (p : Addr) (g : Ge) (v : Va) (P : Pg) (m : MS) (n : Cnt) (k : Nat), vs = [.ref p, .int (k : Int)] ∧ PipAt c H p g v P m n ∧
  ∀ H' : Hp, PipAt c H' p g { v with rd := .non, rk := .non } P { m with rd := none, rk := none, place := k, fetches := true } { n with lost := n.lost + (match m.rd with | some _ => 2 | none => 1) } → Fr g p H H' → Q .non H'
def wantT (P : Pg) (q : Nat) (r : Option (Nat × Nat × Nat)) : Bool := match r with
  | some (q', _, _) => needsM (ordAt P.ws q) (ordAt P.ws q').target
  | none => false
def wantL (P : Pg) (q : Nat) (r : Option (Nat × Nat × Nat)) : Bool := match r with
  | some (q', _, _) => (ordAt P.ws q').kind == 7 && needsM (ordAt P.ws q) (ordAt P.ws q').target
  | none => false
def waitF (P : Pg) (q : Nat) (rk im : Option (Nat × Nat × Nat)) : Bool := if P.hands = true then wantL P q rk else wantT P q rk || wantT P q im
def sp_has_to_wait (c : Cl) : Sp := fun vs H Q _ => ∃ (p : Addr) (g : Ge) (v : Va) (P : Pg) (m : MS) (n : Cnt) (a : Addr) (q : Nat) (x y : V) (rk im : Option (Nat × Nat × Nat)), vs = [.ref p, .ref a, x, y] ∧ PipAt c H p g v P m n ∧ valV v.kvs (Sum.inl (q : Int)) = some (.ref a) ∧
  VT3 H v.kvs x rk ∧ VT3 H v.kvs y im ∧ Q (.bl (waitF P q rk im)) H
def sp_read_registers (c : Cl) : Sp := fun vs H Q _ => ∃ (p : Addr) (g : Ge) (v : Va) (P : Pg) (m : MS) (n : Cnt) (a : Addr) (q : Nat), vs = [.ref p, .ref a] ∧ PipAt c H p g v P m n ∧ m.regs.length = 16 ∧ valV v.kvs (Sum.inl (q : Int)) = some (.ref a) ∧
  ∀ (H' : Hp) (r : V), L2.Same H H' → VT3 H' v.kvs r (some (q, m.regs.getD (ordAt P.ws q).first 0, m.regs.getD (ordAt P.ws q).second 0)) → Q r H'
def sp_order_at (c : Cl) : Sp := fun vs H Q _ => ∃ (p : Addr) (g : Ge) (v : Va) (P : Pg) (m : MS) (n : Cnt) (q : Nat), vs = [.ref p, .int (q : Int)] ∧ PipAt c H p g v P m n ∧ PlOk P.ws q ∧ P.ws.length ≤ 1024 ∧
  ∀ (H' : Hp) (kvs : List (Key × V)) (a : Addr), PipAt c H' p g { v with kvs := kvs } P m n → Ext v { v with kvs := kvs } → valV kvs (Sum.inl (q : Int)) = some (.ref a) → Fr g p H H' → Q (.ref a) H'

theorem tgt_lt (ws : List Nat) (q : Nat) : (ordAt ws q).target < 16 := by
  show (if kW (wordAt ws q % 16) = true then wordAt ws q / 16 % 16 else 0) < 16
  split <;> omega
theorem fst_lt (ws : List Nat) (q : Nat) : (ordAt ws q).first < 16 := by
  show (if kA (wordAt ws q % 16) = true then wordAt ws q / 256 % 16 else 0) < 16
  split <;> omega
theorem snd_lt (ws : List Nat) (q : Nat) : (ordAt ws q).second < 16 := by
  show (if kB (wordAt ws q % 16) = true then wordAt ws q / 4096 % 16 else 0) < 16
  split <;> omega

section
variable {P : Program} {w : World} {K : PySem.W.Frag} {mg : Str → Option Value} {base : Heap} {c : Cl}

theorem ok_write (T : Txt K mg c) (f : Addr) (fd : FuncData) (F : Fun K "write" "Pipeline.write" s_write f fd) : FnOk P w K mg base CX0 1 f fd ps_write_ (sp_write c) := by
  refine F.ok sc_write (fun vs H Q E h => ?_) (fun cdv A outer s H vs Q E hr h => ?_)
  · obtain ⟨_, _, _, _, _, _, _, _, _, rfl, _⟩ := h
    rfl
  · obtain ⟨p, g, v, Pg, m, n, x, q, z, rfl, R, ⟨t, a, rfl, ht, hv⟩, hl, k⟩ := h
    obtain ⟨dx, ho⟩ := R.ord hv
    refine ⟨_, pss_cons (ps_set (i := 2) sc_write.nd rfl (Or.inl rfl) (pe_ix ix_tup (pv 1) pe_int (fun _ _ => rfl)))
      (pss_cons (ps_if (pt_cmpR op_ne (pe_fld (pv 2) rfl) pe_int (nomark _)) (pss_one (ps_asg (pe_ix ix_tup (pv 1) pe_int (fun _ _ => rfl)) (pg_sub (pe_fld (pv 0) rfl) (pe_fld (pv 2) rfl) set_list))) pss_nil)
      (pss_one (ps_if (pt_cmpR op_eq (pe_fld (pv 2) rfl) (pe_gint T.k_END rfl) (nomark _)) (pss_one (ps_fld (pv 0) pe_bl rfl)) (pss_one (ps_fldaug (pv 0) pe_int in_add))))), ?_⟩
    refine ⟨_, rfl, t, _, _, _, rfl, rfl, SqT.of ht, rfl, ?_⟩
    -- registers
    try dsimp only [tNext]
    refine seq_by (fun σ' H1 => σ' = [some (.ref p), some (.ref t), some (.ref a)] ∧ PipAt c H1 p g v Pg { m with regs := if (ordAt Pg.ws q).target ≠ 0 then m.regs.set (ordAt Pg.ws q).target z else m.regs } n ∧ Fr g p H H1) (fun D hD => ?_) ?_
    · walk_at "un"
      refine tIfS_by ((ordAt Pg.ws q).target != 0) (fun R' r => ?_) (fun hb => ?_) (fun hb => ?_)
      · refine ⟨_, rfl, a, _, dx, _, _, rfl, ho, T.clOrder, T.nOrder_target, oL_target _, rfl, _, rfl, ?_⟩
        have e := dec_nat (ordAt Pg.ws q).target 0
        rw [show ((ordAt Pg.ws q).target != 0) = !((ordAt Pg.ws q).target == 0) from rfl, ← e] at r
        exact r
      · have hne : (ordAt Pg.ws q).target ≠ 0 := by simpa using hb
        refine ⟨_, rfl, t, _, _, _, rfl, rfl, SqT.of ht, rfl, _, rfl, p, _, _, _, _, rfl, R.ob, T.clPipeline, T.nPipeline_registers, pL_registers _ _ _ _ _ _ _, _, rfl, a, _, dx, _, _, rfl, ho, T.clOrder, T.nOrder_target, oL_target _,
          g.lr, _, _, (ordAt Pg.ws q).target, rfl, rfl, R.rg, ixN_nat (by rw [lint_len, hl]; exact tgt_lt _ _), ?_⟩
        refine hD _ _ ⟨rfl, ?_, PipAt.fr_r _⟩
        rw [lint_set, if_pos hne]
        exact R.setR _
      · have he : ¬ (ordAt Pg.ws q).target ≠ 0 := by simpa using hb
        refine hD _ _ ⟨rfl, ?_, Fr.refl _ _ _⟩
        rw [if_neg he]
        exact R
    · rintro σ' H1 ⟨rfl, R1, f1⟩
      obtain ⟨dx1, ho1⟩ := R1.ord hv
      walk_at "un"
      refine tIfS_by ((ordAt Pg.ws q).kind == 12) (fun R' r => ?_) (fun hb => ?_) (fun hb => ?_)
      · refine ⟨_, rfl, a, _, dx1, _, _, rfl, ho1, T.clOrder, T.nOrder_kind, oL_kind _, rfl, _, rfl, ?_⟩
        have e := dec_nat (ordAt Pg.ws q).kind 12
        rw [← e] at r
        exact r
      · have h12 := eq_of_beq hb
        refine ⟨_, rfl, p, _, _, _, rfl, R1.ob, T.clPipeline, T.nPipeline_ended, pF_len _ _ _ _ _ _ _, ?_⟩
        rw [pP_ended]
        refine k _ ?_ (f1.trans (PipAt.fr_p _))
        rw [if_pos h12, if_pos h12]
        exact R1.fld T.neOrderPipeline v { m with regs := _, ended := true } n rfl rfl rfl rfl R1.rd R1.rk R1.im R1.wr
      · have h12 : ¬ (ordAt Pg.ws q).kind = 12 := by simpa using hb
        refine ⟨_, rfl, p, _, _, _, _, rfl, R1.ob, T.clPipeline, T.nPipeline_done, pL_done _ _ _ _ _ _ _, _, _, rfl, rfl, _, _, R1.ob, pF_len _ _ _ _ _ _ _, ?_⟩
        rw [show V.int ((n.done : Int) + 1) = V.int ((n.done + 1 : Nat) : Int) from rfl, pP_done]
        refine k _ ?_ (f1.trans (PipAt.fr_p _))
        rw [if_neg h12, if_neg h12]
        exact R1.fld T.neOrderPipeline v { m with regs := _ } { n with done := n.done + 1 } rfl rfl rfl rfl R1.rd R1.rk R1.im R1.wr

theorem ok_use_memory (T : Txt K mg c) (f : Addr) (fd : FuncData) (F : Fun K "use_memory" "Pipeline.use_memory" s_use_memory f fd) : FnOk P w K mg base CX0 1 f fd ps_use_memory_ (sp_use_memory c) := by
  refine F.ok sc_use_memory (fun vs H Q E h => ?_) (fun cdv A outer s H vs Q E hr h => ?_)
  · obtain ⟨_, _, _, _, _, _, _, _, _, _, rfl, _⟩ := h
    rfl
  · obtain ⟨p, g, v, Pg, m, n, x, q, z, y, rfl, R, ⟨t, a, rfl, ht, hv⟩, hl, k⟩ := h
    obtain ⟨dx, ho⟩ := R.ord hv
    have hz : z % 1024 < m.mem.length := by rw [hl]; omega
    refine ⟨_, pss_cons (ps_set (i := 2) sc_use_memory.nd rfl (Or.inl rfl) (pe_ix ix_tup (pv 1) pe_int (fun _ _ => rfl)))
      (pss_cons (ps_if (pt_cmpR op_eq (pe_fld (pv 2) rfl) (pe_gint T.k_LOAD rfl) (nomark _))
        (pss_one (ps_ret (pe_tup (pa_cons (pv 2) (pa_cons (pe_ix ix_list (pe_fld (pv 0) rfl) (pe_op op_and (pe_ix ix_tup (pv 1) pe_int (fun _ _ => rfl)) pe_int) (fun _ _ => rfl)) pa_nil))))) pss_nil)
      (pss_cons (ps_if (pt_cmpR op_eq (pe_fld (pv 2) rfl) (pe_gint T.k_STORE rfl) (nomark _))
        (pss_one (ps_asg (pe_ix ix_tup (pv 1) pe_int (fun _ _ => rfl)) (pg_sub (pe_fld (pv 0) rfl) (pe_op op_and (pe_ix ix_tup (pv 1) pe_int (fun _ _ => rfl)) pe_int) set_list))) pss_nil)
      (pss_one (ps_ret (pe_tup (pa_cons (pv 2) (pa_cons (pe_ix ix_tup (pv 1) pe_int (fun _ _ => rfl)) pa_nil))))))), ?_⟩
    refine ⟨_, rfl, t, _, _, _, rfl, rfl, SqT.of ht, rfl, ?_⟩
    walk_at "un"
    refine tIfS_by ((ordAt Pg.ws q).kind == 7) (fun R' r => ?_) (fun hb => ?_) (fun hb => ?_)
    · refine ⟨_, rfl, a, _, dx, _, _, rfl, ho, T.clOrder, T.nOrder_kind, oL_kind _, rfl, _, rfl, ?_⟩
      have e := dec_nat (ordAt Pg.ws q).kind 7
      rw [← e] at r
      exact r
    · have h7 := eq_of_beq hb
      refine ⟨_, rfl, _, rfl, p, _, _, _, _, rfl, R.ob, T.clPipeline, T.nPipeline_memory, pL_memory _ _ _ _ _ _ _, _, rfl, t, _, _, _, rfl, rfl, SqT.of ht, rfl, _, _, rfl, rfl,
        g.lm, _, _, _, rfl, rfl, SqL.of R.mm, (by rw [and1023]; exact atI_nat (lint_getD hz)), (by show 2 ≤ sizeLine; decide), fun t' ht' => ?_⟩
      have s1 : L2.Same H (upd H t' (.tup [.ref a, .int ((m.mem.getD (z % 1024) 0 : Nat) : Int)])) := fun b o e => by rw [upd_ne (ne_of_none e ht')]; exact e
      refine k _ _ ?_ ⟨t', a, rfl, ?_, hv⟩ (Fr.of_same s1)
      · rw [if_neg (by omega)]
        exact R.keep s1
      · rw [if_pos h7]
        exact upd_same
    · have h7 : ¬ (ordAt Pg.ws q).kind = 7 := by simpa using hb
      try dsimp only [tNext]
      refine seq_by (fun σ' H1 => σ' = [some (.ref p), some (.ref t), some (.ref a)] ∧ PipAt c H1 p g v Pg { m with mem := if (ordAt Pg.ws q).kind = 8 then m.mem.set (z % 1024) y else m.mem } n ∧ Fr g p H H1 ∧ H1 t = some (.tup [.ref a, .int (z : Int), .int (y : Int)])) (fun D hD => ?_) ?_
      · walk_at "un"
        refine tIfS_by ((ordAt Pg.ws q).kind == 8) (fun R' r => ?_) (fun hb => ?_) (fun hb => ?_)
        · refine ⟨_, rfl, a, _, dx, _, _, rfl, ho, T.clOrder, T.nOrder_kind, oL_kind _, rfl, _, rfl, ?_⟩
          have e := dec_nat (ordAt Pg.ws q).kind 8
          rw [← e] at r
          exact r
        · have h8 := eq_of_beq hb
          refine ⟨_, rfl, t, _, _, _, rfl, rfl, SqT.of ht, rfl, _, rfl, p, _, _, _, _, rfl, R.ob, T.clPipeline, T.nPipeline_memory, pL_memory _ _ _ _ _ _ _, _, rfl, t, _, _, _, rfl, rfl, SqT.of ht, rfl, _, _, rfl, rfl,
            g.lm, _, _, z % 1024, rfl, rfl, R.mm, (by rw [and1023]; exact ixN_nat (by rw [lint_len]; exact hz)), ?_⟩
          refine hD _ _ ⟨rfl, ?_, PipAt.fr_m _, ?_⟩
          · rw [lint_set, if_pos h8]
            exact R.setM _
          · rw [upd_ne (ne_of ht R.mm (by intro z; cases z))]
            exact ht
        · have h8 : ¬ (ordAt Pg.ws q).kind = 8 := by simpa using hb
          refine hD _ _ ⟨rfl, ?_, Fr.refl _ _ _, ht⟩
          rw [if_neg h8]
          exact R
      · rintro σ' H1 ⟨rfl, R1, f1, ht1⟩
        refine ⟨_, rfl, _, rfl, t, _, _, _, rfl, rfl, SqT.of ht1, rfl, (by show 2 ≤ sizeLine; decide), fun t' ht' => ?_⟩
        have s1 : L2.Same H1 (upd H1 t' (.tup [.ref a, .int (z : Int)])) := fun b o e => by rw [upd_ne (ne_of_none e ht')]; exact e
        refine k _ _ (R1.keep s1) ⟨t', a, rfl, ?_, hv⟩ (f1.trans (Fr.of_same s1))
        rw [if_neg h7]
        exact upd_same

theorem ga_lt (ws : List Nat) (q : Nat) : (ordAt ws q).guessAt < 16 := Nat.mod_lt q (by decide)
theorem ok_learn (T : Txt K mg c) (f : Addr) (fd : FuncData) (F : Fun K "learn" "Pipeline.learn" s_learn f fd) : FnOk P w K mg base CX0 1 f fd ps_learn_ (sp_learn c) := by
  refine F.ok sc_learn (fun vs H Q E h => ?_) (fun cdv A outer s H vs Q E hr h => ?_)
  · obtain ⟨_, _, _, _, _, _, _, _, _, _, rfl, _⟩ := h
    rfl
  · obtain ⟨p, g, v, Pg, m, n, x, q, z, y, rfl, R, ⟨t, a, rfl, ht, hv⟩, hl, k⟩ := h
    obtain ⟨dx, ho⟩ := R.ord hv
    have hi : (ordAt Pg.ws q).guessAt < m.guess.length := by rw [hl]; exact ga_lt _ _
    refine ⟨_, (pss_cons (ps_set (i := 2) sc_learn.nd rfl (Or.inl rfl) (pe_fld (pe_ix ix_tup (pv 1) pe_int (fun _ _ => rfl)) rfl)) (pss_cons (ps_set (i := 3) sc_learn.nd rfl (Or.inl rfl) (pe_ix ix_list (pe_fld (pv 0) rfl) (pv 2) (fun _ _ => rfl))) (pss_one (ps_asg (pe_ifExp (pt_cmpR op_eq (pe_ix ix_tup (pv 1) pe_int (fun _ _ => rfl)) pe_int (nomark _)) (pe_callB (call_min2 rfl) (by rfl) T.b_min PyProof.Rows.boot_min (pa_cons pe_int (pa_cons (pe_op op_add (pv 3) pe_int) pa_nil))) (pe_callB (call_max2 rfl) (by rfl) T.b_max PyProof.Rows.boot_max (pa_cons pe_int (pa_cons (pe_op op_sub (pv 3) pe_int) pa_nil)))) (pg_sub (pe_fld (pv 0) rfl) (pv 2) set_list))))), ?_⟩
    refine ⟨_, rfl, t, _, _, _, rfl, rfl, SqT.of ht, rfl, a, _, dx, _, _, rfl, ho, T.clOrder, T.nOrder_guess_at, oL_guess_at _, ?_⟩
    refine ⟨_, rfl, p, _, _, _, _, rfl, R.ob, T.clPipeline, T.nPipeline_guesses, pL_guesses _ _ _ _ _ _ _, _, rfl, g.lg, _, _, _, rfl, rfl, SqL.of R.gg, atI_nat (lint_getD hi), ?_⟩
    walk_at "un"
    refine tIf_by (z == 1) (.int ((if z = 1 then min 3 (m.guess.getD (ordAt Pg.ws q).guessAt 0 + 1) else m.guess.getD (ordAt Pg.ws q).guessAt 0 - 1 : Nat) : Int)) (fun R' r => ?_) (fun hb R' r => ?_) (fun hb R' r => ?_) ?_
    · refine ⟨_, rfl, t, _, _, _, rfl, rfl, SqT.of ht, rfl, rfl, _, rfl, ?_⟩
      have e := dec_nat z 1
      rw [← e] at r
      exact r
    · refine ⟨_, rfl, _, _, rfl, rfl, _, _, rfl, ?_⟩
      rw [if_pos (eq_of_beq hb)] at r
      have e : (if ((m.guess.getD (ordAt Pg.ws q).guessAt 0 : Nat) : Int) + 1 < 3 then ((m.guess.getD (ordAt Pg.ws q).guessAt 0 : Nat) : Int) + 1 else 3) = ((min 3 (m.guess.getD (ordAt Pg.ws q).guessAt 0 + 1) : Nat) : Int) := by
        split <;> omega
      rw [e]
      exact r
    · refine ⟨_, rfl, _, _, rfl, rfl, _, _, rfl, ?_⟩
      have hz : ¬ z = 1 := by simpa using hb
      rw [if_neg hz] at r
      have e : (if ((m.guess.getD (ordAt Pg.ws q).guessAt 0 : Nat) : Int) - 1 > 0 then ((m.guess.getD (ordAt Pg.ws q).guessAt 0 : Nat) : Int) - 1 else 0) = ((m.guess.getD (ordAt Pg.ws q).guessAt 0 - 1 : Nat) : Int) := by
        split <;> omega
      rw [e]
      exact r
    refine ⟨_, rfl, p, _, _, _, _, rfl, R.ob, T.clPipeline, T.nPipeline_guesses, pL_guesses _ _ _ _ _ _ _, _, rfl, g.lg, _, _, (ordAt Pg.ws q).guessAt, rfl, rfl, R.gg, ixN_nat (by rw [lint_len]; exact hi), ?_⟩
    refine k _ ?_ (PipAt.fr_g _)
    rw [lint_set]
    exact R.setG _
theorem ok_lose_guessed (T : Txt K mg c) (f : Addr) (fd : FuncData) (F : Fun K "lose_guessed" "Pipeline.lose_guessed" s_lose_guessed f fd) : FnOk P w K mg base CX0 1 f fd ps_lose_guessed_ (sp_lose_guessed c) := by
  refine F.ok sc_lose_guessed (fun vs H Q E h => ?_) (fun cdv A outer s H vs Q E hr h => ?_)
  · obtain ⟨_, _, _, _, _, _, _, rfl, _⟩ := h
    rfl
  · obtain ⟨p, g, v, Pg, m, n, i, rfl, R, k⟩ := h
    refine ⟨_, pss_cons (ps_fldaug (pv 0) (pe_ifExp (pt_cmp (pc_isN (pe_fld (pv 0) rfl))) pe_int pe_int) in_add)
      (pss_cons (ps_fld (pv 0) pe_non rfl)
      (pss_cons (ps_fld (pv 0) pe_non rfl)
      (pss_cons (ps_fld (pv 0) (pv 1) rfl)
      (pss_one (ps_fld (pv 0) pe_bl rfl))))), ?_⟩
    refine ⟨_, rfl, p, _, _, _, _, rfl, R.ob, T.clPipeline, T.nPipeline_lost, pL_lost _ _ _ _ _ _ _, ?_⟩
    walk_at "un"
    refine tIf_by (decide (v.rd = .non)) (.int (((match m.rd with | some _ => 2 | none => 1 : Nat)) : Int)) (fun R' r => ?_) (fun hb R' r => ?_) (fun hb R' r => ?_) ?_
    · exact ⟨_, rfl, p, _, _, _, _, rfl, R.ob, T.clPipeline, T.nPipeline_to_read, pL_to_read _ _ _ _ _ _ _, _, rfl, r⟩
    · have e := of_decide_eq_true hb
      have hrd := R.rd
      cases hm : m.rd with
      | none => rw [hm] at r; exact r
      | some q =>
        rw [hm] at hrd
        obtain ⟨a, e1, _⟩ := hrd
        rw [e1] at e
        cases e
    · have e := of_decide_eq_false hb
      have hrd := R.rd
      cases hm : m.rd with
      | none => rw [hm] at hrd; exact absurd hrd e
      | some q => rw [hm] at r; exact r
    refine ⟨_, _, rfl, rfl, _, _, R.ob, pF_len _ _ _ _ _ _ _, ?_⟩
    have e1 : ∀ j : Nat, V.int ((n.lost : Int) + (j : Int)) = V.int ((n.lost + j : Nat) : Int) := fun j => rfl
    rw [e1, pP_lost]
    refine ⟨_, rfl, p, _, _, _, rfl, upd_same, T.clPipeline, T.nPipeline_to_read, pF_len _ _ _ _ _ _ _, ?_⟩
    rw [pP_to_read, upd_upd]
    refine ⟨_, rfl, p, _, _, _, rfl, upd_same, T.clPipeline, T.nPipeline_to_reckon, pF_len _ _ _ _ _ _ _, ?_⟩
    rw [pP_to_reckon, upd_upd]
    refine ⟨_, rfl, _, rfl, p, _, _, _, rfl, upd_same, T.clPipeline, T.nPipeline_place, pF_len _ _ _ _ _ _ _, ?_⟩
    rw [pP_place, upd_upd]
    refine ⟨_, rfl, p, _, _, _, rfl, upd_same, T.clPipeline, T.nPipeline_fetches, pF_len _ _ _ _ _ _ _, ?_⟩
    rw [pP_fetches, upd_upd]
    exact k _ (R.fld T.neOrderPipeline { v with rd := .non, rk := .non } { m with rd := none, rk := none, place := i, fetches := true } _ rfl rfl rfl rfl rfl rfl R.im R.wr) (PipAt.fr_p _)
theorem ok_read_registers (T : Txt K mg c) (f : Addr) (fd : FuncData) (F : Fun K "read_registers" "Pipeline.read_registers" s_read_registers f fd) : FnOk P w K mg base CX0 1 f fd ps_read_registers_ (sp_read_registers c) := by
  refine F.ok sc_read_registers (fun vs H Q E h => ?_) (fun cdv A outer s H vs Q E hr h => ?_)
  · obtain ⟨_, _, _, _, _, _, _, _, rfl, _⟩ := h
    rfl
  · obtain ⟨p, g, v, Pg, m, n, a, q, rfl, R, hl, hv, k⟩ := h
    obtain ⟨dx, ho⟩ := R.ord hv
    refine ⟨_, pss_one (ps_ret (pe_tup (pa_cons (pv 1) (pa_cons (pe_ix ix_list (pe_fld (pv 0) rfl) (pe_fld (pv 1) rfl) (fun _ _ => rfl)) (pa_cons (pe_ix ix_list (pe_fld (pv 0) rfl) (pe_fld (pv 1) rfl) (fun _ _ => rfl)) pa_nil))))), ?_⟩
    refine ⟨_, rfl, _, rfl, p, _, _, _, _, rfl, R.ob, T.clPipeline, T.nPipeline_registers, pL_registers _ _ _ _ _ _ _, _, rfl, a, _, dx, _, _, rfl, ho, T.clOrder, T.nOrder_first, oL_first _, g.lr, _, _, _, rfl, rfl, SqL.of R.rg, atI_nat (lint_getD (by rw [hl]; exact fst_lt _ _)),
      _, rfl, p, _, _, _, _, rfl, R.ob, T.clPipeline, T.nPipeline_registers, pL_registers _ _ _ _ _ _ _, _, rfl, a, _, dx, _, _, rfl, ho, T.clOrder, T.nOrder_second, oL_second _, g.lr, _, _, _, rfl, rfl, SqL.of R.rg, atI_nat (lint_getD (by rw [hl]; exact snd_lt _ _)),
      (by show 3 ≤ sizeLine; decide), fun t' ht' => ?_⟩
    exact k _ _ (fun b o e => by rw [upd_ne (ne_of_none e ht')]; exact e) ⟨t', a, rfl, upd_same, hv⟩
end
end Fs

set_option Elab.async false
set_option linter.all false
set_option maxRecDepth 100000
namespace Fs
open PySem L2
local macro_rules | `(tactic| walk_at "un") => `(tactic| try dsimp only [tSeq, tNext, tAsg, sFld, sFldAug, tRet, tDrop])

section
variable {P : Program} {w : World} {K : PySem.W.Frag} {mg : Str → Option Value} {base : Heap} {c : Cl}

theorem ok_reckon (T : Txt K mg c) (f : Addr) (fd : FuncData) (F : Fun K "reckon" "Pipeline.reckon" s_reckon f fd) : FnOk P w K mg base CX0 4 f fd ps_reckon_ (sp_reckon c) := by
  refine F.ok sc_reckon (fun vs H Q E h => ?_) (fun cdv A outer s H vs Q E hr h => ?_)
  · obtain ⟨_, _, _, _, _, _, _, _, _, _, _, _, _, _, rfl, _⟩ := h
    rfl
  · obtain ⟨p, g, v, Pg, m, n, x, y, z, q, a, b, im, wr, rfl, R, ⟨t, oa, rfl, ht, hv⟩, hy, hz, hk, k⟩ := h
    obtain ⟨dx, ho⟩ := R.ord hv
    refine ⟨_, (pss_cons (ps_set (i := 4) sc_reckon.nd rfl (Or.inl rfl) (pe_ix ix_tup (pv 1) pe_int (fun _ _ => rfl))) (pss_cons (ps_set (i := 5) sc_reckon.nd rfl (Or.inl rfl) (pe_ix ix_tup (pv 1) pe_int (fun _ _ => rfl))) (pss_cons (ps_set (i := 6) sc_reckon.nd rfl (Or.inl rfl) (pe_ix ix_tup (pv 1) pe_int (fun _ _ => rfl))) (pss_cons (ps_if (pt_val (pe_fld (pv 0) rfl)) (pss_cons (ps_set (i := 5) sc_reckon.nd rfl (Or.inl rfl) (pe_def T.d_newest_value (ok_newest_value T) hr rfl (pa_cons (pe_fld (pv 4) rfl) (pa_cons (pv 5) (pa_cons (pv 2) (pa_cons (pv 3) pa_nil)))))) (pss_one (ps_set (i := 6) sc_reckon.nd rfl (Or.inl rfl) (pe_def T.d_newest_value (ok_newest_value T) hr rfl (pa_cons (pe_fld (pv 4) rfl) (pa_cons (pv 6) (pa_cons (pv 2) (pa_cons (pv 3) pa_nil)))))))) pss_nil) (pss_one (ps_ret (pe_tup (pa_cons (pv 4) (pa_cons (pe_def T.d_result_of (ok_result_of T) hr rfl (pa_cons (pv 4) (pa_cons (pv 5) (pa_cons (pv 6) pa_nil)))) (pa_cons (pv 6) pa_nil)))))))))), ?_⟩
    refine ⟨_, rfl, t, _, _, _, rfl, rfl, SqT.of ht, rfl, ?_⟩
    refine ⟨_, rfl, t, _, _, _, rfl, rfl, SqT.of ht, rfl, ?_⟩
    refine ⟨_, rfl, t, _, _, _, rfl, rfl, SqT.of ht, rfl, ?_⟩
    dsimp only
    refine seq_by (fun σ' H1 => σ' = [some (.ref p), some (.ref t), some y, some z, some (.ref oa), some (.int ((if Pg.hands = true then newM Pg (ordAt Pg.ws q).first a im wr else a : Nat) : Int)), some (.int ((if Pg.hands = true then newM Pg (ordAt Pg.ws q).second b im wr else b : Nat) : Int))] ∧ H1 = H) (fun D hD => ?_) ?_
    · walk_at "un"
      refine tIfS_by Pg.hands (fun R' r => ?_) (fun hb => ?_) (fun hb => ?_)
      · exact ⟨_, rfl, p, _, _, _, _, rfl, R.ob, T.clPipeline, T.nPipeline_hands_on, pL_hands_on _ _ _ _ _ _ _, _, rfl, r⟩
      · refine ⟨_, rfl, oa, _, dx, _, _, rfl, ho, T.clOrder, T.nOrder_first, oL_first _, _, rfl, _, rfl, _, rfl, Pg, v.kvs, _, _, y, z, im, wr, rfl, hy, hz, R.ords, ?_⟩
        refine ⟨_, rfl, oa, _, dx, _, _, rfl, ho, T.clOrder, T.nOrder_second, oL_second _, _, rfl, _, rfl, _, rfl, Pg, v.kvs, _, _, y, z, im, wr, rfl, hy, hz, R.ords, ?_⟩
        refine hD _ _ ⟨?_, rfl⟩
        rw [if_pos hb, if_pos hb]
        rfl
      · refine hD _ _ ⟨?_, rfl⟩
        rw [if_neg (by simp [hb]), if_neg (by simp [hb])]
        rfl
    · rintro σ' H1 ⟨rfl, rfl⟩
      refine ⟨_, rfl, _, rfl, _, rfl, _, rfl, oa, ordAt Pg.ws q, _, _, rfl, ⟨dx, ho⟩, hk, _, rfl, (by show 3 ≤ sizeLine; decide), fun t' ht' => ?_⟩
      exact k _ _ (fun b o e => by rw [upd_ne (ne_of_none e ht')]; exact e) ⟨t', oa, rfl, upd_same, hv⟩

theorem ok_has_to_wait (T : Txt K mg c) (f : Addr) (fd : FuncData) (F : Fun K "has_to_wait" "Pipeline.has_to_wait" s_has_to_wait f fd) : FnOk P w K mg base CX0 2 f fd ps_has_to_wait_ (sp_has_to_wait c) := by
  refine F.ok sc_has_to_wait (fun vs H Q E h => ?_) (fun cdv A outer s H vs Q E hr h => ?_)
  · obtain ⟨_, _, _, _, _, _, _, _, _, _, _, _, rfl, _⟩ := h
    rfl
  · obtain ⟨p, g, v, Pg, m, n, a, q, x, y, rk, im, rfl, R, hv, hx, hy, k⟩ := h
    obtain ⟨dx, ho⟩ := R.ord hv
    refine ⟨_, (pss_cons (ps_if (pt_val (pe_fld (pv 0) rfl)) (pss_one (ps_ret (pe_and (pe_cmp (pc_notN (pv 2))) (pe_and (pe_cmpR op_eq (pe_fld (pe_ix ix_tup (pv 2) pe_int (fun _ _ => rfl)) rfl) (pe_gint T.k_LOAD rfl) (nomark _)) (pe_one (pe_mdef (pv 1) T.clOrder T.d_needs (ok_needs T) hr (pa_cons (pe_fld (pe_ix ix_tup (pv 2) pe_int (fun _ _ => rfl)) rfl) pa_nil))))))) pss_nil) (pss_cons (ps_if (PW.pt (pw_and (pt_cmp (pc_notN (pv 2))) (pw_and1 (pt_val (pe_mdef (pv 1) T.clOrder T.d_needs (ok_needs T) hr (pa_cons (pe_fld (pe_ix ix_tup (pv 2) pe_int (fun _ _ => rfl)) rfl) pa_nil)))))) (pss_one (ps_ret pe_bl)) pss_nil) (pss_one (ps_ret (pe_and (pe_cmp (pc_notN (pv 3))) (pe_one (pe_mdef (pv 1) T.clOrder T.d_needs (ok_needs T) hr (pa_cons (pe_fld (pe_ix ix_tup (pv 3) pe_int (fun _ _ => rfl)) rfl) pa_nil)))))))), ?_⟩
    walk_at "un"
    refine tIfS_by Pg.hands (fun R' r => ?_) (fun hb => ?_) (fun hb => ?_)
    · exact ⟨_, rfl, p, _, _, _, _, rfl, R.ob, T.clPipeline, T.nPipeline_hands_on, pL_hands_on _ _ _ _ _ _ _, _, rfl, r⟩
    · unfold waitF at k
      rw [if_pos hb] at k
      match rk, hx, k with
      | none, hx, k =>
        have hx : x = .non := hx
        subst hx
        exact tAndV_by false false (fun R r => ⟨_, rfl, r⟩) (fun e => by cases e) k
      | some (q1, x1, y1), ⟨t, a1, e1, ht, hv1⟩, k =>
        subst e1
        obtain ⟨dx1, ho1⟩ := R.ord hv1
        walk_at "un"
        refine tAndV_by true ((ordAt Pg.ws q1).kind == 7 && needsM (ordAt Pg.ws q) (ordAt Pg.ws q1).target) (fun R r => ⟨_, rfl, r⟩) (fun _ R r => ?_) k
        refine tAndV_by ((ordAt Pg.ws q1).kind == 7) (needsM (ordAt Pg.ws q) (ordAt Pg.ws q1).target) (fun R r => ?_) (fun _ R r => ?_) r
        · refine ⟨_, rfl, t, _, _, _, rfl, rfl, SqT.of ht, rfl, a1, _, dx1, _, _, rfl, ho1, T.clOrder, T.nOrder_kind, oL_kind _, rfl, ?_⟩
          have e := dec_nat (ordAt Pg.ws q1).kind 7
          rw [← e] at r
          exact r
        · exact ⟨_, rfl, a, dx, _, rfl, ho, oL_needs _, _, rfl, t, _, _, _, rfl, rfl, SqT.of ht, rfl, a1, _, dx1, _, _, rfl, ho1, T.clOrder, T.nOrder_target, oL_target _, a, ordAt Pg.ws q, _, rfl, ⟨dx, ho⟩, r⟩
    · unfold waitF at k
      rw [if_neg (by simp [hb])] at k
      walk_at "un"
      refine tIfS_by (wantT Pg q rk) (fun R' r => ?_) (fun hb => ?_) (fun hb => ?_)
      · match rk, hx, r with
        | none, hx, r =>
          have hx : x = .non := hx
          subst hx
          exact tAnd_by false false (fun R r => ⟨_, rfl, _, rfl, r⟩) (fun e => by cases e) r
        | some (q1, x1, y1), ⟨t, a1, e1, ht, hv1⟩, r =>
          subst e1
          obtain ⟨dx1, ho1⟩ := R.ord hv1
          refine tAnd_by true (needsM (ordAt Pg.ws q) (ordAt Pg.ws q1).target) (fun R r => ⟨_, rfl, _, rfl, r⟩) (fun _ R r => ?_) r
          exact ⟨_, rfl, a, dx, _, rfl, ho, oL_needs _, _, rfl, t, _, _, _, rfl, rfl, SqT.of ht, rfl, a1, _, dx1, _, _, rfl, ho1, T.clOrder, T.nOrder_target, oL_target _, a, ordAt Pg.ws q, _, rfl, ⟨dx, ho⟩, _, rfl, r⟩
      · rw [hb, Bool.true_or] at k
        exact k
      · rw [hb, Bool.false_or] at k
        walk_at "un"
        match im, hy, k with
        | none, hy, k =>
          have hy : y = .non := hy
          subst hy
          exact tAndV_by false false (fun R r => ⟨_, rfl, r⟩) (fun e => by cases e) k
        | some (q1, x1, y1), ⟨t, a1, e1, ht, hv1⟩, k =>
          subst e1
          obtain ⟨dx1, ho1⟩ := R.ord hv1
          refine tAndV_by true (needsM (ordAt Pg.ws q) (ordAt Pg.ws q1).target) (fun R r => ⟨_, rfl, r⟩) (fun _ R r => ?_) k
          exact ⟨_, rfl, a, dx, _, rfl, ho, oL_needs _, _, rfl, t, _, _, _, rfl, rfl, SqT.of ht, rfl, a1, _, dx1, _, _, rfl, ho1, T.clOrder, T.nOrder_target, oL_target _, a, ordAt Pg.ws q, _, rfl, ⟨dx, ho⟩, r⟩

theorem ok_order_at (T : Txt K mg c) (f : Addr) (fd : FuncData) (F : Fun K "order_at" "Pipeline.order_at" s_order_at f fd) : FnOk P w K mg base CX0 4 f fd ps_order_at_ (sp_order_at c) := by
  refine F.ok sc_order_at (fun vs H Q E h => ?_) (fun cdv A outer s H vs Q E hr h => ?_)
  · obtain ⟨_, _, _, _, _, _, _, rfl, _⟩ := h
    rfl
  · obtain ⟨p, g, v, Pg, m, n, q, rfl, R, hp, hw, k⟩ := h
    refine ⟨_, (pss_cons (ps_set (i := 2) sc_order_at.nd rfl (Or.inl rfl) (pe_dget1 (hu_of hr) (pe_fld (pv 0) rfl) (pv 1) ⟨rfl, rfl, rfl, rfl⟩)) (pss_cons (ps_if (pt_cmp (pc_isN (pv 2))) (pss_cons (ps_set (i := 2) sc_order_at.nd rfl (Or.inl rfl) (pe_idef T.d_Order_init (ok_Order_init T) hr rfl (pa_cons (pv 1) (pa_cons (pe_gint T.k_END rfl) pa_nil)))) (pss_one (ps_dput (hu_of hr) (pe_fld (pv 0) rfl) (pv 1) (pv 2) rfl))) pss_nil) (pss_one (ps_ret (pv 2))))), ?_⟩
    refine ⟨_, rfl, p, _, _, _, _, rfl, R.ob, T.clPipeline, T.nPipeline_orders, pL_orders _ _ _ _ _ _ _, g.d, rfl, .inl ⟨_, .inl R.dd⟩, _, rfl, _, DGet.k (k := Sum.inl (q : Int)) R.dd, ?_⟩
    cases e : valV v.kvs (Sum.inl (q : Int)) with
    | some y =>
      obtain ⟨q', a, e1, e2, _⟩ := R.dk.at_ _ _ e
      subst e2
      walk_at "un"
      refine tIfS_by false (fun R' r => ⟨_, rfl, _, rfl, r⟩) (fun hb => by cases hb) (fun _ => ?_)
      exact ⟨_, rfl, k H v.kvs a R (Ext.refl _) e (Fr.refl _ _ _)⟩
    | none =>
      walk_at "un"
      refine tIfS_by true (fun R' r => ⟨_, rfl, _, rfl, r⟩) (fun _ => ?_) (fun hb => by cases hb)
      have hlen : ¬ q < Pg.ws.length := fun z => by
        obtain ⟨y, hy⟩ := R.dk.has q z
        rw [e] at hy
        cases hy
      have hw12 : wordAt Pg.ws q = 12 := by
        unfold wordAt
        rw [List.getD_eq_getElem?_getD, List.getElem?_eq_none_iff.mpr (Nat.le_of_not_lt hlen)]
        rfl
      refine ⟨_, rfl, fun a dx ha hdx hne => ⟨a, dx, q, 12, rfl, upd_same, rfl, ?_⟩⟩
      have eo : mkOrd q 12 = ordAt Pg.ws q := by unfold ordAt; rw [hw12]
      rw [eo, upd_upd]
      have s1 : L2.Same H (upd (upd H dx (.own a)) a (.ins c.cOrder dx (ordF (ordAt Pg.ws q)))) := fun b o e => by
        rw [upd_ne (ne_of_none e ha), upd_ne (ne_of_none e hdx)]
        exact e
      have R1 := R.keep s1
      have hoa : OrdAt c (upd (upd H dx (.own a)) a (.ins c.cOrder dx (ordF (ordAt Pg.ws q)))) a (ordAt Pg.ws q) := ⟨dx, upd_same⟩
      refine ⟨_, rfl, _, rfl, p, _, _, _, _, rfl, R1.ob, T.clPipeline, T.nPipeline_orders, pL_orders _ _ _ _ _ _ _, _, rfl, g.d, _, rfl, DPut.k (k := Sum.inl (q : Int)) R1.dd (Nat.lt_of_le_of_lt (DictOk.few hw R1.dk) (by decide)), ?_⟩
      refine ⟨_, rfl, k _ (putK v.kvs (Sum.inl (q : Int)) (.ref a)) a ?_ (Ext.put e) (by rw [valV_put, if_pos rfl]) ((Fr.of_same s1).trans (PipAt.fr_d _))⟩
      have hd' := R1.dk.put e hoa hp
      have kt := tup_upd (o := .dK (putK v.kvs (Sum.inl (q : Int)) (.ref a))) R1.dd (by intro xs z; cases z)
      have ko := ord_upd (c := c) (o := .dK (putK v.kvs (Sum.inl (q : Int)) (.ref a))) R1.dd (by intro dx fs z; cases z)
      have ex : Ext v { v with kvs := putK v.kvs (Sum.inl (q : Int)) (.ref a) } := Ext.put e
      exact ⟨by rw [upd_ne (ne_of R1.ob R1.dd (by intro z; cases z))]; exact R1.ob, lst_upd R1.rg R1.dd (by intro xs z; cases z), lst_upd R1.mm R1.dd (by intro xs z; cases z), lst_upd R1.gg R1.dd (by intro xs z; cases z), upd_same, R1.n1, R1.n2, R1.n3, hd'.keep ko, R1.rd.ext ex, (R1.rk.keep kt).ext ex, (R1.im.keep kt).ext ex, (R1.wr.keep kt).ext ex⟩
end
end Fs

set_option Elab.async false
set_option linter.all false
set_option maxRecDepth 100000
namespace Fs
open PySem L2
local macro_rules | `(tactic| walk_at "un") => `(tactic| try dsimp only [tSeq, tNext, tAsg, gName, sFld, sFldAug, tRet, tDrop])

def vN : Option Nat → V
  | none => .non
  | some k => .int (k : Int)
def rpF (P : Pg) (q z : Nat) : Nat := if z = 1 then (ordAt P.ws q).aim else (ordAt P.ws q).following
def fpF (m : MS) : Nat := match m.rd with | some q' => q' | none => m.place
def rightF (P : Pg) (m : MS) (q z : Nat) : Option Nat := if (ordAt P.ws q).branches = true then (if rpF P q z = fpF m then none else some (rpF P q z)) else none
def sp_place_if_wrong (c : Cl) : Sp := fun vs H Q _ => ∃ (p : Addr) (g : Ge) (v : Va) (P : Pg) (m : MS) (n : Cnt) (x : V) (q z y : Nat), vs = [.ref p, x] ∧ PipAt c H p g v P m n ∧ VT3 H v.kvs x (some (q, z, y)) ∧ Q (vN (rightF P m q z)) H
def sp_is_guessed_to_go (c : Cl) : Sp := fun vs H Q _ => ∃ (p : Addr) (g : Ge) (v : Va) (P : Pg) (m : MS) (n : Cnt) (a : Addr) (q : Nat), vs = [.ref p, .ref a] ∧ PipAt c H p g v P m n ∧ m.guess.length = 16 ∧ valV v.kvs (Sum.inl (q : Int)) = some (.ref a) ∧
  Q (.bl (P.gs && decide (2 ≤ m.guess.getD (ordAt P.ws q).guessAt 0))) H
def sp_fetch (c : Cl) : Sp := fun vs H Q _ => ∃ (p : Addr) (g : Ge) (v : Va) (P : Pg) (m : MS) (n : Cnt), vs = [.ref p] ∧ PipAt c H p g v P m n ∧ m.guess.length = 16 ∧ PlOk P.ws m.place ∧ P.ws.length ≤ 1024 ∧
  ∀ (H' : Hp) (kvs : List (Key × V)) (a : Addr), PipAt c H' p g { v with kvs := kvs } P { m with fetches := (ordAt P.ws m.place).kind != 12, place := if goesM P m = true then (ordAt P.ws m.place).aim else (ordAt P.ws m.place).following } n →
    Ext v { v with kvs := kvs } → valV kvs (Sum.inl (m.place : Int)) = some (.ref a) → Fr g p H H' → Q (.ref a) H'

section
variable {P : Program} {w : World} {K : PySem.W.Frag} {mg : Str → Option Value} {base : Heap} {c : Cl}

theorem ok_place_if_wrong (T : Txt K mg c) (f : Addr) (fd : FuncData) (F : Fun K "place_if_wrong" "Pipeline.place_if_wrong" s_place_if_wrong f fd) : FnOk P w K mg base CX0 1 f fd ps_place_if_wrong_ (sp_place_if_wrong c) := by
  refine F.ok sc_place_if_wrong (fun vs H Q E h => ?_) (fun cdv A outer s H vs Q E hr h => ?_)
  · obtain ⟨_, _, _, _, _, _, _, _, _, _, rfl, _⟩ := h
    rfl
  · obtain ⟨p, g, v, Pg, m, n, x, q, z, y, rfl, R, ⟨t, a, rfl, ht, hv⟩, k⟩ := h
    obtain ⟨dx, ho⟩ := R.ord hv
    refine ⟨_, (pss_cons (ps_set (i := 2) sc_place_if_wrong.nd rfl (Or.inl rfl) (pe_ix ix_tup (pv 1) pe_int (fun _ _ => rfl))) (pss_cons (ps_if (pt_not (pt_val (pe_fld (pv 2) rfl))) (pss_one (ps_ret pe_non)) pss_nil) (pss_cons (ps_set (i := 3) sc_place_if_wrong.nd rfl (Or.inl rfl) (pe_ifExp (pt_cmpR op_eq (pe_ix ix_tup (pv 1) pe_int (fun _ _ => rfl)) pe_int (nomark _)) (pe_fld (pv 2) rfl) (pe_fld (pv 2) rfl))) (pss_cons (ps_set (i := 4) sc_place_if_wrong.nd rfl (Or.inl rfl) (pe_ifExp (pt_cmp (pc_isN (pe_fld (pv 0) rfl))) (pe_fld (pv 0) rfl) (pe_fld (pe_fld (pv 0) rfl) rfl))) (pss_one (ps_ret (pe_ifExp (pt_cmpR op_eq (pv 3) (pv 4) (nomark _)) pe_non (pv 3)))))))), ?_⟩
    refine ⟨_, rfl, t, _, _, _, rfl, rfl, SqT.of ht, rfl, ?_⟩
    walk_at "un"
    refine tIfS_by (!(ordAt Pg.ws q).branches) (fun R' r => ?_) (fun hb => ?_) (fun hb => ?_)
    · exact ⟨_, rfl, a, _, dx, _, _, rfl, ho, T.clOrder, T.nOrder_branches, oL_branches _, _, rfl, r⟩
    · have hb' : (ordAt Pg.ws q).branches = false := by simpa using hb
      have e : rightF Pg m q z = none := by unfold rightF; rw [if_neg (by simp [hb'])]
      rw [e] at k
      exact k
    · have hb' : (ordAt Pg.ws q).branches = true := by simpa using hb
      have e : rightF Pg m q z = if rpF Pg q z = fpF m then none else some (rpF Pg q z) := by unfold rightF; rw [if_pos hb']
      rw [e] at k
      walk_at "un"
      refine tIf_by (z == 1) (.int ((rpF Pg q z : Nat) : Int)) (fun R' r => ?_) (fun hc R' r => ?_) (fun hc R' r => ?_) ?_
      · refine ⟨_, rfl, t, _, _, _, rfl, rfl, SqT.of ht, rfl, rfl, _, rfl, ?_⟩
        have e := dec_nat z 1
        rw [← e] at r
        exact r
      · refine ⟨_, rfl, a, _, dx, _, _, rfl, ho, T.clOrder, T.nOrder_aim, oL_aim _, ?_⟩
        unfold rpF at r
        rw [if_pos (eq_of_beq hc)] at r
        exact r
      · refine ⟨_, rfl, a, _, dx, _, _, rfl, ho, T.clOrder, T.nOrder_following, oL_following _, ?_⟩
        have hz : ¬ z = 1 := by simpa using hc
        unfold rpF at r
        rw [if_neg hz] at r
        exact r
      walk_at "un"
      refine tIf_by (decide (v.rd = .non)) (.int ((fpF m : Nat) : Int)) (fun R' r => ?_) (fun hc R' r => ?_) (fun hc R' r => ?_) ?_
      · exact ⟨_, rfl, p, _, _, _, _, rfl, R.ob, T.clPipeline, T.nPipeline_to_read, pL_to_read _ _ _ _ _ _ _, _, rfl, r⟩
      · have e := of_decide_eq_true hc
        have hrd := R.rd
        unfold fpF at r
        cases hm : m.rd with
        | none =>
          rw [hm] at r
          exact ⟨_, rfl, p, _, _, _, _, rfl, R.ob, T.clPipeline, T.nPipeline_place, pL_place _ _ _ _ _ _ _, r⟩
        | some q' =>
          rw [hm] at hrd
          obtain ⟨a', e1, _⟩ := hrd
          rw [e1] at e
          cases e
      · have e := of_decide_eq_false hc
        have hrd := R.rd
        unfold fpF at r
        cases hm : m.rd with
        | none => rw [hm] at hrd; exact absurd hrd e
        | some q' =>
          rw [hm] at hrd r
          obtain ⟨a', e1, hv'⟩ := hrd
          obtain ⟨dx', ho'⟩ := R.ord hv'
          exact ⟨_, rfl, p, _, _, _, _, rfl, R.ob, T.clPipeline, T.nPipeline_to_read, pL_to_read _ _ _ _ _ _ _, a', _, dx', _, _, e1, ho', T.clOrder, T.nOrder_place, oL_place _, r⟩
      walk_at "un"
      refine tIf_by (rpF Pg q z == fpF m) (vN (if rpF Pg q z = fpF m then none else some (rpF Pg q z))) (fun R' r => ?_) (fun hc R' r => ?_) (fun hc R' r => ?_) k
      · refine ⟨_, rfl, _, rfl, rfl, _, rfl, ?_⟩
        rw [← dec_nat] at r
        exact r
      · rw [if_pos (eq_of_beq hc)] at r
        exact r
      · have hne : ¬ rpF Pg q z = fpF m := by simpa using hc
        rw [if_neg hne] at r
        exact ⟨_, rfl, r⟩

theorem dec_le2 (x : Nat) : decide ((2 : Int) ≤ ((x : Nat) : Int)) = decide (2 ≤ x) := decide_eq_decide.mpr (by omega)
theorem ok_is_guessed_to_go (T : Txt K mg c) (f : Addr) (fd : FuncData) (F : Fun K "is_guessed_to_go" "Pipeline.is_guessed_to_go" s_is_guessed_to_go f fd) : FnOk P w K mg base CX0 1 f fd ps_is_guessed_to_go_ (sp_is_guessed_to_go c) := by
  refine F.ok sc_is_guessed_to_go (fun vs H Q E h => ?_) (fun cdv A outer s H vs Q E hr h => ?_)
  · obtain ⟨_, _, _, _, _, _, _, _, rfl, _⟩ := h
    rfl
  · obtain ⟨p, g, v, Pg, m, n, a, q, rfl, R, hl, hv, k⟩ := h
    obtain ⟨dx, ho⟩ := R.ord hv
    have hi : (ordAt Pg.ws q).guessAt < m.guess.length := by rw [hl]; exact ga_lt _ _
    refine ⟨_, (pss_one (ps_ret (pe_and (pe_fld (pv 0) rfl) (pe_one (pe_cmpR op_ge (pe_ix ix_list (pe_fld (pv 0) rfl) (pe_fld (pv 1) rfl) (fun _ _ => rfl)) pe_int (nomark _)))))), ?_⟩
    walk_at "un"
    refine tAndV_by Pg.gs (decide (2 ≤ m.guess.getD (ordAt Pg.ws q).guessAt 0)) (fun R' r => ?_) (fun _ R' r => ?_) k
    · exact ⟨_, rfl, p, _, _, _, _, rfl, R.ob, T.clPipeline, T.nPipeline_guesses_goings, pL_guesses_goings _ _ _ _ _ _ _, r⟩
    · refine ⟨_, rfl, p, _, _, _, _, rfl, R.ob, T.clPipeline, T.nPipeline_guesses, pL_guesses _ _ _ _ _ _ _, _, rfl, a, _, dx, _, _, rfl, ho, T.clOrder, T.nOrder_guess_at, oL_guess_at _, g.lg, _, _, _, rfl, rfl, SqL.of R.gg, atI_nat (lint_getD hi), _, _, rfl, rfl, ?_⟩
      rw [← dec_le2] at r
      exact r

theorem ok_fetch (T : Txt K mg c) (f : Addr) (fd : FuncData) (F : Fun K "fetch" "Pipeline.fetch" s_fetch f fd) : FnOk P w K mg base CX0 5 f fd ps_fetch_ (sp_fetch c) := by
  refine F.ok sc_fetch (fun vs H Q E h => ?_) (fun cdv A outer s H vs Q E hr h => ?_)
  · obtain ⟨_, _, _, _, _, _, rfl, _⟩ := h
    rfl
  · obtain ⟨p, g, v, Pg, m, n, rfl, R, hl, hp, hw, k⟩ := h
    refine ⟨_, (pss_cons (ps_set (i := 1) sc_fetch.nd rfl (Or.inl rfl) (pe_mdef (pv 0) T.clPipeline T.d_order_at (ok_order_at T) hr (pa_cons (pe_fld (pv 0) rfl) pa_nil))) (pss_cons (ps_fld (pv 0) (pe_cmpR op_ne (pe_fld (pv 1) rfl) (pe_gint T.k_END rfl) (nomark _)) rfl) (pss_cons (ps_set (i := 2) sc_fetch.nd rfl (Or.inl rfl) (pe_or (pe_cmpR op_eq (pe_fld (pv 1) rfl) (pe_gint T.k_JUMP rfl) (nomark _)) (pe_one (pe_and (pe_fld (pv 1) rfl) (pe_one (pe_mdef (pv 0) T.clPipeline T.d_is_guessed_to_go (ok_is_guessed_to_go T) hr (pa_cons (pv 1) pa_nil))))))) (pss_cons (ps_fld (pv 0) (pe_ifExp (pt_val (pv 2)) (pe_fld (pv 1) rfl) (pe_fld (pv 1) rfl)) rfl) (pss_one (ps_ret (pv 1))))))), ?_⟩
    refine ⟨_, rfl, p, _, _, rfl, R.ob, pN_order_at _ _ _ _ _ _ _, _, rfl, p, _, _, _, _, rfl, R.ob, T.clPipeline, T.nPipeline_place, pL_place _ _ _ _ _ _ _, p, g, v, Pg, m, n, m.place, rfl, R, hp, hw, fun H1 kvs a R1 ex hv f1 => ?_⟩
    obtain ⟨dx, ho⟩ := R1.ord hv
    -- fetches
    refine ⟨_, rfl, a, _, dx, _, _, rfl, ho, T.clOrder, T.nOrder_kind, oL_kind _, rfl, _, rfl, p, _, _, _, rfl, R1.ob, T.clPipeline, T.nPipeline_fetches, pF_len _ _ _ _ _ _ _, ?_⟩
    have e12 : (!decide (V.int (((ordAt Pg.ws m.place).kind : Nat) : Int) = V.int 12)) = ((ordAt Pg.ws m.place).kind != 12) := by
      have e := dec_nat (ordAt Pg.ws m.place).kind 12
      show (!decide (V.int (((ordAt Pg.ws m.place).kind : Nat) : Int) = V.int ((12 : Nat) : Int))) = !((ordAt Pg.ws m.place).kind == 12)
      rw [e]
    rw [e12, pP_fetches]
    have R2 := R1.fld T.neOrderPipeline { v with kvs := kvs } { m with fetches := (ordAt Pg.ws m.place).kind != 12 } n rfl rfl rfl rfl R1.rd R1.rk R1.im R1.wr
    have f2 : Fr g p H1 (upd H1 p (.ins c.cPipeline g.dx (pipF Pg g { v with kvs := kvs } m.place ((ordAt Pg.ws m.place).kind != 12) m.ended n))) := PipAt.fr_p _
    generalize upd H1 p (.ins c.cPipeline g.dx (pipF Pg g { v with kvs := kvs } m.place ((ordAt Pg.ws m.place).kind != 12) m.ended n)) = H2 at R2 f2 ⊢
    obtain ⟨dx2, ho2⟩ := R2.ord hv
    -- goes
    walk_at "un"
    refine tOrV_by ((ordAt Pg.ws m.place).kind == 11) ((ordAt Pg.ws m.place).branches && (Pg.gs && decide (2 ≤ m.guess.getD (ordAt Pg.ws m.place).guessAt 0))) (fun R' r => ?_) (fun _ R' r => ?_) ?_
    · refine ⟨_, rfl, a, _, dx2, _, _, rfl, ho2, T.clOrder, T.nOrder_kind, oL_kind _, rfl, ?_⟩
      have e := dec_nat (ordAt Pg.ws m.place).kind 11
      rw [← e] at r
      exact r
    · refine tAndV_by (ordAt Pg.ws m.place).branches (Pg.gs && decide (2 ≤ m.guess.getD (ordAt Pg.ws m.place).guessAt 0)) (fun R' r => ?_) (fun _ R' r => ?_) r
      · exact ⟨_, rfl, a, _, dx2, _, _, rfl, ho2, T.clOrder, T.nOrder_branches, oL_branches _, r⟩
      · exact ⟨_, rfl, p, _, _, rfl, R2.ob, pN_is_guessed_to_go _ _ _ _ _ _ _, _, rfl, p, g, { v with kvs := kvs }, Pg, { m with fetches := (ordAt Pg.ws m.place).kind != 12 }, n, a, m.place, rfl, R2, hl, hv, r⟩
    -- place
    walk_at "un"
    refine tIf_by (goesM Pg m) (.int ((if goesM Pg m = true then (ordAt Pg.ws m.place).aim else (ordAt Pg.ws m.place).following : Nat) : Int)) (fun R' r => ?_) (fun hb R' r => ?_) (fun hb R' r => ?_) ?_
    · exact ⟨_, rfl, _, rfl, r⟩
    · refine ⟨_, rfl, a, _, dx2, _, _, rfl, ho2, T.clOrder, T.nOrder_aim, oL_aim _, ?_⟩
      rw [if_pos hb] at r
      exact r
    · refine ⟨_, rfl, a, _, dx2, _, _, rfl, ho2, T.clOrder, T.nOrder_following, oL_following _, ?_⟩
      rw [if_neg (by simp [hb])] at r
      exact r
    refine ⟨_, rfl, p, _, _, _, rfl, R2.ob, T.clPipeline, T.nPipeline_place, pF_len _ _ _ _ _ _ _, ?_⟩
    rw [pP_place]
    have R3 := R2.fld T.neOrderPipeline { v with kvs := kvs } { m with fetches := (ordAt Pg.ws m.place).kind != 12, place := if goesM Pg m = true then (ordAt Pg.ws m.place).aim else (ordAt Pg.ws m.place).following } n rfl rfl rfl rfl R2.rd R2.rk R2.im R2.wr
    exact ⟨_, rfl, k _ kvs a R3 ex hv (f1.trans (f2.trans (PipAt.fr_p _)))⟩
end
end Fs

set_option Elab.async false
set_option linter.all false
set_option maxRecDepth 100000
namespace Fs
open PySem L2
local macro_rules | `(tactic| walk_at "un") => `(tactic| try dsimp only [tSeq, tNext, tAsg, gName, sFld, sFldAug, tRet, tDrop])

theorem end_by {t : TS} {D : Ends} {σ : St} {H : Hp} (R : St → Hp → Prop) (h1 : ∀ D : Ends, (∀ σ' H', R σ' H' → D.nx σ' H') → t D σ H) (h2 : ∀ σ' H', R σ' H' → D.nx σ' H') : t D σ H := h1 D h2
theorem tIf_go {c : TT} {ta tb : TE} {σ : St} {H : Hp} {Q : VK} (b : Bool) (hc : ∀ R : Bool → Hp → Prop, R b H → c σ H R) (ht : b = true → ta σ H Q) (hf : b = false → tb σ H Q) : tIf c ta tb σ H Q := by
  refine hc _ ?_
  cases b with
  | true => rw [if_pos rfl]; exact ht rfl
  | false => rw [if_neg Bool.false_ne_true]; exact hf rfl

def rkM (P : Pg) (m : MS) : Option (Nat × Nat × Nat) := match m.rd with
  | some q => some (q, (regsM P m).getD (ordAt P.ws q).first 0, (regsM P m).getD (ordAt P.ws q).second 0)
  | none => none
/-- a cycle but for what is learned -/
def stepN (P : Pg) (m : MS) : MS :=
  match rightM P m with
  | some rp => { m with regs := regsM P m, ended := endM P m, wr := wrM P m, mem := memM P m, im := imM P m, rd := none, rk := none, place := rp, fetches := true }
  | none =>
    if waitM P m = true then { m with regs := regsM P m, ended := endM P m, wr := wrM P m, mem := memM P m, im := imM P m, rk := none }
    else if m.fetches = true then
      { m with regs := regsM P m, ended := endM P m, wr := wrM P m, mem := memM P m, im := imM P m,
               rk := rkM P m, rd := some m.place,
               fetches := (ordAt P.ws m.place).kind != 12, place := if goesM P m = true then (ordAt P.ws m.place).aim else (ordAt P.ws m.place).following }
    else { m with regs := regsM P m, ended := endM P m, wr := wrM P m, mem := memM P m, im := imM P m,
                  rk := rkM P m, rd := none }
theorem stepM_eq (P : Pg) (m : MS) : stepM P m = { stepN P m with guess := guessM P m } := by
  unfold stepM stepN
  cases rightM P m with
  | some rp => rfl
  | none =>
    dsimp only
    by_cases h1 : waitM P m = true
    · rw [if_pos h1, if_pos h1]
    · rw [if_neg h1, if_neg h1]
      by_cases h2 : m.fetches = true
      · rw [if_pos h2, if_pos h2]
        unfold rkM
        cases m.rd <;> rfl
      · rw [if_neg h2, if_neg h2]
        unfold rkM
        cases m.rd <;> rfl
theorem stepN_im (P : Pg) (m : MS) : (stepN P m).im = imM P m := by
  unfold stepN
  cases rightM P m with
  | some rp => rfl
  | none => dsimp only; split; rfl; split <;> rfl
theorem stepN_guess (P : Pg) (m : MS) : (stepN P m).guess = m.guess := by
  unfold stepN
  cases rightM P m with
  | some rp => rfl
  | none => dsimp only; split; rfl; split <;> rfl
section
variable {P : Pg} {m : MS} {q z y : Nat}
theorem regsM_some (h : m.wr = some (q, z)) : regsM P m = if (ordAt P.ws q).target ≠ 0 then m.regs.set (ordAt P.ws q).target z else m.regs := by unfold regsM; rw [h]
theorem regsM_none (h : m.wr = none) : regsM P m = m.regs := by unfold regsM; rw [h]
theorem endM_some (h : m.wr = some (q, z)) : endM P m = if (ordAt P.ws q).kind = 12 then true else m.ended := by unfold endM; rw [h]
theorem endM_none (h : m.wr = none) : endM P m = m.ended := by unfold endM; rw [h]
theorem doneM_some (h : m.wr = some (q, z)) : doneM P m = if (ordAt P.ws q).kind = 12 then 0 else 1 := by unfold doneM; rw [h]
theorem doneM_none (h : m.wr = none) : doneM P m = 0 := by unfold doneM; rw [h]
theorem wrM_some (h : m.im = some (q, z, y)) : wrM P m = some (q, if (ordAt P.ws q).kind = 7 then m.mem.getD (z % 1024) 0 else z) := by unfold wrM; rw [h]
theorem wrM_none (h : m.im = none) : wrM P m = none := by unfold wrM; rw [h]
theorem memM_some (h : m.im = some (q, z, y)) : memM P m = if (ordAt P.ws q).kind = 8 then m.mem.set (z % 1024) y else m.mem := by unfold memM; rw [h]
theorem memM_none (h : m.im = none) : memM P m = m.mem := by unfold memM; rw [h]
theorem imM_some (h : m.rk = some (q, z, y)) : imM P m = some (reckM P P.hands m q z y) := by unfold imM; rw [h]
theorem imM_none (h : m.rk = none) : imM P m = none := by unfold imM; rw [h]
theorem rightM_im {r : Nat × Nat × Nat} (h : imM P m = some r) : rightM P m = rightF P m r.1 r.2.1 := by
  unfold rightM; rw [h]; rfl
theorem rightM_none (h : imM P m = none) : rightM P m = none := by unfold rightM; rw [h]
theorem guessM_im {r : Nat × Nat × Nat} (h : imM P m = some r) : guessM P m = if (ordAt P.ws r.1).branches = true then m.guess.set (ordAt P.ws r.1).guessAt (if r.2.1 = 1 then min 3 (m.guess.getD (ordAt P.ws r.1).guessAt 0 + 1) else m.guess.getD (ordAt P.ws r.1).guessAt 0 - 1) else m.guess := by
  unfold guessM; rw [h]
theorem guessM_none (h : imM P m = none) : guessM P m = m.guess := by unfold guessM; rw [h]
theorem rkM_some (h : m.rd = some q) : rkM P m = some (q, (regsM P m).getD (ordAt P.ws q).first 0, (regsM P m).getD (ordAt P.ws q).second 0) := by unfold rkM; rw [h]
theorem rkM_none (h : m.rd = none) : rkM P m = none := by unfold rkM; rw [h]
theorem waitM_some (h : m.rd = some q) : waitM P m = waitF P q m.rk m.im := by
  unfold waitM waitF wantL wantT; rw [h]
  first | done | rfl
theorem waitM_none (h : m.rd = none) : waitM P m = false := by unfold waitM; rw [h]
end
/-- tuples stay -/
theorem PipAt.tupK {c : Cl} {H H' : Hp} {p : Addr} {g : Ge} {v : Va} {P : Pg} {m : MS} {n : Cnt} (R : PipAt c H p g v P m n) (f : Fr g p H H') : ∀ t xs, H t = some (.tup xs) → H' t = some (.tup xs) := fun t xs e =>
  f t _ e (ne_of e R.ob (by intro z; cases z)) (ne_of e R.dd (by intro z; cases z)) (ne_of e R.rg (by intro z; cases z)) (ne_of e R.mm (by intro z; cases z)) (ne_of e R.gg (by intro z; cases z))
theorem kind_le {ws : List Nat} (h : OkW ws) (q : Nat) : (ordAt ws q).kind ≤ 12 := (wordAt_ok h q).2

def sp_cycle (c : Cl) : Sp := fun vs H Q _ => ∃ (p : Addr) (g : Ge) (v : Va) (P : Pg) (m : MS) (n : Cnt), vs = [.ref p] ∧ PipAt c H p g v P m n ∧ Live P m ∧ OkW P.ws ∧ P.ws.length ≤ 1024 ∧
  ∀ (H' : Hp) (v' : Va), PipAt c H' p g v' P (stepM P m) (cntM P m n) → Ext v v' → Fr g p H H' → Q .non H'

section
variable {P : Program} {w : World} {K : PySem.W.Frag} {mg : Str → Option Value} {base : Heap} {c : Cl}

theorem ok_cycle (T : Txt K mg c) (f : Addr) (fd : FuncData) (F : Fun K "cycle" "Pipeline.cycle" s_cycle f fd) : FnOk P w K mg base CX0 6 f fd ps_cycle_ (sp_cycle c) := by
  refine F.ok sc_cycle (fun vs H Q E h => ?_) (fun cdv A outer s H vs Q E hr h => ?_)
  · obtain ⟨_, _, _, _, _, _, rfl, _⟩ := h
    rfl
  · obtain ⟨p, g, v, Pg, m, n, rfl, R, L, hO, hw, k⟩ := h
    have hG := L.good
    refine ⟨_, (pss_cons (ps_set (i := 1) sc_cycle.nd rfl (Or.inl rfl) (pe_fld (pv 0) rfl)) (pss_cons (ps_set (i := 2) sc_cycle.nd rfl (Or.inl rfl) (pe_fld (pv 0) rfl)) (pss_cons (ps_set (i := 3) sc_cycle.nd rfl (Or.inl rfl) (pe_fld (pv 0) rfl)) (pss_cons (ps_set (i := 4) sc_cycle.nd rfl (Or.inl rfl) (pe_fld (pv 0) rfl)) (pss_cons (ps_fldaug (pv 0) pe_int in_add) (pss_cons (ps_if (pt_cmp (pc_notN (pv 1))) (pss_one (ps_expr (pe_mdef (pv 0) T.clPipeline T.d_write (ok_write T) hr (pa_cons (pv 1) pa_nil)))) pss_nil) (pss_cons (ps_fld (pv 0) (pe_ifExp (pt_cmp (pc_isN (pv 2))) pe_non (pe_mdef (pv 0) T.clPipeline T.d_use_memory (ok_use_memory T) hr (pa_cons (pv 2) pa_nil))) rfl) (pss_cons (ps_fld (pv 0) (pe_ifExp (pt_cmp (pc_isN (pv 3))) pe_non (pe_mdef (pv 0) T.clPipeline T.d_reckon (ok_reckon T) hr (pa_cons (pv 3) (pa_cons (pv 2) (pa_cons (pv 1) pa_nil))))) rfl) (pss_cons (ps_set (i := 5) sc_cycle.nd rfl (Or.inl rfl) (pe_ifExp (pt_cmp (pc_isN (pv 3))) pe_non (pe_mdef (pv 0) T.clPipeline T.d_place_if_wrong (ok_place_if_wrong T) hr (pa_cons (pe_fld (pv 0) rfl) pa_nil)))) (pss_cons (ps_if (pt_cmp (pc_notN (pv 5))) (pss_one (ps_expr (pe_mdef (pv 0) T.clPipeline T.d_lose_guessed (ok_lose_guessed T) hr (pa_cons (pv 5) pa_nil)))) (pss_one (ps_if (PW.pt (pw_and (pt_cmp (pc_notN (pv 4))) (pw_and1 (pt_val (pe_mdef (pv 0) T.clPipeline T.d_has_to_wait (ok_has_to_wait T) hr (pa_cons (pv 4) (pa_cons (pv 3) (pa_cons (pv 2) pa_nil)))))))) (pss_cons (ps_fldaug (pv 0) pe_int in_add) (pss_one (ps_fld (pv 0) pe_non rfl))) (pss_cons (ps_fld (pv 0) (pe_ifExp (pt_cmp (pc_isN (pv 4))) pe_non (pe_mdef (pv 0) T.clPipeline T.d_read_registers (ok_read_registers T) hr (pa_cons (pv 4) pa_nil))) rfl) (pss_one (ps_fld (pv 0) (pe_ifExp (pt_val (pe_fld (pv 0) rfl)) (pe_mdef0 (pv 0) T.clPipeline T.d_fetch (ok_fetch T) hr) pe_non) rfl)))))) (pss_one (ps_if (PW.pt (pw_and (pt_cmp (pc_notN (pv 3))) (pw_and1 (pt_val (pe_fld (pe_ix ix_tup (pv 3) pe_int (fun _ _ => rfl)) rfl))))) (pss_one (ps_expr (pe_mdef (pv 0) T.clPipeline T.d_learn (ok_learn T) hr (pa_cons (pe_fld (pv 0) rfl) pa_nil)))) pss_nil)))))))))))), ?_⟩
    refine ⟨_, rfl, p, _, _, _, _, rfl, R.ob, T.clPipeline, T.nPipeline_to_write, pL_to_write _ _ _ _ _ _ _, ?_⟩
    refine ⟨_, rfl, p, _, _, _, _, rfl, R.ob, T.clPipeline, T.nPipeline_in_memory, pL_in_memory _ _ _ _ _ _ _, ?_⟩
    refine ⟨_, rfl, p, _, _, _, _, rfl, R.ob, T.clPipeline, T.nPipeline_to_reckon, pL_to_reckon _ _ _ _ _ _ _, ?_⟩
    refine ⟨_, rfl, p, _, _, _, _, rfl, R.ob, T.clPipeline, T.nPipeline_to_read, pL_to_read _ _ _ _ _ _ _, ?_⟩
    refine ⟨_, rfl, p, _, _, _, _, rfl, R.ob, T.clPipeline, T.nPipeline_cycles, pL_cycles _ _ _ _ _ _ _, _, _, rfl, rfl, _, _, R.ob, pF_len _ _ _ _ _ _ _, ?_⟩
    rw [show V.int ((n.cycles : Int) + 1) = V.int ((n.cycles + 1 : Nat) : Int) from rfl, pP_cycles]
    have R1 := R.fld T.neOrderPipeline v m { n with cycles := n.cycles + 1 } rfl rfl rfl rfl R.rd R.rk R.im R.wr
    have f1 : Fr g p H (upd H p (.ins c.cPipeline g.dx (pipF Pg g v m.place m.fetches m.ended { n with cycles := n.cycles + 1 }))) := PipAt.fr_p _
    generalize upd H p (.ins c.cPipeline g.dx (pipF Pg g v m.place m.fetches m.ended { n with cycles := n.cycles + 1 })) = H1 at R1 f1 ⊢
    -- write
    try dsimp only
    refine seq_by (fun σ' H2 => σ' = [some (.ref p), some v.wr, some v.im, some v.rk, some v.rd, none] ∧ PipAt c H2 p g v Pg { m with regs := regsM Pg m, ended := endM Pg m } { n with cycles := n.cycles + 1, done := n.done + doneM Pg m } ∧ Fr g p H H2) (fun D hD => ?_) ?_
    · walk_at "un"
      cases hwr : m.wr with
      | none =>
        have hv : v.wr = .non := by have h := R1.wr; rw [hwr] at h; exact h
        refine tIfS_by false (fun R' r => ⟨_, rfl, _, rfl, by rw [hv, nn_non]; exact r⟩) (fun z => by cases z) (fun _ => ?_)
        refine hD _ _ ⟨rfl, ?_, f1⟩
        rw [regsM_none hwr, endM_none hwr, doneM_none hwr]
        exact R1
      | some r =>
        obtain ⟨q, z⟩ := r
        have hv0 : VT2 H1 v.kvs v.wr (some (q, z)) := by have h := R1.wr; rw [hwr] at h; exact h
        obtain ⟨t, a, hv, ht, hvv⟩ := id hv0
        refine tIfS_by true (fun R' r => ⟨_, rfl, _, rfl, by rw [hv, nn_ref]; exact r⟩) (fun _ => ?_) (fun z => by cases z)
        refine ⟨_, rfl, p, _, _, rfl, R1.ob, pN_write _ _ _ _ _ _ _, _, rfl, p, g, v, Pg, m, { n with cycles := n.cycles + 1 }, v.wr, q, z, rfl, R1, hv0, hG.regs, fun H2 R2 f2 => ?_⟩
        refine hD _ _ ⟨rfl, ?_, f1.trans f2⟩
        rw [regsM_some hwr, endM_some hwr, doneM_some hwr]
        exact R2
    rintro σ' H2 ⟨rfl, R2, f2⟩
    -- memory
    try dsimp only
    refine seq_by (fun σ' H3 => σ' = [some (.ref p), some v.wr, some v.im, some v.rk, some v.rd, none] ∧ (∃ x2, PipAt c H3 p g { v with wr := x2 } Pg { m with regs := regsM Pg m, ended := endM Pg m, wr := wrM Pg m, mem := memM Pg m } { n with cycles := n.cycles + 1, done := n.done + doneM Pg m }) ∧ Fr g p H H3) (fun D hD => ?_) ?_
    · walk_at "un"
      cases him : m.im with
      | none =>
        have hv : v.im = .non := by have h : VT3 H2 v.kvs v.im m.im := R2.im; rw [him] at h; exact h
        refine tIf_go true (fun R' r => ⟨_, rfl, _, rfl, by rw [hv, decide_eq_true rfl]; exact r⟩) (fun _ => ?_) (fun z => by cases z)
        refine ⟨_, rfl, p, _, _, _, rfl, R2.ob, T.clPipeline, T.nPipeline_to_write, pF_len _ _ _ _ _ _ _, ?_⟩
        rw [pP_to_write]
        refine hD _ _ ⟨rfl, ⟨.non, ?_⟩, f2.trans (PipAt.fr_p _)⟩
        rw [wrM_none him, memM_none him]
        exact R2.fld T.neOrderPipeline { v with wr := .non } { m with regs := regsM Pg m, ended := endM Pg m, wr := none } _ rfl rfl rfl rfl R2.rd R2.rk R2.im rfl
      | some r =>
        obtain ⟨q, z, y⟩ := r
        have hv0 : VT3 H2 v.kvs v.im (some (q, z, y)) := by have h : VT3 H2 v.kvs v.im m.im := R2.im; rw [him] at h; exact h
        obtain ⟨t, a, hv, ht, hvv⟩ := id hv0
        refine tIf_go false (fun R' r => ⟨_, rfl, _, rfl, by rw [hv, decide_eq_false (by intro z; cases z)]; exact r⟩) (fun z => by cases z) (fun _ => ?_)
        refine ⟨_, rfl, p, _, _, rfl, R2.ob, pN_use_memory _ _ _ _ _ _ _, _, rfl, p, g, v, Pg, _, _, v.im, q, z, y, rfl, R2, hv0, hG.mem, fun H3 x2 R3 hx f3 => ?_⟩
        refine ⟨_, rfl, p, _, _, _, rfl, R3.ob, T.clPipeline, T.nPipeline_to_write, pF_len _ _ _ _ _ _ _, ?_⟩
        rw [pP_to_write]
        refine hD _ _ ⟨rfl, ⟨x2, ?_⟩, f2.trans (f3.trans (PipAt.fr_p _))⟩
        rw [wrM_some him, memM_some him]
        exact R3.fld T.neOrderPipeline { v with wr := x2 } { m with regs := regsM Pg m, ended := endM Pg m, mem := if (ordAt Pg.ws q).kind = 8 then m.mem.set (z % 1024) y else m.mem, wr := some (q, if (ordAt Pg.ws q).kind = 7 then m.mem.getD (z % 1024) 0 else z) } _ rfl rfl rfl rfl R3.rd R3.rk R3.im hx
    rintro σ' H3 ⟨rfl, ⟨x2, R3⟩, f3⟩
    -- reckon
    try dsimp only
    refine seq_by (fun σ' H4 => σ' = [some (.ref p), some v.wr, some v.im, some v.rk, some v.rd, none] ∧ (∃ x3, PipAt c H4 p g { v with wr := x2, im := x3 } Pg { m with regs := regsM Pg m, ended := endM Pg m, wr := wrM Pg m, mem := memM Pg m, im := imM Pg m } { n with cycles := n.cycles + 1, done := n.done + doneM Pg m }) ∧ Fr g p H H4) (fun D hD => ?_) ?_
    · walk_at "un"
      cases hrk : m.rk with
      | none =>
        have hv : v.rk = .non := by have h : VT3 H3 v.kvs v.rk m.rk := R3.rk; rw [hrk] at h; exact h
        refine tIf_go true (fun R' r => ⟨_, rfl, _, rfl, by rw [hv, decide_eq_true rfl]; exact r⟩) (fun _ => ?_) (fun z => by cases z)
        refine ⟨_, rfl, p, _, _, _, rfl, R3.ob, T.clPipeline, T.nPipeline_in_memory, pF_len _ _ _ _ _ _ _, ?_⟩
        rw [pP_in_memory]
        refine hD _ _ ⟨rfl, ⟨.non, ?_⟩, f3.trans (PipAt.fr_p _)⟩
        rw [imM_none hrk]
        exact R3.fld T.neOrderPipeline { v with wr := x2, im := .non } { m with regs := regsM Pg m, ended := endM Pg m, wr := wrM Pg m, mem := memM Pg m, im := none } _ rfl rfl rfl rfl R3.rd R3.rk rfl R3.wr
      | some r =>
        obtain ⟨q, a, b⟩ := r
        have hv0 : VT3 H3 v.kvs v.rk (some (q, a, b)) := by have h : VT3 H3 v.kvs v.rk m.rk := R3.rk; rw [hrk] at h; exact h
        obtain ⟨t, oa, hv, ht, hvv⟩ := id hv0
        refine tIf_go false (fun R' r => ⟨_, rfl, _, rfl, by rw [hv, decide_eq_false (by intro z; cases z)]; exact r⟩) (fun z => by cases z) (fun _ => ?_)
        refine ⟨_, rfl, p, _, _, rfl, R3.ob, pN_reckon _ _ _ _ _ _ _, _, rfl, _, rfl, _, rfl, p, g, { v with wr := x2 }, Pg, _, _, v.rk, v.im, v.wr, q, a, b, m.im, m.wr, rfl, R3, hv0, R.im.keep (R.tupK f3), R.wr.keep (R.tupK f3), kind_le hO q, fun H4 x3 s4 hx => ?_⟩
        have R4 := R3.keep s4
        refine ⟨_, rfl, p, _, _, _, rfl, R4.ob, T.clPipeline, T.nPipeline_in_memory, pF_len _ _ _ _ _ _ _, ?_⟩
        rw [pP_in_memory]
        refine hD _ _ ⟨rfl, ⟨x3, ?_⟩, f3.trans ((Fr.of_same s4).trans (PipAt.fr_p _))⟩
        rw [imM_some hrk]
        exact R4.fld T.neOrderPipeline { v with wr := x2, im := x3 } { m with regs := regsM Pg m, ended := endM Pg m, wr := wrM Pg m, mem := memM Pg m, im := some (reckM Pg Pg.hands m q a b) } _ rfl rfl rfl rfl R4.rd R4.rk hx R4.wr
    rintro σ' H4 ⟨rfl, ⟨x3, R4⟩, f4⟩
    -- the right place
    walk_at "un"
    refine tIf_by (decide (v.rk = .non)) (vN (rightM Pg m)) (fun R' r => ?_) (fun hb R' r => ?_) (fun hb R' r => ?_) ?_
    · exact ⟨_, rfl, _, rfl, r⟩
    · have e := of_decide_eq_true hb
      cases hrk : m.rk with
      | none =>
        rw [rightM_none (imM_none hrk)] at r
        exact r
      | some z =>
        obtain ⟨q, a, b⟩ := z
        have h := R.rk
        rw [hrk] at h
        obtain ⟨t, oa, hv, _⟩ := h
        rw [hv] at e
        cases e
    · have e := of_decide_eq_false hb
      cases hrk : m.rk with
      | none =>
        have h := R.rk
        rw [hrk] at h
        exact absurd h e
      | some z =>
        obtain ⟨q, a, b⟩ := z
        have hi := imM_some (P := Pg) hrk
        rw [rightM_im hi] at r
        have hx : VT3 H4 v.kvs x3 (some (reckM Pg Pg.hands m q a b)) := by have h : VT3 H4 v.kvs x3 (imM Pg m) := R4.im; rw [hi] at h; exact h
        exact ⟨_, rfl, p, _, _, rfl, R4.ob, pN_place_if_wrong _ _ _ _ _ _ _, _, rfl, p, _, _, _, _, rfl, R4.ob, T.clPipeline, T.nPipeline_in_memory, pL_in_memory _ _ _ _ _ _ _, p, g, { v with wr := x2, im := x3 }, Pg, _, _, x3, q, _, _, rfl, R4, hx, r⟩
    -- the ways
    refine end_by (t := tIfS _ _ _) (fun σ' H5 => σ' = [some (.ref p), some v.wr, some v.im, some v.rk, some v.rd, some (vN (rightM Pg m))] ∧ (∃ v5, PipAt c H5 p g v5 Pg (stepN Pg m) (cntM Pg m n) ∧ Ext v v5) ∧ Fr g p H H5) (fun D hD => ?_) ?_
    · walk_at "un"
      cases hrt : rightM Pg m with
      | some rp =>
        refine tIfS_by true (fun R' r => ⟨_, rfl, _, rfl, r⟩) (fun _ => ?_) (fun z => by cases z)
        refine ⟨_, rfl, p, _, _, rfl, R4.ob, pN_lose_guessed _ _ _ _ _ _ _, _, rfl, p, g, { v with wr := x2, im := x3 }, Pg, _, _, rp, rfl, R4, fun H5 R5 f5 => ?_⟩
        refine hD _ _ ⟨by rw [hrt]; rfl, ⟨{ v with wr := x2, im := x3, rd := .non, rk := .non }, ?_, Ext.refl v⟩, f4.trans f5⟩
        have e1 : stepN Pg m = { m with regs := regsM Pg m, ended := endM Pg m, wr := wrM Pg m, mem := memM Pg m, im := imM Pg m, rd := none, rk := none, place := rp, fetches := true } := by unfold stepN; rw [hrt]
        have e2 : cntM Pg m n = { n with cycles := n.cycles + 1, done := n.done + doneM Pg m, lost := n.lost + (match m.rd with | some _ => 2 | none => 1) } := by unfold cntM waitedM lostM; rw [hrt]; rfl
        rw [e1, e2]
        exact R5
      | none =>
        refine tIfS_by false (fun R' r => ⟨_, rfl, _, rfl, r⟩) (fun z => by cases z) (fun _ => ?_)
        refine tIfS_by (waitM Pg m) (fun R' r => ?_) (fun hb => ?_) (fun hb => ?_)
        · cases hrd : m.rd with
          | none =>
            have hv : v.rd = .non := by have h := R.rd; rw [hrd] at h; exact h
            rw [waitM_none hrd] at r
            exact tAnd_by false false (fun R r => ⟨_, rfl, _, rfl, by rw [hv, nn_non]; exact r⟩) (fun e => by cases e) r
          | some q =>
            have hv0 := R.rd
            rw [hrd] at hv0
            obtain ⟨a, hv, hvv⟩ := hv0
            rw [waitM_some hrd] at r
            refine tAnd_by true (waitF Pg q m.rk m.im) (fun R r => ⟨_, rfl, _, rfl, by rw [hv, nn_ref]; exact r⟩) (fun _ R' r => ?_) r
            exact ⟨_, rfl, p, _, _, rfl, R4.ob, pN_has_to_wait _ _ _ _ _ _ _, _, rfl, _, rfl, _, rfl, p, g, { v with wr := x2, im := x3 }, Pg, _, _, a, q, v.rk, v.im, m.rk, m.im, (by show [V.ref p, v.rd, v.rk, v.im] = _; rw [hv]), R4, hvv, R.rk.keep (R.tupK f4), R.im.keep (R.tupK f4), _, rfl, r⟩
        · -- it waits
          refine ⟨_, rfl, p, _, _, _, _, rfl, R4.ob, T.clPipeline, T.nPipeline_waited, pL_waited _ _ _ _ _ _ _, _, _, rfl, rfl, _, _, R4.ob, pF_len _ _ _ _ _ _ _, ?_⟩
          rw [show V.int ((n.waited : Int) + 1) = V.int ((n.waited + 1 : Nat) : Int) from rfl, pP_waited]
          refine ⟨_, rfl, p, _, _, _, rfl, upd_same, T.clPipeline, T.nPipeline_to_reckon, pF_len _ _ _ _ _ _ _, ?_⟩
          rw [pP_to_reckon, upd_upd]
          refine hD _ _ ⟨by rw [hrt]; rfl, ⟨{ v with wr := x2, im := x3, rk := .non }, ?_, Ext.refl v⟩, f4.trans (PipAt.fr_p _)⟩
          have e1 : stepN Pg m = { m with regs := regsM Pg m, ended := endM Pg m, wr := wrM Pg m, mem := memM Pg m, im := imM Pg m, rk := none } := by unfold stepN; rw [hrt]; dsimp only; rw [if_pos hb]
          have e2 : cntM Pg m n = { n with cycles := n.cycles + 1, done := n.done + doneM Pg m, waited := n.waited + 1 } := by unfold cntM waitedM lostM; rw [hrt]; dsimp only; rw [if_pos hb]; rfl
          rw [e1, e2]
          exact R4.fld T.neOrderPipeline { v with wr := x2, im := x3, rk := .non } { m with regs := regsM Pg m, ended := endM Pg m, wr := wrM Pg m, mem := memM Pg m, im := imM Pg m, rk := none } _ rfl rfl rfl rfl R4.rd rfl R4.im R4.wr
        · -- it goes on
          have e2 : cntM Pg m n = { n with cycles := n.cycles + 1, done := n.done + doneM Pg m } := by unfold cntM waitedM lostM; rw [hrt]; dsimp only; rw [if_neg (by simp [hb])]; rfl
          try dsimp only
          refine seq_by (fun σ' H5 => σ' = [some (.ref p), some v.wr, some v.im, some v.rk, some v.rd, some (vN (rightM Pg m))] ∧ (∃ x4, PipAt c H5 p g { v with wr := x2, im := x3, rk := x4 } Pg { m with regs := regsM Pg m, ended := endM Pg m, wr := wrM Pg m, mem := memM Pg m, im := imM Pg m, rk := rkM Pg m } { n with cycles := n.cycles + 1, done := n.done + doneM Pg m }) ∧ Fr g p H H5) (fun D2 hD2 => ?_) ?_
          · walk_at "un"
            cases hrd : m.rd with
            | none =>
              have hv : v.rd = .non := by have h := R.rd; rw [hrd] at h; exact h
              refine tIf_go true (fun R' r => ⟨_, rfl, _, rfl, by rw [hv, decide_eq_true rfl]; exact r⟩) (fun _ => ?_) (fun z => by cases z)
              refine ⟨_, rfl, p, _, _, _, rfl, R4.ob, T.clPipeline, T.nPipeline_to_reckon, pF_len _ _ _ _ _ _ _, ?_⟩
              rw [pP_to_reckon]
              refine hD2 _ _ ⟨by rw [hrt]; rfl, ⟨.non, ?_⟩, f4.trans (PipAt.fr_p _)⟩
              rw [rkM_none hrd]
              exact R4.fld T.neOrderPipeline { v with wr := x2, im := x3, rk := .non } { m with regs := regsM Pg m, ended := endM Pg m, wr := wrM Pg m, mem := memM Pg m, im := imM Pg m, rk := none } _ rfl rfl rfl rfl R4.rd rfl R4.im R4.wr
            | some q =>
              have hv0 := R.rd
              rw [hrd] at hv0
              obtain ⟨a, hv, hvv⟩ := hv0
              refine tIf_go false (fun R' r => ⟨_, rfl, _, rfl, by rw [hv, decide_eq_false (by intro z; cases z)]; exact r⟩) (fun z => by cases z) (fun _ => ?_)
              refine ⟨_, rfl, p, _, _, rfl, R4.ob, pN_read_registers _ _ _ _ _ _ _, _, rfl, p, g, { v with wr := x2, im := x3 }, Pg, _, _, a, q, (by show [V.ref p, v.rd] = _; rw [hv]), R4, good_regs Pg hG, hvv, fun H5 x4 s5 hx => ?_⟩
              have R5 := R4.keep s5
              refine ⟨_, rfl, p, _, _, _, rfl, R5.ob, T.clPipeline, T.nPipeline_to_reckon, pF_len _ _ _ _ _ _ _, ?_⟩
              rw [pP_to_reckon]
              refine hD2 _ _ ⟨by rw [hrt]; rfl, ⟨x4, ?_⟩, f4.trans ((Fr.of_same s5).trans (PipAt.fr_p _))⟩
              rw [rkM_some hrd]
              exact R5.fld T.neOrderPipeline { v with wr := x2, im := x3, rk := x4 } { m with regs := regsM Pg m, ended := endM Pg m, wr := wrM Pg m, mem := memM Pg m, im := imM Pg m, rk := some (q, (regsM Pg m).getD (ordAt Pg.ws q).first 0, (regsM Pg m).getD (ordAt Pg.ws q).second 0) } _ rfl rfl rfl rfl R5.rd hx R5.im R5.wr
          · rintro σ' H5 ⟨rfl, ⟨x4, R5⟩, f5⟩
            walk_at "un"
            refine tIf_go m.fetches (fun R' r => ?_) (fun hf => ?_) (fun hf => ?_)
            · exact ⟨_, rfl, p, _, _, _, _, rfl, R5.ob, T.clPipeline, T.nPipeline_fetches, pL_fetches _ _ _ _ _ _ _, _, rfl, r⟩
            · refine ⟨_, rfl, p, _, _, rfl, R5.ob, pN_fetch _ _ _ _ _ _ _, p, g, { v with wr := x2, im := x3, rk := x4 }, Pg, _, _, rfl, R5, hG.guess, L.pl hf, hw, fun H6 kvs a R6 ex hv f6 => ?_⟩
              refine ⟨_, rfl, p, _, _, _, rfl, R6.ob, T.clPipeline, T.nPipeline_to_read, pF_len _ _ _ _ _ _ _, ?_⟩
              rw [pP_to_read]
              refine hD _ _ ⟨rfl, ⟨{ v with kvs := kvs, wr := x2, im := x3, rk := x4, rd := .ref a }, ?_, ex⟩, f5.trans (f6.trans (PipAt.fr_p _))⟩
              have e1 : stepN Pg m = { m with regs := regsM Pg m, ended := endM Pg m, wr := wrM Pg m, mem := memM Pg m, im := imM Pg m, rk := rkM Pg m, rd := some m.place, fetches := (ordAt Pg.ws m.place).kind != 12, place := if goesM Pg m = true then (ordAt Pg.ws m.place).aim else (ordAt Pg.ws m.place).following } := by
                unfold stepN; rw [hrt]; dsimp only; rw [if_neg (by simp [hb]), if_pos hf]
              rw [e1, e2]
              exact R6.fld T.neOrderPipeline { v with kvs := kvs, wr := x2, im := x3, rk := x4, rd := .ref a } { m with regs := regsM Pg m, ended := endM Pg m, wr := wrM Pg m, mem := memM Pg m, im := imM Pg m, rk := rkM Pg m, rd := some m.place, fetches := (ordAt Pg.ws m.place).kind != 12, place := if goesM Pg m = true then (ordAt Pg.ws m.place).aim else (ordAt Pg.ws m.place).following } _ rfl rfl rfl rfl ⟨a, rfl, hv⟩ R6.rk R6.im R6.wr
            · refine ⟨_, rfl, p, _, _, _, rfl, R5.ob, T.clPipeline, T.nPipeline_to_read, pF_len _ _ _ _ _ _ _, ?_⟩
              rw [pP_to_read]
              refine hD _ _ ⟨rfl, ⟨{ v with wr := x2, im := x3, rk := x4, rd := .non }, ?_, Ext.refl v⟩, f5.trans (PipAt.fr_p _)⟩
              have e1 : stepN Pg m = { m with regs := regsM Pg m, ended := endM Pg m, wr := wrM Pg m, mem := memM Pg m, im := imM Pg m, rk := rkM Pg m, rd := none } := by
                unfold stepN; rw [hrt]; dsimp only; rw [if_neg (by simp [hb]), if_neg (by simp [hf])]
              rw [e1, e2]
              exact R5.fld T.neOrderPipeline { v with wr := x2, im := x3, rk := x4, rd := .non } { m with regs := regsM Pg m, ended := endM Pg m, wr := wrM Pg m, mem := memM Pg m, im := imM Pg m, rk := rkM Pg m, rd := none } _ rfl rfl rfl rfl rfl R5.rk R5.im R5.wr
    rintro σ' H5 ⟨rfl, ⟨v5, R5, ex⟩, f5⟩
    -- learn
    rw [stepM_eq] at k
    walk_at "un"
    cases hrk : m.rk with
    | none =>
      have hv : v.rk = .non := by have h := R.rk; rw [hrk] at h; exact h
      refine tIfS_by false (fun R' r => ?_) (fun z => by cases z) (fun _ => ?_)
      · exact tAnd_by false false (fun R r => ⟨_, rfl, _, rfl, by rw [hv, nn_non]; exact r⟩) (fun e => by cases e) r
      · refine k _ v5 ?_ ex f5
        rw [guessM_none (imM_none hrk), ← stepN_guess Pg m]
        exact R5
    | some z =>
      obtain ⟨q, a, b⟩ := z
      have hi := imM_some (P := Pg) hrk
      have hv0 : VT3 H5 v.kvs v.rk (some (q, a, b)) := by have h := R.rk.keep (R.tupK f5); rw [hrk] at h; exact h
      obtain ⟨t, oa, hv, ht, hvv⟩ := hv0
      obtain ⟨dx, ho⟩ := R5.ord (ex _ _ hvv)
      refine tIfS_by (ordAt Pg.ws q).branches (fun R' r => ?_) (fun hb => ?_) (fun hb => ?_)
      · refine tAnd_by true (ordAt Pg.ws q).branches (fun R r => ⟨_, rfl, _, rfl, by rw [hv, nn_ref]; exact r⟩) (fun _ R' r => ?_) r
        exact ⟨_, rfl, t, _, _, _, hv, rfl, SqT.of ht, rfl, oa, _, dx, _, _, rfl, ho, T.clOrder, T.nOrder_branches, oL_branches _, _, rfl, r⟩
      · have hx : VT3 H5 v5.kvs v5.im (some (reckM Pg Pg.hands m q a b)) := by have h := R5.im; rw [stepN_im, hi] at h; exact h
        refine ⟨_, rfl, p, _, _, rfl, R5.ob, pN_learn _ _ _ _ _ _ _, _, rfl, p, _, _, _, _, rfl, R5.ob, T.clPipeline, T.nPipeline_in_memory, pL_in_memory _ _ _ _ _ _ _, p, g, v5, Pg, _, _, v5.im, q, _, _, rfl, R5, hx, (by rw [stepN_guess]; exact hG.guess), fun H6 R6 f6 => ?_⟩
        refine k _ v5 ?_ ex (f5.trans f6)
        have eg := (guessM_im hi).trans (if_pos (show (ordAt Pg.ws q).branches = true from hb))
        rw [eg]
        rw [stepN_guess] at R6
        exact R6
      · refine k _ v5 ?_ ex f5
        have eg := (guessM_im hi).trans (if_neg (show ¬ (ordAt Pg.ws q).branches = true by simp [hb]))
        rw [eg, ← stepN_guess Pg m]
        exact R5
end
end Fs

set_option Elab.async false
set_option linter.all false
set_option maxRecDepth 100000
namespace Fs
open PySem L2
local macro_rules | `(tactic| walk_at "un") => `(tactic| try dsimp only [tSeq, tNext, tAsg, gName, sFld, sFldAug, tRet, tDrop])

/-! ### lists of numbers compared -/
def dN (l : List Nat) : List PyData := l.map fun (x : Nat) => PyData.int (x : Int)
theorem dN_all {K : PySem.W.Frag} {H : Hp} : ∀ l : List Nat, DpAll K H (lint l) (dN l)
  | [] => .nil
  | a :: r => .cons (.int _) (dN_all r)
theorem dN_can : ∀ l : List Nat, PyData.canLayAll0 (dN l) = true
  | [] => by simp [dN, PyData.canLayAll0]
  | a :: r => by
    show PyData.canLayAll0 (PyData.int (a : Int) :: dN r) = true
    simp only [PyData.canLayAll0, PyData.canLay0, dN_can r, Bool.and_self]
theorem dN_depth : ∀ l : List Nat, PyData.depthAll (dN l) = 0
  | [] => by simp [dN, PyData.depthAll]
  | a :: r => by
    show PyData.depthAll (PyData.int (a : Int) :: dN r) = 0
    simp [PyData.depthAll, PyData.depth, dN_depth r]
theorem dN_shaped (l : List Nat) : SeqAt.shaped (.list (dN l)) = true := by
  unfold SeqAt.shaped
  simp [PyData.canLay0, PyData.depth, dN_can, dN_depth]
theorem dN_eqv : ∀ l l' : List Nat, PyData.eqvAll (dN l) (dN l') = decide (l = l')
  | [], [] => by simp [dN, PyData.eqvAll]
  | [], b :: r => by simp [dN, PyData.eqvAll]
  | a :: r, [] => by simp [dN, PyData.eqvAll]
  | a :: r, b :: r' => by
    show PyData.eqvAll (PyData.int (a : Int) :: dN r) (PyData.int (b : Int) :: dN r') = _
    rw [PyData.eqvAll, dN_eqv r r']
    have e : PyData.eqv (PyData.int (a : Int)) (PyData.int (b : Int)) = decide (a = b) := by
      rw [← eqI]
      simp [PyData.eqv]
    rw [e, Bool.eq_iff_iff]
    simp
theorem dN_at {K : PySem.W.Frag} {H : Hp} {a : Addr} {l : List Nat} (h : H a = some (.lst (lint l))) : Dp K H (.ref a) (.list (dN l)) := .lst (SqL.of h) (dN_all l)
theorem dN_eq (l l' : List Nat) : PyData.eqv (.list (dN l)) (.list (dN l')) = decide (l = l') := by
  rw [← dN_eqv]
  simp [PyData.eqv]
theorem dec_bl (a b : Bool) : decide (V.bl a = V.bl b) = (a == b) := by cases a <;> cases b <;> rfl
theorem ms_eq {a b : MS} (h1 : a.place = b.place) (h2 : a.fetches = b.fetches) (h3 : a.ended = b.ended) (h4 : a.rd = b.rd) (h5 : a.rk = b.rk) (h6 : a.im = b.im) (h7 : a.wr = b.wr) (h8 : a.regs = b.regs) (h9 : a.guess = b.guess) (h10 : a.mem = b.mem) : a = b := by
  cases a
  cases b
  simp only at h1 h2 h3 h4 h5 h6 h7 h8 h9 h10
  subst h1 h2 h3 h4 h5 h6 h7 h8 h9 h10
  rfl
theorem same_new {H : Hp} {l : Addr} {o : HO} (h : H l = none) : L2.Same H (upd H l o) := fun b u e => by rw [upd_ne (ne_of_none e h)]; exact e

/-! ### a state that was kept -/
def StAt (H : Hp) (g : Ge) (kvs : List (Key × V)) (sv : Addr) (m : MS) : Prop := ∃ (t4 th l1 l2 l3 : Addr) (x1 x2 x3 x4 : V),
  H sv = some (.tup [.int (m.place : Int), .bl m.fetches, .bl m.ended, .ref t4, .ref th]) ∧ H t4 = some (.tup [x1, x2, x3, x4]) ∧ H th = some (.tup [.ref l1, .ref l2, .ref l3]) ∧
  H l1 = some (.lst (lint m.regs)) ∧ H l2 = some (.lst (lint m.guess)) ∧ H l3 = some (.lst (lint m.mem)) ∧ (l1 ≠ g.lr ∧ l1 ≠ g.lm ∧ l1 ≠ g.lg) ∧ (l2 ≠ g.lr ∧ l2 ≠ g.lm ∧ l2 ≠ g.lg) ∧ (l3 ≠ g.lr ∧ l3 ≠ g.lm ∧ l3 ≠ g.lg) ∧
  VRd kvs x1 m.rd ∧ VT3 H kvs x2 m.rk ∧ VT3 H kvs x3 m.im ∧ VT2 H kvs x4 m.wr
section
variable {c : Cl} {H H' : Hp} {p : Addr} {g : Ge} {v v' : Va} {P : Pg} {m : MS} {n : Cnt}
theorem PipAt.lstK (R : PipAt c H p g v P m n) (f : Fr g p H H') {l : Addr} {xs : List V} (e : H l = some (.lst xs)) (h : l ≠ g.lr ∧ l ≠ g.lm ∧ l ≠ g.lg) : H' l = some (.lst xs) :=
  f l _ e (ne_of e R.ob (by intro z; cases z)) (ne_of e R.dd (by intro z; cases z)) h.1 h.2.1 h.2.2
theorem StAt.keep (R : PipAt c H p g v P m n) (f : Fr g p H H') (e : Ext v v') {sv : Addr} {m0 : MS} (h : StAt H g v.kvs sv m0) : StAt H' g v'.kvs sv m0 := by
  obtain ⟨t4, th, l1, l2, l3, x1, x2, x3, x4, h1, h2, h3, h4, h5, h6, n1, n2, n3, a1, a2, a3, a4⟩ := h
  have kt := R.tupK f
  exact ⟨t4, th, l1, l2, l3, x1, x2, x3, x4, kt _ _ h1, kt _ _ h2, kt _ _ h3, R.lstK f h4 n1, R.lstK f h5 n2, R.lstK f h6 n3, n1, n2, n3, a1.ext e, (a2.keep kt).ext e, (a3.keep kt).ext e, (a4.keep kt).ext e⟩
theorem StAt.same (s : L2.Same H H') {kvs : List (Key × V)} {sv : Addr} {m0 : MS} (h : StAt H g kvs sv m0) : StAt H' g kvs sv m0 := by
  obtain ⟨t4, th, l1, l2, l3, x1, x2, x3, x4, h1, h2, h3, h4, h5, h6, n1, n2, n3, a1, a2, a3, a4⟩ := h
  exact ⟨t4, th, l1, l2, l3, x1, x2, x3, x4, s _ _ h1, s _ _ h2, s _ _ h3, s _ _ h4, s _ _ h5, s _ _ h6, n1, n2, n3, a1, a2.keep fun t xs e => s _ _ e, a3.keep fun t xs e => s _ _ e, a4.keep fun t xs e => s _ _ e⟩
end
def cntV (n : Cnt) : List V := [.int (n.cycles : Int), .int (n.done : Int), .int (n.waited : Int), .int (n.lost : Int)]
def sp_stages (c : Cl) : Sp := fun vs H Q _ => ∃ (p : Addr) (g : Ge) (v : Va) (P : Pg) (m : MS) (n : Cnt), vs = [.ref p] ∧ PipAt c H p g v P m n ∧ ∀ t, H t = none → Q (.ref t) (upd H t (.tup [v.rd, v.rk, v.im, v.wr]))
def sp_counts (c : Cl) : Sp := fun vs H Q _ => ∃ (p : Addr) (g : Ge) (v : Va) (P : Pg) (m : MS) (n : Cnt), vs = [.ref p] ∧ PipAt c H p g v P m n ∧ ∀ t, H t = none → Q (.ref t) (upd H t (.tup (cntV n)))
def sp_state (c : Cl) : Sp := fun vs H Q _ => ∃ (p : Addr) (g : Ge) (v : Va) (P : Pg) (m : MS) (n : Cnt), vs = [.ref p] ∧ PipAt c H p g v P m n ∧ ∀ (H' : Hp) (sv : Addr), L2.Same H H' → StAt H' g v.kvs sv m → Q (.ref sv) H'
def sp_is_in_state (c : Cl) : Sp := fun vs H Q _ => ∃ (p : Addr) (g : Ge) (v : Va) (P : Pg) (m : MS) (n : Cnt) (sv : Addr) (m0 : MS), vs = [.ref p, .ref sv] ∧ PipAt c H p g v P m n ∧ StAt H g v.kvs sv m0 ∧ ∀ H' : Hp, L2.Same H H' → Q (.bl (decide (m = m0))) H'
def sp_count_again (c : Cl) : Sp := fun vs H Q _ => ∃ (p : Addr) (g : Ge) (v : Va) (P : Pg) (m : MS) (n0 d : Cnt) (t : Addr) (k : Nat), vs = [.ref p, .ref t, .int (k : Int)] ∧ PipAt c H p g v P m (n0.add d) ∧ H t = some (.tup (cntV n0)) ∧ k ≤ 1000000 ∧
  ∀ H' : Hp, PipAt c H' p g v P m ((n0.add d).again n0 k) → Fr g p H H' → Q .non H'

section
variable {P : Program} {w : World} {K : PySem.W.Frag} {mg : Str → Option Value} {base : Heap} {c : Cl}

theorem ok_stages (T : Txt K mg c) (f : Addr) (fd : FuncData) (F : Fun K "stages" "Pipeline.stages" s_stages f fd) : FnOk P w K mg base CX0 1 f fd ps_stages_ (sp_stages c) := by
  refine F.ok sc_stages (fun vs H Q E h => ?_) (fun cdv A outer s H vs Q E hr h => ?_)
  · obtain ⟨_, _, _, _, _, _, rfl, _⟩ := h
    rfl
  · obtain ⟨p, g, v, Pg, m, n, rfl, R, k⟩ := h
    refine ⟨_, (pss_one (ps_ret (pe_tup (pa_cons (pe_fld (pv 0) rfl) (pa_cons (pe_fld (pv 0) rfl) (pa_cons (pe_fld (pv 0) rfl) (pa_cons (pe_fld (pv 0) rfl) pa_nil))))))), ?_⟩
    exact ⟨_, rfl, p, _, _, _, _, rfl, R.ob, T.clPipeline, T.nPipeline_to_read, pL_to_read _ _ _ _ _ _ _, _, rfl, p, _, _, _, _, rfl, R.ob, T.clPipeline, T.nPipeline_to_reckon, pL_to_reckon _ _ _ _ _ _ _,
      _, rfl, p, _, _, _, _, rfl, R.ob, T.clPipeline, T.nPipeline_in_memory, pL_in_memory _ _ _ _ _ _ _, _, rfl, p, _, _, _, _, rfl, R.ob, T.clPipeline, T.nPipeline_to_write, pL_to_write _ _ _ _ _ _ _, (by show 4 ≤ sizeLine; decide), fun t ht => k t ht⟩
theorem ok_counts (T : Txt K mg c) (f : Addr) (fd : FuncData) (F : Fun K "counts" "Pipeline.counts" s_counts f fd) : FnOk P w K mg base CX0 1 f fd ps_counts_ (sp_counts c) := by
  refine F.ok sc_counts (fun vs H Q E h => ?_) (fun cdv A outer s H vs Q E hr h => ?_)
  · obtain ⟨_, _, _, _, _, _, rfl, _⟩ := h
    rfl
  · obtain ⟨p, g, v, Pg, m, n, rfl, R, k⟩ := h
    refine ⟨_, (pss_one (ps_ret (pe_tup (pa_cons (pe_fld (pv 0) rfl) (pa_cons (pe_fld (pv 0) rfl) (pa_cons (pe_fld (pv 0) rfl) (pa_cons (pe_fld (pv 0) rfl) pa_nil))))))), ?_⟩
    exact ⟨_, rfl, p, _, _, _, _, rfl, R.ob, T.clPipeline, T.nPipeline_cycles, pL_cycles _ _ _ _ _ _ _, _, rfl, p, _, _, _, _, rfl, R.ob, T.clPipeline, T.nPipeline_done, pL_done _ _ _ _ _ _ _,
      _, rfl, p, _, _, _, _, rfl, R.ob, T.clPipeline, T.nPipeline_waited, pL_waited _ _ _ _ _ _ _, _, rfl, p, _, _, _, _, rfl, R.ob, T.clPipeline, T.nPipeline_lost, pL_lost _ _ _ _ _ _ _, (by show 4 ≤ sizeLine; decide), fun t ht => k t ht⟩
theorem ok_state (T : Txt K mg c) (f : Addr) (fd : FuncData) (F : Fun K "state" "Pipeline.state" s_state f fd) : FnOk P w K mg base CX0 2 f fd ps_state_ (sp_state c) := by
  refine F.ok sc_state (fun vs H Q E h => ?_) (fun cdv A outer s H vs Q E hr h => ?_)
  · obtain ⟨_, _, _, _, _, _, rfl, _⟩ := h
    rfl
  · obtain ⟨p, g, v, Pg, m, n, rfl, R, k⟩ := h
    refine ⟨_, (pss_cons (ps_set (i := 1) sc_state.nd rfl (Or.inl rfl) (pe_tup (pa_cons (pe_callTy call_list_of (by rfl) T.b_list PyProof.Rows.boot_list (pa_cons (pe_fld (pv 0) rfl) pa_nil)) (pa_cons (pe_callTy call_list_of (by rfl) T.b_list PyProof.Rows.boot_list (pa_cons (pe_fld (pv 0) rfl) pa_nil)) (pa_cons (pe_callTy call_list_of (by rfl) T.b_list PyProof.Rows.boot_list (pa_cons (pe_fld (pv 0) rfl) pa_nil)) pa_nil))))) (pss_one (ps_ret (pe_tup (pa_cons (pe_fld (pv 0) rfl) (pa_cons (pe_fld (pv 0) rfl) (pa_cons (pe_fld (pv 0) rfl) (pa_cons (pe_mdef0 (pv 0) T.clPipeline T.d_stages (ok_stages T) hr) (pa_cons (pv 1) pa_nil))))))))), ?_⟩
    refine ⟨_, rfl, p, _, _, _, _, rfl, R.ob, T.clPipeline, T.nPipeline_registers, pL_registers _ _ _ _ _ _ _, g.lr, _, rfl, .inl (SqL.of R.rg), fun l1 h1 => ?_⟩
    have s1 : L2.Same H (upd H l1 (.lst (lint m.regs))) := same_new h1
    have R1 := R.keep s1
    refine ⟨_, rfl, p, _, _, _, _, rfl, R1.ob, T.clPipeline, T.nPipeline_guesses, pL_guesses _ _ _ _ _ _ _, g.lg, _, rfl, .inl (SqL.of R1.gg), fun l2 h2 => ?_⟩
    have s2 := same_new (o := .lst (lint m.guess)) h2
    have R2 := R1.keep s2
    refine ⟨_, rfl, p, _, _, _, _, rfl, R2.ob, T.clPipeline, T.nPipeline_memory, pL_memory _ _ _ _ _ _ _, g.lm, _, rfl, .inl (SqL.of R2.mm), fun l3 h3 => ?_⟩
    have s3 := same_new (o := .lst (lint m.mem)) h3
    have R3 := R2.keep s3
    have g1 := s3 _ _ (s2 _ _ (show upd H l1 (.lst (lint m.regs)) l1 = _ from upd_same))
    have g2 := s3 _ _ (show upd (upd H l1 (.lst (lint m.regs))) l2 (.lst (lint m.guess)) l2 = _ from upd_same)
    have g3 : upd (upd (upd H l1 (.lst (lint m.regs))) l2 (.lst (lint m.guess))) l3 (.lst (lint m.mem)) l3 = _ := upd_same
    refine ⟨(by show 3 ≤ sizeLine; decide), fun th hth => ?_⟩
    have s4 := same_new (o := .tup [.ref l1, .ref l2, .ref l3]) hth
    have R4 := R3.keep s4
    have g4 : upd (upd (upd (upd H l1 (.lst (lint m.regs))) l2 (.lst (lint m.guess))) l3 (.lst (lint m.mem))) th (.tup [.ref l1, .ref l2, .ref l3]) th = _ := upd_same
    have g1 := s4 _ _ g1
    have g2 := s4 _ _ g2
    have g3 := s4 _ _ g3
    have s04 := s1.trans (s2.trans (s3.trans s4))
    generalize upd (upd (upd (upd H l1 (.lst (lint m.regs))) l2 (.lst (lint m.guess))) l3 (.lst (lint m.mem))) th (.tup [.ref l1, .ref l2, .ref l3]) = H4 at R4 s04 g1 g2 g3 g4 ⊢
    have na : ∀ {l : Addr}, H l = none → l ≠ g.lr ∧ l ≠ g.lm ∧ l ≠ g.lg := fun h => ⟨(ne_of_none R.rg h).symm, (ne_of_none R.mm h).symm, (ne_of_none R.gg h).symm⟩
    have nb : l2 ≠ g.lr ∧ l2 ≠ g.lm ∧ l2 ≠ g.lg := ⟨(ne_of_none R1.rg h2).symm, (ne_of_none R1.mm h2).symm, (ne_of_none R1.gg h2).symm⟩
    have nc : l3 ≠ g.lr ∧ l3 ≠ g.lm ∧ l3 ≠ g.lg := ⟨(ne_of_none R2.rg h3).symm, (ne_of_none R2.mm h3).symm, (ne_of_none R2.gg h3).symm⟩
    refine ⟨_, rfl, p, _, _, _, _, rfl, R4.ob, T.clPipeline, T.nPipeline_place, pL_place _ _ _ _ _ _ _, _, rfl, p, _, _, _, _, rfl, R4.ob, T.clPipeline, T.nPipeline_fetches, pL_fetches _ _ _ _ _ _ _, _, rfl, p, _, _, _, _, rfl, R4.ob, T.clPipeline, T.nPipeline_ended, pL_ended _ _ _ _ _ _ _,
      _, rfl, p, _, _, rfl, R4.ob, pN_stages _ _ _ _ _ _ _, p, g, v, Pg, m, n, rfl, R4, fun t4 ht4 => ?_⟩
    have s5 := same_new (o := .tup [v.rd, v.rk, v.im, v.wr]) ht4
    have R5 := R4.keep s5
    have g5 : upd H4 t4 (.tup [v.rd, v.rk, v.im, v.wr]) t4 = _ := upd_same
    refine ⟨_, rfl, (by show 5 ≤ sizeLine; decide), fun sv hsv => ?_⟩
    have s6 := same_new (o := .tup [.int (m.place : Int), .bl m.fetches, .bl m.ended, .ref t4, .ref th]) hsv
    have R6 := R5.keep s6
    exact k _ sv (s04.trans (s5.trans s6)) ⟨t4, th, l1, l2, l3, v.rd, v.rk, v.im, v.wr, upd_same, s6 _ _ g5, s6 _ _ (s5 _ _ g4), s6 _ _ (s5 _ _ g1), s6 _ _ (s5 _ _ g2), s6 _ _ (s5 _ _ g3), na h1, nb, nc, R6.rd, R6.rk, R6.im, R6.wr⟩
theorem ok_is_in_state (T : Txt K mg c) (f : Addr) (fd : FuncData) (F : Fun K "is_in_state" "Pipeline.is_in_state" s_is_in_state f fd) : FnOk P w K mg base CX0 2 f fd ps_is_in_state_ (sp_is_in_state c) := by
  refine F.ok sc_is_in_state (fun vs H Q E h => ?_) (fun cdv A outer s H vs Q E hr h => ?_)
  · obtain ⟨_, _, _, _, _, _, _, _, rfl, _⟩ := h
    rfl
  · obtain ⟨p, g, v, Pg, m, n, sv, m0, rfl, R, S, k⟩ := h
    obtain ⟨t4, th, l1, l2, l3, x1, x2, x3, x4, h1, h2, h3, h4, h5, h6, _, _, _, a1, a2, a3, a4⟩ := id S
    refine ⟨_, (pss_cons (ps_if (PW.pt (pw_or (pt_cmpR op_ne (pe_fld (pv 0) rfl) (pe_ix ix_tup (pv 1) pe_int (fun _ _ => rfl)) (nomark _)) (pw_or (pt_cmpR op_ne (pe_fld (pv 0) rfl) (pe_ix ix_tup (pv 1) pe_int (fun _ _ => rfl)) (nomark _)) (pw_or1 (pt_cmpR op_ne (pe_fld (pv 0) rfl) (pe_ix ix_tup (pv 1) pe_int (fun _ _ => rfl)) (nomark _)))))) (pss_one (ps_ret pe_bl)) pss_nil) (pss_cons (ps_if (PW.pt (pw_or (pt_cmpR (op_neS T hr.units) (pe_mdef0 (pv 0) T.clPipeline T.d_stages (ok_stages T) hr) (pe_ix ix_tup (pv 1) pe_int (fun _ _ => rfl)) (nomark _)) (pw_or1 (pt_cmpR (op_neD hr.units) (pe_fld (pv 0) rfl) (pe_ix ix_tup (pe_ix ix_tup (pv 1) pe_int (fun _ _ => rfl)) pe_int (fun _ _ => rfl)) (nomark _))))) (pss_one (ps_ret pe_bl)) pss_nil) (pss_one (ps_ret (pe_and (pe_cmpR (op_eqD hr.units) (pe_fld (pv 0) rfl) (pe_ix ix_tup (pe_ix ix_tup (pv 1) pe_int (fun _ _ => rfl)) pe_int (fun _ _ => rfl)) (nomark _)) (pe_one (pe_cmpR (op_eqD hr.units) (pe_fld (pv 0) rfl) (pe_ix ix_tup (pe_ix ix_tup (pv 1) pe_int (fun _ _ => rfl)) pe_int (fun _ _ => rfl)) (nomark _)))))))), ?_⟩
    walk_at "un"
    refine tIfS_by ((m.place != m0.place) || ((m.fetches != m0.fetches) || (m.ended != m0.ended))) (fun R' r => ?_) (fun hb => ?_) (fun hb => ?_)
    · refine tOr_by (m.place != m0.place) ((m.fetches != m0.fetches) || (m.ended != m0.ended)) (fun R' r => ?_) (fun _ R' r => ?_) r
      · refine ⟨_, rfl, p, _, _, _, _, rfl, R.ob, T.clPipeline, T.nPipeline_place, pL_place _ _ _ _ _ _ _, _, rfl, sv, _, _, _, rfl, rfl, SqT.of h1, rfl, rfl, _, rfl, ?_⟩
        rw [dec_nat]
        exact r
      · refine tOr_by (m.fetches != m0.fetches) (m.ended != m0.ended) (fun R' r => ?_) (fun _ R' r => ?_) r
        · refine ⟨_, rfl, p, _, _, _, _, rfl, R.ob, T.clPipeline, T.nPipeline_fetches, pL_fetches _ _ _ _ _ _ _, _, rfl, sv, _, _, _, rfl, rfl, SqT.of h1, rfl, rfl, _, rfl, ?_⟩
          rw [dec_bl]
          exact r
        · refine ⟨_, rfl, p, _, _, _, _, rfl, R.ob, T.clPipeline, T.nPipeline_ended, pL_ended _ _ _ _ _ _ _, _, rfl, sv, _, _, _, rfl, rfl, SqT.of h1, rfl, rfl, _, rfl, ?_⟩
          rw [dec_bl]
          exact r
    · have hne : ¬ m = m0 := fun e => by
        subst e
        simp at hb
      have k' := k H (L2.Same.refl H)
      rw [decide_eq_false hne] at k'
      exact k'
    · have e1 : m.place = m0.place ∧ m.fetches = m0.fetches ∧ m.ended = m0.ended := by simpa using hb
      walk_at "un"
      refine ⟨_, rfl, p, _, _, rfl, R.ob, pN_stages _ _ _ _ _ _ _, p, g, v, Pg, m, n, rfl, R, fun t ht => ?_⟩
      have s1 := same_new (o := .tup [v.rd, v.rk, v.im, v.wr]) ht
      have R1 := R.keep s1
      have g1 : upd H t (.tup [v.rd, v.rk, v.im, v.wr]) t = _ := upd_same
      have kt : ∀ t' xs, H t' = some (.tup xs) → upd H t (.tup [v.rd, v.rk, v.im, v.wr]) t' = some (.tup xs) := fun t' xs e => s1 _ _ e
      have k1 := k _ s1
      generalize upd H t (.tup [v.rd, v.rk, v.im, v.wr]) = H1 at s1 R1 g1 kt k1 ⊢
      refine ⟨_, rfl, sv, _, _, _, rfl, rfl, SqT.of (kt _ _ h1), rfl, t, t4, v.rd, v.rk, v.im, v.wr, x1, x2, x3, x4, Pg.ws, v.kvs, m, m0, rfl, rfl, g1, kt _ _ h2, R1.dk, R1.rd, R1.rk, R1.im, R1.wr, a1, a2.keep kt, a3.keep kt, a4.keep kt, _, rfl, ?_⟩
      refine ite2 (fun hc => ?_) (fun hc => ?_)
      · have hne : ¬ m = m0 := fun e => by
          subst e
          simp at hc
        rw [decide_eq_false hne] at k1
        exact k1
      · have e2 : m.rd = m0.rd ∧ m.rk = m0.rk ∧ m.im = m0.im ∧ m.wr = m0.wr := by simpa using hc
        refine ⟨_, rfl, p, _, _, _, _, rfl, R1.ob, T.clPipeline, T.nPipeline_registers, pL_registers _ _ _ _ _ _ _, _, rfl, sv, _, _, _, rfl, rfl, SqT.of (kt _ _ h1), rfl, th, _, _, _, rfl, rfl, SqT.of (kt _ _ h3), rfl, _, _, dN_at R1.rg, dN_at (s1 _ _ h4), dN_shaped _, dN_shaped _, _, rfl, ?_⟩
        rw [dN_eq]
        refine ite2 (fun hc => ?_) (fun hc => ?_)
        · have hne : ¬ m = m0 := fun e => by
            subst e
            simp at hc
          rw [decide_eq_false hne] at k1
          exact k1
        · have e3 : m.regs = m0.regs := by simpa using hc
          walk_at "un"
          have ed : decide (m = m0) = (decide (m.guess = m0.guess) && decide (m.mem = m0.mem)) := by
            rw [Bool.eq_iff_iff, Bool.and_eq_true, decide_eq_true_eq, decide_eq_true_eq, decide_eq_true_eq]
            exact ⟨fun e => by subst e; exact ⟨rfl, rfl⟩, fun e => ms_eq e1.1 e1.2.1 e1.2.2 e2.1 e2.2.1 e2.2.2.1 e2.2.2.2 e3 e.1 e.2⟩
          rw [ed] at k1
          refine tAndV_by (decide (m.guess = m0.guess)) (decide (m.mem = m0.mem)) (fun R' r => ?_) (fun _ R' r => ?_) k1
          · refine ⟨_, rfl, p, _, _, _, _, rfl, R1.ob, T.clPipeline, T.nPipeline_guesses, pL_guesses _ _ _ _ _ _ _, _, rfl, sv, _, _, _, rfl, rfl, SqT.of (kt _ _ h1), rfl, th, _, _, _, rfl, rfl, SqT.of (kt _ _ h3), rfl, _, _, dN_at R1.gg, dN_at (s1 _ _ h5), dN_shaped _, dN_shaped _, ?_⟩
            rw [dN_eq]
            exact r
          · refine ⟨_, rfl, p, _, _, _, _, rfl, R1.ob, T.clPipeline, T.nPipeline_memory, pL_memory _ _ _ _ _ _ _, _, rfl, sv, _, _, _, rfl, rfl, SqT.of (kt _ _ h1), rfl, th, _, _, _, rfl, rfl, SqT.of (kt _ _ h3), rfl, _, _, dN_at R1.mm, dN_at (s1 _ _ h6), dN_shaped _, dN_shaped _, ?_⟩
            rw [dN_eq]
            exact r
theorem ok_count_again (T : Txt K mg c) (f : Addr) (fd : FuncData) (F : Fun K "count_again" "Pipeline.count_again" s_count_again f fd) : FnOk P w K mg base CX0 1 f fd ps_count_again_ (sp_count_again c) := by
  refine F.ok sc_count_again (fun vs H Q E h => ?_) (fun cdv A outer s H vs Q E hr h => ?_)
  · obtain ⟨_, _, _, _, _, _, _, _, _, rfl, _⟩ := h
    rfl
  · obtain ⟨p, g, v, Pg, m, n0, d, t, j, rfl, R, ht, hj, k⟩ := h
    have hb : -(2 ^ 64 : Int) < (j : Int) ∧ (j : Int) < 2 ^ 64 := ⟨by omega, by omega⟩
    have ev : ∀ a b : Nat, V.int (((a + b : Nat) : Int) + (((a + b : Nat) : Int) - (a : Int)) * (j : Int)) = V.int (((a + b) + ((a + b) - a) * j : Nat) : Int) := fun a b => by
      have e : ((a + b : Nat) : Int) - (a : Int) = ((a + b - a : Nat) : Int) := by omega
      rw [e, ← Int.natCast_mul, ← Int.natCast_add]
    refine ⟨_, (pss_cons (ps_fldaug (pv 0) (pe_op op_mul (pe_op op_sub (pe_fld (pv 0) rfl) (pe_ix ix_tup (pv 1) pe_int (fun _ _ => rfl))) (pv 2)) in_add) (pss_cons (ps_fldaug (pv 0) (pe_op op_mul (pe_op op_sub (pe_fld (pv 0) rfl) (pe_ix ix_tup (pv 1) pe_int (fun _ _ => rfl))) (pv 2)) in_add) (pss_cons (ps_fldaug (pv 0) (pe_op op_mul (pe_op op_sub (pe_fld (pv 0) rfl) (pe_ix ix_tup (pv 1) pe_int (fun _ _ => rfl))) (pv 2)) in_add) (pss_one (ps_fldaug (pv 0) (pe_op op_mul (pe_op op_sub (pe_fld (pv 0) rfl) (pe_ix ix_tup (pv 1) pe_int (fun _ _ => rfl))) (pv 2)) in_add))))), ?_⟩
    refine ⟨_, rfl, p, _, _, _, _, rfl, R.ob, T.clPipeline, T.nPipeline_cycles, pL_cycles _ _ _ _ _ _ _, _, rfl, p, _, _, _, _, rfl, R.ob, T.clPipeline, T.nPipeline_cycles, pL_cycles _ _ _ _ _ _ _, _, rfl, t, _, _, _, rfl, rfl, SqT.of ht, rfl, _, _, rfl, rfl, _, rfl, _, _, rfl, rfl, .inr hb, _, _, rfl, rfl, _, _, R.ob, pF_len _ _ _ _ _ _ _, ?_⟩
    rw [show (n0.add d).cycles = n0.cycles + d.cycles from rfl, ev, pP_cycles]
    have R1 := R.fld T.neOrderPipeline v m { n0.add d with cycles := (n0.cycles + d.cycles) + ((n0.cycles + d.cycles) - n0.cycles) * j } rfl rfl rfl rfl R.rd R.rk R.im R.wr
    have ht1 := R.tupK (PipAt.fr_p _) t _ ht (H' := upd H p (.ins c.cPipeline g.dx (pipF Pg g v m.place m.fetches m.ended { n0.add d with cycles := (n0.cycles + d.cycles) + ((n0.cycles + d.cycles) - n0.cycles) * j })))
    have f1 : Fr g p H (upd H p (.ins c.cPipeline g.dx (pipF Pg g v m.place m.fetches m.ended { n0.add d with cycles := (n0.cycles + d.cycles) + ((n0.cycles + d.cycles) - n0.cycles) * j }))) := PipAt.fr_p _
    generalize upd H p (.ins c.cPipeline g.dx (pipF Pg g v m.place m.fetches m.ended { n0.add d with cycles := (n0.cycles + d.cycles) + ((n0.cycles + d.cycles) - n0.cycles) * j })) = H1 at R1 ht1 f1 ⊢
    refine ⟨_, rfl, p, _, _, _, _, rfl, R1.ob, T.clPipeline, T.nPipeline_done, pL_done _ _ _ _ _ _ _, _, rfl, p, _, _, _, _, rfl, R1.ob, T.clPipeline, T.nPipeline_done, pL_done _ _ _ _ _ _ _, _, rfl, t, _, _, _, rfl, rfl, SqT.of ht1, rfl, _, _, rfl, rfl, _, rfl, _, _, rfl, rfl, .inr hb, _, _, rfl, rfl, _, _, R1.ob, pF_len _ _ _ _ _ _ _, ?_⟩
    dsimp only [Cnt.add]
    rw [ev, pP_done]
    have R2 := R1.fld T.neOrderPipeline v m ⟨(n0.cycles + d.cycles) + ((n0.cycles + d.cycles) - n0.cycles) * j, (n0.done + d.done) + ((n0.done + d.done) - n0.done) * j, n0.waited + d.waited, n0.lost + d.lost⟩ rfl rfl rfl rfl R1.rd R1.rk R1.im R1.wr
    have f2 : Fr g p H1 (upd H1 p (.ins c.cPipeline g.dx (pipF Pg g v m.place m.fetches m.ended ⟨(n0.cycles + d.cycles) + ((n0.cycles + d.cycles) - n0.cycles) * j, (n0.done + d.done) + ((n0.done + d.done) - n0.done) * j, n0.waited + d.waited, n0.lost + d.lost⟩))) := PipAt.fr_p _
    have ht2 := R1.tupK f2 t _ ht1
    generalize upd H1 p (.ins c.cPipeline g.dx (pipF Pg g v m.place m.fetches m.ended ⟨(n0.cycles + d.cycles) + ((n0.cycles + d.cycles) - n0.cycles) * j, (n0.done + d.done) + ((n0.done + d.done) - n0.done) * j, n0.waited + d.waited, n0.lost + d.lost⟩)) = H2 at R2 ht2 f2 ⊢
    refine ⟨_, rfl, p, _, _, _, _, rfl, R2.ob, T.clPipeline, T.nPipeline_waited, pL_waited _ _ _ _ _ _ _, _, rfl, p, _, _, _, _, rfl, R2.ob, T.clPipeline, T.nPipeline_waited, pL_waited _ _ _ _ _ _ _, _, rfl, t, _, _, _, rfl, rfl, SqT.of ht2, rfl, _, _, rfl, rfl, _, rfl, _, _, rfl, rfl, .inr hb, _, _, rfl, rfl, _, _, R2.ob, pF_len _ _ _ _ _ _ _, ?_⟩
    dsimp only
    rw [ev, pP_waited]
    have R3 := R2.fld T.neOrderPipeline v m ⟨(n0.cycles + d.cycles) + ((n0.cycles + d.cycles) - n0.cycles) * j, (n0.done + d.done) + ((n0.done + d.done) - n0.done) * j, (n0.waited + d.waited) + ((n0.waited + d.waited) - n0.waited) * j, n0.lost + d.lost⟩ rfl rfl rfl rfl R2.rd R2.rk R2.im R2.wr
    have f3 : Fr g p H2 (upd H2 p (.ins c.cPipeline g.dx (pipF Pg g v m.place m.fetches m.ended ⟨(n0.cycles + d.cycles) + ((n0.cycles + d.cycles) - n0.cycles) * j, (n0.done + d.done) + ((n0.done + d.done) - n0.done) * j, (n0.waited + d.waited) + ((n0.waited + d.waited) - n0.waited) * j, n0.lost + d.lost⟩))) := PipAt.fr_p _
    have ht3 := R2.tupK f3 t _ ht2
    generalize upd H2 p (.ins c.cPipeline g.dx (pipF Pg g v m.place m.fetches m.ended ⟨(n0.cycles + d.cycles) + ((n0.cycles + d.cycles) - n0.cycles) * j, (n0.done + d.done) + ((n0.done + d.done) - n0.done) * j, (n0.waited + d.waited) + ((n0.waited + d.waited) - n0.waited) * j, n0.lost + d.lost⟩)) = H3 at R3 ht3 f3 ⊢
    refine ⟨_, rfl, p, _, _, _, _, rfl, R3.ob, T.clPipeline, T.nPipeline_lost, pL_lost _ _ _ _ _ _ _, _, rfl, p, _, _, _, _, rfl, R3.ob, T.clPipeline, T.nPipeline_lost, pL_lost _ _ _ _ _ _ _, _, rfl, t, _, _, _, rfl, rfl, SqT.of ht3, rfl, _, _, rfl, rfl, _, rfl, _, _, rfl, rfl, .inr hb, _, _, rfl, rfl, _, _, R3.ob, pF_len _ _ _ _ _ _ _, ?_⟩
    dsimp only
    rw [ev, pP_lost]
    exact k _ (R3.fld T.neOrderPipeline v m ((n0.add d).again n0 j) rfl rfl rfl rfl R3.rd R3.rk R3.im R3.wr) (f1.trans (f2.trans (f3.trans (PipAt.fr_p _))))
end
end Fs

set_option Elab.async false
set_option linter.all false
set_option maxRecDepth 100000
namespace Fs
open PySem L2
local macro_rules | `(tactic| walk_at "un") => `(tactic| try dsimp only [tSeq, tNext, tAsg, gName, sFld, sFldAug, tRet, tDrop])

/-- while: a test that leaves the heap as it is -/
theorem while_on {t : TT} {tb : TS} {D : Ends} {σ : St} {H : Hp} (W : Nat → St → Hp → Prop) (m0 : Nat) (h0 : W m0 σ H)
    (hs : ∀ m σ H, W m σ H → ∃ b : Bool, (∀ R : Bool → Hp → Prop, R b H → t σ H R) ∧ (b = true → tb { D with nx := fun σ' H' => ∃ m', m' < m ∧ W m' σ' H', ct := fun σ' H' => ∃ m', m' < m ∧ W m' σ' H', bk := D.nx } σ H) ∧ (b = false → D.nx σ H)) : tWhile t tb D σ H := by
  refine ⟨W, ⟨m0, h0⟩, fun m σ H hW => ?_⟩
  obtain ⟨b, h1, h2, h3⟩ := hs m σ H hW
  refine h1 _ ?_
  cases b with
  | true =>
    rw [if_pos rfl]
    exact ⟨_, fun σ' H' z => z, h2 rfl⟩
  | false =>
    rw [if_neg Bool.false_ne_true]
    exact h3 rfl

def sp_run_to_state (c : Cl) : Sp := fun vs H Q _ => ∃ (p : Addr) (g : Ge) (v : Va) (P : Pg) (m : MS) (n : Cnt) (sv : Addr) (m0 : MS) (most : Nat), vs = [.ref p, .ref sv, .int (most : Int)] ∧ PipAt c H p g v P m n ∧ StAt H g v.kvs sv m0 ∧ Live P m ∧ OkW P.ws ∧ P.ws.length ≤ 1024 ∧
  ∀ (H' : Hp) (v' : Va) (k : Nat), k ≤ most → (0 < most → m.ended = false → 0 < k) → PipAt c H' p g v' P (runM P k (m, n)).1 (runM P k (m, n)).2 → Ext v v' → Fr g p H H' → Q (.int (k : Int)) H'
def sp_run (c : Cl) : Sp := fun vs H Q _ => ∃ (p : Addr) (g : Ge) (v : Va) (P : Pg) (m : MS) (n : Cnt) (cyc : Nat), vs = [.ref p, .int (cyc : Int)] ∧ PipAt c H p g v P m n ∧ Live P m ∧ OkW P.ws ∧ P.ws.length ≤ 1024 ∧ cyc ≤ 1000000 ∧
  ∀ (H' : Hp) (v' : Va), PipAt c H' p g v' P (runM P cyc (m, n)).1 (runM P cyc (m, n)).2 → Ext v v' → Fr g p H H' → Q .non H'
theorem dec_lt (a b : Nat) : decide ((a : Int) < (b : Int)) = decide (a < b) := decide_eq_decide.mpr (by omega)

section
variable {P : Program} {w : World} {K : PySem.W.Frag} {mg : Str → Option Value} {base : Heap} {c : Cl}

theorem ok_run_to_state (T : Txt K mg c) (f : Addr) (fd : FuncData) (F : Fun K "run_to_state" "Pipeline.run_to_state" s_run_to_state f fd) : FnOk P w K mg base CX0 7 f fd ps_run_to_state_ (sp_run_to_state c) := by
  refine F.ok sc_run_to_state (fun vs H Q E h => ?_) (fun cdv A outer s H vs Q E hr h => ?_)
  · obtain ⟨_, _, _, _, _, _, _, _, _, rfl, _⟩ := h
    rfl
  · obtain ⟨p, g, v, Pg, m, n, sv, m0, most, rfl, R, S, L, hO, hw, k⟩ := h
    obtain ⟨t4, th, l1, l2, l3, x1, x2, x3, x4, h1, _⟩ := id S
    refine ⟨_, (pss_cons (ps_set (i := 3) sc_run_to_state.nd rfl (Or.inl rfl) (pe_ix ix_tup (pv 1) pe_int (fun _ _ => rfl))) (pss_cons (ps_set (i := 4) sc_run_to_state.nd rfl (Or.inl rfl) pe_int) (pss_cons (ps_while PassesOwn.never (PW.pt (pw_and (pt_cmpR op_lt (pv 4) (pv 2) (nomark _)) (pw_and1 (pt_not (pt_val (pe_fld (pv 0) rfl)))))) (pss_cons (ps_expr (pe_mdef0 (pv 0) T.clPipeline T.d_cycle (ok_cycle T) hr)) (pss_cons (ps_aug (i := 4) sc_run_to_state.nd rfl (Or.inl rfl) pe_int ip_add) (pss_one (ps_if (PW.pt (pw_and (pt_cmpR op_eq (pe_fld (pv 0) rfl) (pv 3) (nomark _)) (pw_and1 (pt_val (pe_mdef (pv 0) T.clPipeline T.d_is_in_state (ok_is_in_state T) hr (pa_cons (pv 1) pa_nil)))))) (pss_one ps_break) pss_nil))))) (pss_one (ps_ret (pv 4)))))), ?_⟩
    refine ⟨_, rfl, sv, _, _, _, rfl, rfl, SqT.of h1, rfl, ?_⟩
    dsimp only [tAsg, gName, tSeq]
    try dsimp only
    refine seq_by (t := tWhile _ _) (fun σ' H' => ∃ (j : Nat) (v1 : Va), j ≤ most ∧ (0 < most → m.ended = false → 0 < j) ∧ σ' = [some (.ref p), some (.ref sv), some (.int (most : Int)), some (.int (m0.place : Int)), some (.int (j : Int))] ∧ PipAt c H' p g v1 Pg (runM Pg j (m, n)).1 (runM Pg j (m, n)).2 ∧ Ext v v1 ∧ Fr g p H H') (fun D hD => ?_) ?_
    · refine while_on (fun mm σ' H' => ∃ (j : Nat) (v1 : Va), mm = most - j ∧ j ≤ most ∧ σ' = [some (.ref p), some (.ref sv), some (.int (most : Int)), some (.int (m0.place : Int)), some (.int (j : Int))] ∧ PipAt c H' p g v1 Pg (runM Pg j (m, n)).1 (runM Pg j (m, n)).2 ∧ Ext v v1 ∧ Fr g p H H') most ⟨0, v, rfl, Nat.zero_le _, rfl, R, Ext.refl v, Fr.refl _ _ _⟩ ?_
      rintro mm σ' H1 ⟨j, v1, rfl, hj, rfl, R1, ex1, f1⟩
      refine ⟨decide (j < most) && !(runM Pg j (m, n)).1.ended, fun R' r => ?_, fun hb => ?_, fun hb => ?_⟩
      · refine tAnd_by (decide (j < most)) (!(runM Pg j (m, n)).1.ended) (fun R' r => ?_) (fun _ R' r => ?_) r
        · refine ⟨_, rfl, _, rfl, _, _, rfl, rfl, _, rfl, ?_⟩
          rw [dec_lt]
          exact r
        · exact ⟨_, rfl, p, _, _, _, _, rfl, R1.ob, T.clPipeline, T.nPipeline_ended, pL_ended _ _ _ _ _ _ _, _, rfl, r⟩
      · rw [Bool.and_eq_true, decide_eq_true_eq, Bool.not_eq_true'] at hb
        have L1 := live_run Pg hw j (s := (m, n)) L
        walk_at "un"
        refine ⟨_, rfl, p, _, _, rfl, R1.ob, pN_cycle _ _ _ _ _ _ _, p, g, v1, Pg, _, _, rfl, R1, L1, hO, hw, fun H2 v2 R2 ex2 f2 => ?_⟩
        have eR := runM_succ Pg (n := j) (s := (m, n)) rfl hb.2
        have e1 : stepM Pg (runM Pg j (m, n)).1 = (runM Pg (j + 1) (m, n)).1 := congrArg Prod.fst eR
        have e2 : cntM Pg (runM Pg j (m, n)).1 (runM Pg j (m, n)).2 = (runM Pg (j + 1) (m, n)).2 := congrArg Prod.snd eR
        rw [e1, e2] at R2
        have S2 : StAt H2 g v2.kvs sv m0 := S.keep R (f1.trans f2) (ex1.trans ex2)
        refine ⟨_, rfl, _, _, rfl, rfl, ?_⟩
        dsimp only [List.set]
        have f12 := f1.trans f2
        have ex12 := ex1.trans ex2
        have fin : ∀ H3 : Hp, L2.Same H2 H3 → ∃ (j' : Nat) (v1 : Va), j' ≤ most ∧ (0 < most → m.ended = false → 0 < j') ∧ [some (V.ref p), some (V.ref sv), some (V.int (most : Int)), some (V.int (m0.place : Int)), some (V.int ((j : Int) + 1))] = [some (.ref p), some (.ref sv), some (.int (most : Int)), some (.int (m0.place : Int)), some (.int (j' : Int))] ∧ PipAt c H3 p g v1 Pg (runM Pg j' (m, n)).1 (runM Pg j' (m, n)).2 ∧ Ext v v1 ∧ Fr g p H H3 :=
          fun H3 s3 => ⟨j + 1, v2, hb.1, fun _ _ => Nat.succ_pos _, rfl, R2.keep s3, ex12, f12.trans (Fr.of_same s3)⟩
        have go : ∀ H3 : Hp, L2.Same H2 H3 → ∃ m', m' < most - j ∧ ∃ (j' : Nat) (v1 : Va), m' = most - j' ∧ j' ≤ most ∧ [some (V.ref p), some (V.ref sv), some (V.int (most : Int)), some (V.int (m0.place : Int)), some (V.int ((j : Int) + 1))] = [some (.ref p), some (.ref sv), some (.int (most : Int)), some (.int (m0.place : Int)), some (.int (j' : Int))] ∧ PipAt c H3 p g v1 Pg (runM Pg j' (m, n)).1 (runM Pg j' (m, n)).2 ∧ Ext v v1 ∧ Fr g p H H3 :=
          fun H3 s3 => ⟨most - (j + 1), by omega, j + 1, v2, rfl, hb.1, rfl, R2.keep s3, ex12, f12.trans (Fr.of_same s3)⟩
        refine ⟨_, rfl, p, _, _, _, _, rfl, R2.ob, T.clPipeline, T.nPipeline_place, pL_place _ _ _ _ _ _ _, _, rfl, rfl, _, rfl, ?_⟩
        refine ite2 (fun hc => ?_) (fun hc => ?_)
        · refine ⟨_, rfl, p, _, _, rfl, R2.ob, pN_is_in_state _ _ _ _ _ _ _, _, rfl, p, g, v2, Pg, _, _, sv, m0, rfl, R2, S2, fun H3 s3 => ⟨_, rfl, ?_⟩⟩
          refine ite2 (fun hd => ?_) (fun hd => ?_)
          · exact hD _ _ (fin H3 s3)
          · exact go H3 s3
        · refine iteF ?_
          exact go H2 (L2.Same.refl _)
      · refine hD _ _ ⟨j, v1, hj, fun h0 he => ?_, rfl, R1, ex1, f1⟩
        rcases Nat.eq_zero_or_pos j with z | z
        · subst z
          have e : (runM Pg 0 (m, n)).1.ended = false := he
          rw [e, decide_eq_true h0] at hb
          cases hb
        · exact z
    · rintro σ' H1 ⟨j, v1, hj, hpos, rfl, R1, ex1, f1⟩
      exact ⟨_, rfl, k H1 v1 j hj hpos R1 ex1 f1⟩

theorem ok_run (T : Txt K mg c) (f : Addr) (fd : FuncData) (F : Fun K "run" "Pipeline.run" s_run f fd) : FnOk P w K mg base CX0 8 f fd ps_run_ (sp_run c) := by
  refine F.ok sc_run (fun vs H Q E h => ?_) (fun cdv A outer s H vs Q E hr h => ?_)
  · obtain ⟨_, _, _, _, _, _, _, rfl, _⟩ := h
    rfl
  · obtain ⟨p, g, v, Pg, m, n, cyc, rfl, R, L, hO, hw, hcy, k⟩ := h
    refine ⟨_, (pss_cons (ps_set (i := 2) sc_run.nd rfl (Or.inl rfl) (pv 1)) (pss_cons (ps_set (i := 3) sc_run.nd rfl (Or.inl rfl) (pe_gint T.k_FIRST_STRETCH rfl)) (pss_one (ps_while PassesOwn.never (PW.pt (pw_and (pt_cmpR op_gt (pv 2) pe_int (nomark _)) (pw_and1 (pt_not (pt_val (pe_fld (pv 0) rfl)))))) (pss_cons (ps_set (i := 4) sc_run.nd rfl (Or.inl rfl) (pe_mdef0 (pv 0) T.clPipeline T.d_state (ok_state T) hr)) (pss_cons (ps_set (i := 5) sc_run.nd rfl (Or.inl rfl) (pe_mdef0 (pv 0) T.clPipeline T.d_counts (ok_counts T) hr)) (pss_cons (ps_set (i := 6) sc_run.nd rfl (Or.inl rfl) (pe_mdef (pv 0) T.clPipeline T.d_run_to_state (ok_run_to_state T) hr (pa_cons (pv 4) (pa_cons (pe_callB (call_min2 rfl) (by rfl) T.b_min PyProof.Rows.boot_min (pa_cons (pv 3) (pa_cons (pv 2) pa_nil))) pa_nil)))) (pss_cons (ps_aug (i := 2) sc_run.nd rfl (Or.inl rfl) (pv 6) ip_sub) (pss_cons (ps_if (pt_val (pe_mdef (pv 0) T.clPipeline T.d_is_in_state (ok_is_in_state T) hr (pa_cons (pv 4) pa_nil))) (pss_cons (ps_expr (pe_mdef (pv 0) T.clPipeline T.d_count_again (ok_count_again T) hr (pa_cons (pv 5) (pa_cons (pe_op op_fdiv (pv 2) (pv 6)) pa_nil)))) (pss_one (ps_set (i := 2) sc_run.nd rfl (Or.inl rfl) (pe_op op_mod (pv 2) (pv 6))))) pss_nil) (pss_one (ps_set (i := 3) sc_run.nd rfl (Or.inl rfl) (pe_op op_mul (pv 3) pe_int)))))))))))), ?_⟩
    refine ⟨_, rfl, ?_⟩
    dsimp only [tAsg, gName, tSeq]
    refine while_on (fun mm σ' H' => ∃ (left st : Nat) (m1 : MS) (n1 : Cnt) (v1 : Va) (s4 s5 s6 : Option V), mm = left ∧ left ≤ 1000000 ∧ 0 < st ∧ σ' = [some (.ref p), some (.int (cyc : Int)), some (.int (left : Int)), some (.int (st : Int)), s4, s5, s6] ∧ runM Pg cyc (m, n) = runM Pg left (m1, n1) ∧ Live Pg m1 ∧ PipAt c H' p g v1 Pg m1 n1 ∧ Ext v v1 ∧ Fr g p H H') cyc
      ⟨cyc, 64, m, n, v, none, none, none, rfl, hcy, by decide, rfl, rfl, L, R, Ext.refl v, Fr.refl _ _ _⟩ ?_
    rintro mm σ' H1 ⟨left, st, m1, n1, v1, s4, s5, s6, rfl, hleft, hst, rfl, eR, L1, R1, ex1, f1⟩
    refine ⟨decide (0 < mm) && !m1.ended, fun R' r => ?_, fun hb => ?_, fun hb => ?_⟩
    · refine tAnd_by (decide (0 < mm)) (!m1.ended) (fun R' r => ?_) (fun _ R' r => ?_) r
      · refine ⟨_, rfl, _, _, rfl, rfl, _, rfl, ?_⟩
        have e := dec_lt 0 mm
        rw [← e] at r
        exact r
      · exact ⟨_, rfl, p, _, _, _, _, rfl, R1.ob, T.clPipeline, T.nPipeline_ended, pL_ended _ _ _ _ _ _ _, _, rfl, r⟩
    · rw [Bool.and_eq_true, decide_eq_true_eq, Bool.not_eq_true'] at hb
      obtain ⟨hb1, hb2⟩ := hb
      walk_at "un"
      -- state
      refine ⟨_, rfl, p, _, _, rfl, R1.ob, pN_state _ _ _ _ _ _ _, p, g, v1, Pg, m1, n1, rfl, R1, fun H2 sv s2 S2 => ?_⟩
      have R2 := R1.keep s2
      -- counts
      refine ⟨_, rfl, p, _, _, rfl, R2.ob, pN_counts _ _ _ _ _ _ _, p, g, v1, Pg, m1, n1, rfl, R2, fun t ht => ?_⟩
      have s3 := same_new (o := .tup (cntV n1)) ht
      have R3 := R2.keep s3
      have S3 : StAt (upd H2 t (.tup (cntV n1))) g v1.kvs sv m1 := S2.same s3
      have t3 : upd H2 t (.tup (cntV n1)) t = _ := upd_same
      generalize upd H2 t (.tup (cntV n1)) = H3 at s3 R3 S3 t3 ⊢
      have f3 : Fr g p H H3 := f1.trans (Fr.of_same (s2.trans s3))
      dsimp only [List.set]
      -- gone
      refine ⟨_, rfl, p, _, _, rfl, R3.ob, pN_run_to_state _ _ _ _ _ _ _, _, rfl, _, rfl, _, rfl, _, _, rfl, p, g, v1, Pg, m1, n1, sv, m1, min st mm, ?_, R3, S3, L1, hO, hw, fun H4 v4 j hj hpos R4 ex4 f4 => ?_⟩
      · have e : (if (mm : Int) < (st : Int) then (mm : Int) else (st : Int)) = ((min st mm : Nat) : Int) := by split <;> omega
        show [V.ref p, V.ref sv, V.int (if (mm : Int) < (st : Int) then (mm : Int) else (st : Int))] = _
        rw [e]
      have hj0 : 0 < j := hpos (by omega) hb2
      have hjm : j ≤ mm := by omega
      have S4 : StAt H4 g v4.kvs sv m1 := S3.keep R3 f4 ex4
      have t4 := R3.tupK f4 t _ t3
      have eR2 : runM Pg cyc (m, n) = runM Pg (mm - j) (runM Pg j (m1, n1)) := by
        rw [eR, ← runM_plus]
        congr 1
        omega
      have L4 := live_run Pg hw j (s := (m1, n1)) L1
      -- left
      refine ⟨_, rfl, _, rfl, _, _, rfl, rfl, ?_⟩
      have eL : V.int ((mm : Int) - (j : Int)) = V.int ((mm - j : Nat) : Int) := by congr 1; omega
      rw [eL]
      dsimp only [List.set]
      -- the state again?
      try dsimp only
      refine seq_by (fun σ' H' => ∃ (left' : Nat) (m' : MS) (n' : Cnt) (v' : Va), left' < mm ∧ σ' = [some (.ref p), some (.int (cyc : Int)), some (.int (left' : Int)), some (.int (st : Int)), some (.ref sv), some (.ref t), some (.int (j : Int))] ∧ runM Pg cyc (m, n) = runM Pg left' (m', n') ∧ Live Pg m' ∧ PipAt c H' p g v' Pg m' n' ∧ Ext v v' ∧ Fr g p H H') (fun D hD => ?_) ?_
      · walk_at "un"
        refine ⟨_, rfl, p, _, _, rfl, R4.ob, pN_is_in_state _ _ _ _ _ _ _, _, rfl, p, g, v4, Pg, _, _, sv, m1, rfl, R4, S4, fun H5 s5 => ⟨_, rfl, ?_⟩⟩
        have R5 := R4.keep s5
        have t5 := s5 _ _ t4
        have f5 : Fr g p H H5 := f3.trans (f4.trans (Fr.of_same s5))
        refine ite2 (fun hc => ?_) (fun hc => ?_)
        · have em : (runM Pg j (m1, n1)).1 = m1 := of_decide_eq_true hc
          have ec : (runM Pg j (m1, n1)).2 = n1.add (runM Pg j (m1, cnt0)).2 := congrArg Prod.snd (runM_from Pg j m1 n1)
          rw [em] at R5 L4
          rw [ec] at R5
          have eA : runM Pg j (m1, n1) = (m1, n1.add (runM Pg j (m1, cnt0)).2) := Prod.ext em ec
          have eS := runM_skip Pg (left := mm - j) eA
          rw [eA, eS] at eR2
          have hdv : (mm - j) / j ≤ 1000000 := Nat.le_trans (Nat.div_le_self _ _) (by omega)
          refine ⟨_, rfl, p, _, _, rfl, R5.ob, pN_count_again _ _ _ _ _ _ _, _, rfl, _, rfl, _, rfl, _, _, rfl, rfl, ⟨by omega, by omega⟩, p, g, v4, Pg, m1, n1, _, t, (mm - j) / j, rfl, R5, t5, hdv, fun H6 R6 f6 => ?_⟩
          refine ⟨_, rfl, _, rfl, _, _, rfl, rfl, (by show (0 : Int) < (j : Int); omega), ?_⟩
          exact hD _ _ ⟨(mm - j) % j, m1, _, v4, Nat.lt_of_lt_of_le (Nat.mod_lt _ hj0) hjm, rfl, eR2, L4, R6, ex1.trans ex4, f5.trans f6⟩
        · exact hD _ _ ⟨mm - j, _, _, v4, by omega, rfl, eR2, L4, R5, ex1.trans ex4, f5⟩
      · rintro σ' H6 ⟨left', m', n', v', hl', rfl, eR6, L6, R6, ex6, f6⟩
        refine ⟨_, rfl, _, _, rfl, rfl, .inr ⟨by decide, by decide⟩, ?_⟩
        exact ⟨left', hl', left', st * 2, m', n', v', _, _, _, rfl, by omega, by omega, rfl, eR6, L6, R6, ex6, f6⟩
    · have e : runM Pg mm (m1, n1) = (m1, n1) := by
        rcases Nat.eq_zero_or_pos mm with z | z
        · subst z; rfl
        · have he : m1.ended = true := by
            rw [decide_eq_true z, Bool.true_and] at hb
            simpa using hb
          exact runM_end Pg mm (m1, n1) he
      refine k H1 v1 ?_ ex1 f1
      rw [eR, e]
      exact R1
end
end Fs

set_option Elab.async false
set_option linter.all false
set_option maxRecDepth 100000
namespace Fs
open PySem L2
local macro_rules | `(tactic| walk_at "un") => `(tactic| try dsimp only [tSeq, tNext, tAsg, gName, sFld, sFldAug, tRet, tDrop])
local macro_rules | `(tactic| walk_at "len") => `(tactic| exact Nat.le_of_ble_eq_true (by kernel_rfl))

theorem pI_orders (y0 : V) : putF "orders" y0 [] = ([("orders", y0)] : List (Str × V)) := by kernel_rfl
theorem pI_hands_on (y0 y1 : V) : putF "hands_on" y1 [("orders", y0)] = ([("orders", y0), ("hands_on", y1)] : List (Str × V)) := by kernel_rfl
theorem pI_guesses_goings (y0 y1 y2 : V) : putF "guesses_goings" y2 [("orders", y0), ("hands_on", y1)] = ([("orders", y0), ("hands_on", y1), ("guesses_goings", y2)] : List (Str × V)) := by kernel_rfl
theorem pI_registers (y0 y1 y2 y3 : V) : putF "registers" y3 [("orders", y0), ("hands_on", y1), ("guesses_goings", y2)] = ([("orders", y0), ("hands_on", y1), ("guesses_goings", y2), ("registers", y3)] : List (Str × V)) := by kernel_rfl
theorem pI_memory (y0 y1 y2 y3 y4 : V) : putF "memory" y4 [("orders", y0), ("hands_on", y1), ("guesses_goings", y2), ("registers", y3)] = ([("orders", y0), ("hands_on", y1), ("guesses_goings", y2), ("registers", y3), ("memory", y4)] : List (Str × V)) := by kernel_rfl
theorem pI_guesses (y0 y1 y2 y3 y4 y5 : V) : putF "guesses" y5 [("orders", y0), ("hands_on", y1), ("guesses_goings", y2), ("registers", y3), ("memory", y4)] = ([("orders", y0), ("hands_on", y1), ("guesses_goings", y2), ("registers", y3), ("memory", y4), ("guesses", y5)] : List (Str × V)) := by kernel_rfl
theorem pI_place (y0 y1 y2 y3 y4 y5 y6 : V) : putF "place" y6 [("orders", y0), ("hands_on", y1), ("guesses_goings", y2), ("registers", y3), ("memory", y4), ("guesses", y5)] = ([("orders", y0), ("hands_on", y1), ("guesses_goings", y2), ("registers", y3), ("memory", y4), ("guesses", y5), ("place", y6)] : List (Str × V)) := by kernel_rfl
theorem pI_fetches (y0 y1 y2 y3 y4 y5 y6 y7 : V) : putF "fetches" y7 [("orders", y0), ("hands_on", y1), ("guesses_goings", y2), ("registers", y3), ("memory", y4), ("guesses", y5), ("place", y6)] = ([("orders", y0), ("hands_on", y1), ("guesses_goings", y2), ("registers", y3), ("memory", y4), ("guesses", y5), ("place", y6), ("fetches", y7)] : List (Str × V)) := by kernel_rfl
theorem pI_to_read (y0 y1 y2 y3 y4 y5 y6 y7 y8 : V) : putF "to_read" y8 [("orders", y0), ("hands_on", y1), ("guesses_goings", y2), ("registers", y3), ("memory", y4), ("guesses", y5), ("place", y6), ("fetches", y7)] = ([("orders", y0), ("hands_on", y1), ("guesses_goings", y2), ("registers", y3), ("memory", y4), ("guesses", y5), ("place", y6), ("fetches", y7), ("to_read", y8)] : List (Str × V)) := by kernel_rfl
theorem pI_to_reckon (y0 y1 y2 y3 y4 y5 y6 y7 y8 y9 : V) : putF "to_reckon" y9 [("orders", y0), ("hands_on", y1), ("guesses_goings", y2), ("registers", y3), ("memory", y4), ("guesses", y5), ("place", y6), ("fetches", y7), ("to_read", y8)] = ([("orders", y0), ("hands_on", y1), ("guesses_goings", y2), ("registers", y3), ("memory", y4), ("guesses", y5), ("place", y6), ("fetches", y7), ("to_read", y8), ("to_reckon", y9)] : List (Str × V)) := by kernel_rfl
theorem pI_in_memory (y0 y1 y2 y3 y4 y5 y6 y7 y8 y9 y10 : V) : putF "in_memory" y10 [("orders", y0), ("hands_on", y1), ("guesses_goings", y2), ("registers", y3), ("memory", y4), ("guesses", y5), ("place", y6), ("fetches", y7), ("to_read", y8), ("to_reckon", y9)] = ([("orders", y0), ("hands_on", y1), ("guesses_goings", y2), ("registers", y3), ("memory", y4), ("guesses", y5), ("place", y6), ("fetches", y7), ("to_read", y8), ("to_reckon", y9), ("in_memory", y10)] : List (Str × V)) := by kernel_rfl
theorem pI_to_write (y0 y1 y2 y3 y4 y5 y6 y7 y8 y9 y10 y11 : V) : putF "to_write" y11 [("orders", y0), ("hands_on", y1), ("guesses_goings", y2), ("registers", y3), ("memory", y4), ("guesses", y5), ("place", y6), ("fetches", y7), ("to_read", y8), ("to_reckon", y9), ("in_memory", y10)] = ([("orders", y0), ("hands_on", y1), ("guesses_goings", y2), ("registers", y3), ("memory", y4), ("guesses", y5), ("place", y6), ("fetches", y7), ("to_read", y8), ("to_reckon", y9), ("in_memory", y10), ("to_write", y11)] : List (Str × V)) := by kernel_rfl
theorem pI_ended (y0 y1 y2 y3 y4 y5 y6 y7 y8 y9 y10 y11 y12 : V) : putF "ended" y12 [("orders", y0), ("hands_on", y1), ("guesses_goings", y2), ("registers", y3), ("memory", y4), ("guesses", y5), ("place", y6), ("fetches", y7), ("to_read", y8), ("to_reckon", y9), ("in_memory", y10), ("to_write", y11)] = ([("orders", y0), ("hands_on", y1), ("guesses_goings", y2), ("registers", y3), ("memory", y4), ("guesses", y5), ("place", y6), ("fetches", y7), ("to_read", y8), ("to_reckon", y9), ("in_memory", y10), ("to_write", y11), ("ended", y12)] : List (Str × V)) := by kernel_rfl
theorem pI_cycles (y0 y1 y2 y3 y4 y5 y6 y7 y8 y9 y10 y11 y12 y13 : V) : putF "cycles" y13 [("orders", y0), ("hands_on", y1), ("guesses_goings", y2), ("registers", y3), ("memory", y4), ("guesses", y5), ("place", y6), ("fetches", y7), ("to_read", y8), ("to_reckon", y9), ("in_memory", y10), ("to_write", y11), ("ended", y12)] = ([("orders", y0), ("hands_on", y1), ("guesses_goings", y2), ("registers", y3), ("memory", y4), ("guesses", y5), ("place", y6), ("fetches", y7), ("to_read", y8), ("to_reckon", y9), ("in_memory", y10), ("to_write", y11), ("ended", y12), ("cycles", y13)] : List (Str × V)) := by kernel_rfl
theorem pI_done (y0 y1 y2 y3 y4 y5 y6 y7 y8 y9 y10 y11 y12 y13 y14 : V) : putF "done" y14 [("orders", y0), ("hands_on", y1), ("guesses_goings", y2), ("registers", y3), ("memory", y4), ("guesses", y5), ("place", y6), ("fetches", y7), ("to_read", y8), ("to_reckon", y9), ("in_memory", y10), ("to_write", y11), ("ended", y12), ("cycles", y13)] = ([("orders", y0), ("hands_on", y1), ("guesses_goings", y2), ("registers", y3), ("memory", y4), ("guesses", y5), ("place", y6), ("fetches", y7), ("to_read", y8), ("to_reckon", y9), ("in_memory", y10), ("to_write", y11), ("ended", y12), ("cycles", y13), ("done", y14)] : List (Str × V)) := by kernel_rfl
theorem pI_waited (y0 y1 y2 y3 y4 y5 y6 y7 y8 y9 y10 y11 y12 y13 y14 y15 : V) : putF "waited" y15 [("orders", y0), ("hands_on", y1), ("guesses_goings", y2), ("registers", y3), ("memory", y4), ("guesses", y5), ("place", y6), ("fetches", y7), ("to_read", y8), ("to_reckon", y9), ("in_memory", y10), ("to_write", y11), ("ended", y12), ("cycles", y13), ("done", y14)] = ([("orders", y0), ("hands_on", y1), ("guesses_goings", y2), ("registers", y3), ("memory", y4), ("guesses", y5), ("place", y6), ("fetches", y7), ("to_read", y8), ("to_reckon", y9), ("in_memory", y10), ("to_write", y11), ("ended", y12), ("cycles", y13), ("done", y14), ("waited", y15)] : List (Str × V)) := by kernel_rfl
theorem pI_lost (y0 y1 y2 y3 y4 y5 y6 y7 y8 y9 y10 y11 y12 y13 y14 y15 y16 : V) : putF "lost" y16 [("orders", y0), ("hands_on", y1), ("guesses_goings", y2), ("registers", y3), ("memory", y4), ("guesses", y5), ("place", y6), ("fetches", y7), ("to_read", y8), ("to_reckon", y9), ("in_memory", y10), ("to_write", y11), ("ended", y12), ("cycles", y13), ("done", y14), ("waited", y15)] = ([("orders", y0), ("hands_on", y1), ("guesses_goings", y2), ("registers", y3), ("memory", y4), ("guesses", y5), ("place", y6), ("fetches", y7), ("to_read", y8), ("to_reckon", y9), ("in_memory", y10), ("to_write", y11), ("ended", y12), ("cycles", y13), ("done", y14), ("waited", y15), ("lost", y16)] : List (Str × V)) := by kernel_rfl

theorem pipF_start (P : Pg) (g : Ge) (kvs : List (Key × V)) : pipF P g ⟨kvs, .non, .non, .non, .non⟩ 0 true false cnt0 =
  ([("orders", .ref g.d), ("hands_on", .bl P.hands), ("guesses_goings", .bl P.gs), ("registers", .ref g.lr), ("memory", .ref g.lm), ("guesses", .ref g.lg), ("place", .int 0), ("fetches", .bl true), ("to_read", .non), ("to_reckon", .non), ("in_memory", .non), ("to_write", .non), ("ended", .bl false), ("cycles", .int 0), ("done", .int 0), ("waited", .int 0), ("lost", .int 0)] : List (Str × V)) := rfl
/-- over enumerate(list), the list left as it is -/
theorem for_enum {K : PySem.W.Frag} {a : Addr} {xs : List V} {g : TG} {tb : TS} {D : Ends} {σ : St} {H : Hp} (Pv : Nat → St → Hp → Prop) (h0 : Pv 0 σ H) (hl : ∀ i σ H, i ≤ xs.length → Pv i σ H → SqL K H a xs)
    (hs : ∀ i x σ H t, xs[i]? = some x → Pv i σ H → H t = none → g (.ref t) σ (upd H t (.tup [.int (i : Nat), x])) fun σ2 H2 => tb { D with nx := Pv (i + 1), ct := Pv (i + 1), bk := D.nx } σ2 H2) (hd : ∀ σ H, Pv xs.length σ H → D.nx σ H) :
    ∃ W : Nat → Nat → St → Hp → Prop, (∃ m, W 0 m σ H) ∧ ∀ i m σ H, W i m σ H →
      ((Ite K a).stop i H ∧ D.nx σ H) ∨ ((Ite K a).go i H ∧ ∃ N : St → Hp → Prop, (∀ σ' H', N σ' H' → ∃ m', m' < m ∧ W (i + 1) m' σ' H') ∧ ∀ x H', (Ite K a).yld i H x H' → g x σ H' fun σ2 H2 => tb { D with nx := N, ct := N, bk := D.nx } σ2 H2) := by
  refine ⟨fun i m σ H => m = xs.length - i ∧ i ≤ xs.length ∧ Pv i σ H, ⟨xs.length, by simp, Nat.zero_le _, h0⟩, ?_⟩
  rintro i m σ H ⟨rfl, hi, p⟩
  have q := hl i σ H hi p
  by_cases hlt : i < xs.length
  · refine .inr ⟨⟨xs, xs[i], q, by simp [hlt]⟩, Pv (i + 1), fun σ' H' p' => ⟨xs.length - (i + 1), by omega, rfl, hlt, p'⟩, fun x H' y => ?_⟩
    obtain ⟨t, x', e1, e2, e3, y⟩ := y
    subst e1 e3
    exact hs i x' σ _ t (y xs q) p e2
  · have e : i = xs.length := by omega
    subst e
    exact .inl ⟨⟨xs, q, Nat.le_refl _⟩, hd σ H p⟩
theorem rep_one {x : V} : ∀ k : Nat, (List.replicate k [x]).flatten = List.replicate k x
  | 0 => rfl
  | k + 1 => by rw [List.replicate_succ, List.flatten_cons, rep_one k, List.replicate_succ]; rfl
theorem lint_rep (k a : Nat) : lint (List.replicate k a) = List.replicate k (.int (a : Int)) := by unfold lint; rw [List.map_replicate]
theorem lint_at {l : List Nat} {i : Nat} {x : V} (h : (lint l)[i]? = some x) : ∃ a : Nat, l[i]? = some a ∧ x = .int (a : Int) := by
  unfold lint at h
  rw [List.getElem?_map] at h
  obtain ⟨a, h1, h2⟩ := Option.map_eq_some_iff.mp h
  exact ⟨a, h1, h2.symm⟩
theorem ordAt_of {ws : List Nat} {i a : Nat} (h : ws[i]? = some a) : ordAt ws i = mkOrd i a := by
  unfold ordAt wordAt
  rw [List.getD_eq_getElem?_getD, h]
  rfl
theorem way1 {w : Int} (h0 : 0 ≤ w) (h3 : w ≤ 3) : (!decide (V.int (Builtin.bitAnd w 1) = V.int 0)) = decide (w % 2 = 1) := by
  have h : w = 0 ∨ w = 1 ∨ w = 2 ∨ w = 3 := by omega
  rcases h with rfl | rfl | rfl | rfl <;> decide
theorem way2 {w : Int} (h0 : 0 ≤ w) (h3 : w ≤ 3) : (!decide (V.int (Builtin.bitAnd w 2) = V.int 0)) = decide (w / 2 % 2 = 1) := by
  have h : w = 0 ∨ w = 1 ∨ w = 2 ∨ w = 3 := by omega
  rcases h with rfl | rfl | rfl | rfl <;> decide

def Fresh (H : Hp) (g : Ge) : Prop := H g.d = none ∧ H g.lr = none ∧ H g.lm = none ∧ H g.lg = none
def sp_Pipeline_init (c : Cl) : Sp := fun vs H Q _ => ∃ (a dx lw : Addr) (ws : List Nat) (way : Int), vs = [.ref a, .ref lw, .int way] ∧ H a = some (.ins c.cPipeline dx []) ∧ H lw = some (.lst (lint ws)) ∧ ws.length ≤ 1024 ∧ 0 ≤ way ∧ way ≤ 3 ∧
  ∀ (H' : Hp) (g : Ge) (v : Va), PipAt c H' a g v (pgOf ws way) startM cnt0 → (∀ b u, H b = some u → b ≠ a → H' b = some u) → Fresh H g → Q .non H'
/-- the orders put in so far -/
structure Some_ (c : Cl) (H : Hp) (ws : List Nat) (i : Nat) (kvs : List (Key × V)) : Prop where
  at_ : ∀ (k : Key) (v : V), valV kvs k = some v → ∃ (q : Nat) (a : Addr), k = Sum.inl (q : Int) ∧ v = .ref a ∧ OrdAt c H a (ordAt ws q) ∧ q < i
  has : ∀ q, q < i → ∃ v, valV kvs (Sum.inl (q : Int)) = some v
  nd : (kvs.map (·.1)).Nodup
  len : kvs.length = i

section
variable {P : Program} {w : World} {K : PySem.W.Frag} {mg : Str → Option Value} {base : Heap} {c : Cl}

theorem ok_Pipeline_init (T : Txt K mg c) (f : Addr) (fd : FuncData) (F : Fun K "__init__" "Pipeline.__init__" s_Pipeline_init f fd) : FnOk P w K mg base CX0 4 f fd ps_Pipeline_init_ (sp_Pipeline_init c) := by
  refine F.ok sc_Pipeline_init (fun vs H Q E h => ?_) (fun cdv A outer s H vs Q E hr h => ?_)
  · obtain ⟨_, _, _, _, _, rfl, _⟩ := h
    rfl
  · obtain ⟨a, dx, lw, ws, way, rfl, ha, hlw, hws, hw0, hw3, k⟩ := h
    have hal : a ≠ lw := ne_of ha hlw (by intro z; cases z)
    refine ⟨_, (pss_cons (ps_fld (pv 0) pe_dnewK rfl) (pss_cons (ps_for PassesOwn.never rfl (pi_enum (by rfl) T.b_enumerate (pa_cons (pv 1) pa_nil)) (pg_tup rfl (pgs_cons (pg_name (i := 3) sc_Pipeline_init.nd rfl (Or.inl rfl)) (pgs_cons (pg_name (i := 4) sc_Pipeline_init.nd rfl (Or.inl rfl)) pgs_nil))) (pss_one (ps_dput (hu_of hr) (pe_fld (pv 0) rfl) (pv 3) (pe_idef T.d_Order_init (ok_Order_init T) hr rfl (pa_cons (pv 3) (pa_cons (pv 4) pa_nil))) rfl))) (pss_cons (ps_fld (pv 0) (pe_cmpR op_ne (pe_op op_and (pv 2) pe_int) pe_int (nomark _)) rfl) (pss_cons (ps_fld (pv 0) (pe_cmpR op_ne (pe_op op_and (pv 2) pe_int) pe_int (nomark _)) rfl) (pss_cons (ps_fld (pv 0) (pe_op op_rep (pe_lst (pa_cons pe_int pa_nil)) pe_int) rfl) (pss_cons (ps_fld (pv 0) (pe_op op_rep (pe_lst (pa_cons pe_int pa_nil)) pe_int) rfl) (pss_cons (ps_fld (pv 0) (pe_op op_rep (pe_lst (pa_cons pe_int pa_nil)) pe_int) rfl) (pss_cons (ps_fld (pv 0) pe_int rfl) (pss_cons (ps_fld (pv 0) pe_bl rfl) (pss_cons (ps_fld (pv 0) pe_non rfl) (pss_cons (ps_fld (pv 0) pe_non rfl) (pss_cons (ps_fld (pv 0) pe_non rfl) (pss_cons (ps_fld (pv 0) pe_non rfl) (pss_cons (ps_fld (pv 0) pe_bl rfl) (pss_cons (ps_fld (pv 0) pe_int rfl) (pss_cons (ps_fld (pv 0) pe_int rfl) (pss_cons (ps_fld (pv 0) pe_int rfl) (pss_one (ps_fld (pv 0) pe_int rfl))))))))))))))))))), ?_⟩
    intro d hd
    have had : a ≠ d := ne_of_none ha hd
    refine ⟨_, rfl, a, _, dx, _, rfl, (by rw [upd_ne had]; exact ha), T.clPipeline, T.nPipeline_orders, (by walk_at "len"), ?_⟩
    rw [pI_orders]
    have g0 : upd (upd H d (.dK [])) a (.ins c.cPipeline dx [("orders", .ref d)]) a = _ := upd_same
    have g1 : upd (upd H d (.dK [])) a (.ins c.cPipeline dx [("orders", .ref d)]) d = some (.dK []) := by rw [upd_ne had.symm]; exact upd_same
    have g2 : upd (upd H d (.dK [])) a (.ins c.cPipeline dx [("orders", .ref d)]) lw = some (.lst (lint ws)) := by rw [upd_ne hal.symm, upd_ne (ne_of_none hlw hd)]; exact hlw
    have g3 : ∀ b u, H b = some u → b ≠ a → upd (upd H d (.dK [])) a (.ins c.cPipeline dx [("orders", .ref d)]) b = some u := fun b u e hb => by rw [upd_ne hb, upd_ne (ne_of_none e hd)]; exact e
    generalize upd (upd H d (.dK [])) a (.ins c.cPipeline dx [("orders", .ref d)]) = H1 at g0 g1 g2 g3 ⊢
    try dsimp only
    refine seq_by (fun σ' H' => (∃ s3 s4, σ' = [some (.ref a), some (.ref lw), some (.int way), s3, s4]) ∧ ∃ kvs, H' a = some (.ins c.cPipeline dx [("orders", .ref d)]) ∧ H' d = some (.dK kvs) ∧ Some_ c H' ws ws.length kvs ∧ ∀ b u, H b = some u → b ≠ a → H' b = some u) (fun D hD => ?_) ?_
    · refine ⟨_, rfl, lw, _, rfl, SqL.of g2, for_enum (xs := lint ws) (fun i σ' H' => (∃ s3 s4, σ' = [some (.ref a), some (.ref lw), some (.int way), s3, s4]) ∧ ∃ kvs, H' a = some (.ins c.cPipeline dx [("orders", .ref d)]) ∧ H' d = some (.dK kvs) ∧ H' lw = some (.lst (lint ws)) ∧ Some_ c H' ws i kvs ∧ ∀ b u, H b = some u → b ≠ a → H' b = some u)
        ⟨⟨_, _, rfl⟩, [], g0, g1, g2, ⟨fun k' v' e => (by have e' : (none : Option V) = some v' := e; cases e'), fun q hq => absurd hq (Nat.not_lt_zero _), List.nodup_nil, rfl⟩, g3⟩ ?_ ?_ ?_⟩
      · rintro i σ' H' _ ⟨_, kvs, _, _, h, _⟩
        exact SqL.of h
      · rintro i x σ' H' t hx ⟨⟨s3, s4, rfl⟩, kvs, q0, q1, q2, S, q3⟩ ht
        obtain ⟨wd, hwd, rfl⟩ := lint_at hx
        have hil : i < ws.length := (List.getElem?_eq_some_iff.mp hwd).1
        refine ⟨t, _, rfl, SqT.of upd_same, rfl, _, _, rfl, _, _, rfl, rfl, ?_⟩
        have m1 : L2.Same H' (upd H' t (.tup [.int (i : Nat), .int (wd : Int)])) := same_new ht
        generalize upd H' t (.tup [.int (i : Nat), .int (wd : Int)]) = H2 at m1 ⊢
        refine ⟨_, rfl, _, rfl, fun b db hb hdb hne => ⟨b, db, i, wd, rfl, upd_same, rfl, ?_⟩⟩
        rw [upd_upd]
        have m2 : L2.Same H2 (upd (upd H2 db (.own b)) b (.ins c.cOrder db (ordF (mkOrd i wd)))) := fun x u e => by rw [upd_ne (ne_of_none e hb), upd_ne (ne_of_none e hdb)]; exact e
        have ho : OrdAt c (upd (upd H2 db (.own b)) b (.ins c.cOrder db (ordF (mkOrd i wd)))) b (ordAt ws i) := ⟨db, by rw [ordAt_of hwd]; exact upd_same⟩
        generalize upd (upd H2 db (.own b)) b (.ins c.cOrder db (ordF (mkOrd i wd))) = H3 at m2 ho ⊢
        have m3 := m1.trans m2
        have hz : kvs.length < sizeLine := Nat.lt_of_le_of_lt (show kvs.length ≤ 1024 by rw [S.len]; omega) (by decide)
        refine ⟨_, rfl, a, _, _, _, _, rfl, m3 _ _ q0, T.clPipeline, T.nPipeline_orders, (by kernel_rfl), _, rfl, d, _, rfl, DPut.k (k := Sum.inl (i : Int)) (m3 _ _ q1) hz, ?_⟩
        have hn : valV kvs (Sum.inl (i : Int)) = none := by
          cases e : valV kvs (Sum.inl (i : Int)) with
          | none => rfl
          | some y =>
            obtain ⟨q, _, e1, _, _, e4⟩ := S.at_ _ _ e
            have : (i : Int) = (q : Int) := Sum.inl.inj e1
            omega
        have ko : ∀ a' o', OrdAt c H' a' o' → OrdAt c (upd H3 d (.dK (putK kvs (Sum.inl (i : Int)) (.ref b)))) a' o' := fun a' o' ⟨dx', e⟩ => ⟨dx', by rw [upd_ne (ne_of (m3 _ _ e) (m3 _ _ q1) (by intro z; cases z))]; exact m3 _ _ e⟩
        refine ⟨⟨_, _, rfl⟩, putK kvs (Sum.inl (i : Int)) (.ref b), ?_, upd_same, ?_, ⟨fun k' y e => ?_, fun q hq => ?_, nd_putK _ S.nd hn, ?_⟩, fun b' u e hb' => ?_⟩
        · rw [upd_ne (ne_of q0 q1 (by intro z; cases z))]; exact m3 _ _ q0
        · rw [upd_ne (ne_of q2 q1 (by intro z; cases z))]; exact m3 _ _ q2
        · rw [valV_put] at e
          by_cases hk : k' = Sum.inl (i : Int)
          · rw [if_pos hk] at e
            cases e
            refine ⟨i, b, hk, rfl, ?_, Nat.lt_succ_self _⟩
            obtain ⟨dx', e'⟩ := ho
            exact ⟨dx', by rw [upd_ne (ne_of e' (m3 _ _ q1) (by intro z; cases z))]; exact e'⟩
          · rw [if_neg hk] at e
            obtain ⟨q, a', e1, e2, e3, e4⟩ := S.at_ k' y e
            exact ⟨q, a', e1, e2, ko _ _ e3, Nat.lt_succ_of_lt e4⟩
        · rw [valV_put]
          by_cases hk : (Sum.inl (q : Int) : Key) = Sum.inl (i : Int)
          · exact ⟨_, if_pos hk⟩
          · rw [if_neg hk]
            refine S.has q ?_
            rcases Nat.lt_succ_iff_lt_or_eq.mp hq with z | z
            · exact z
            · exact absurd (by rw [z]) hk
        · rw [putK_new _ hn, List.length_append, S.len]
          rfl
        · have e2 := q3 b' u e hb'
          have hbd : b' ≠ d := fun z => by subst z; rw [hd] at e; cases e
          rw [upd_ne hbd]
          exact m3 _ _ e2
      · rintro σ' H' ⟨h1, kvs, h2, h3, h4, h5, h6⟩
        rw [lint_len] at h5
        exact hD _ _ ⟨h1, kvs, h2, h3, h5, h6⟩
    · rintro σ' H2 ⟨⟨s3, s4, rfl⟩, kvs, q0, q1, S, q3⟩
      -- the ways
      refine ⟨_, rfl, _, _, rfl, rfl, rfl, _, rfl, a, _, _, _, rfl, q0, T.clPipeline, T.nPipeline_hands_on, (by walk_at "len"), ?_⟩
      rw [way1 hw0 hw3, pI_hands_on]
      refine ⟨_, rfl, _, _, rfl, rfl, rfl, _, rfl, a, _, _, _, rfl, upd_same, T.clPipeline, T.nPipeline_guesses_goings, (by walk_at "len"), ?_⟩
      rw [way2 hw0 hw3, pI_guesses_goings, upd_upd]
      have r0 : upd H2 a (.ins c.cPipeline dx [("orders", .ref d), ("hands_on", .bl (decide (way % 2 = 1))), ("guesses_goings", .bl (decide (way / 2 % 2 = 1)))]) a = _ := upd_same
      have r1 : ∀ b u, H2 b = some u → b ≠ a → upd H2 a (.ins c.cPipeline dx [("orders", .ref d), ("hands_on", .bl (decide (way % 2 = 1))), ("guesses_goings", .bl (decide (way / 2 % 2 = 1)))]) b = some u := fun b u e hb => by rw [upd_ne hb]; exact e
      generalize upd H2 a (.ins c.cPipeline dx [("orders", .ref d), ("hands_on", .bl (decide (way % 2 = 1))), ("guesses_goings", .bl (decide (way / 2 % 2 = 1)))]) = H3 at r0 r1 ⊢
      -- registers
      refine ⟨(by show 1 ≤ sizeLine; decide), fun t1 ht1 => ⟨t1, 16, _, rfl, rfl, upd_same, by decide, by decide, (by decide), fun l1 hl1 => ?_⟩⟩
      have m1 := (same_new (o := .lst [.int 0]) ht1).trans (same_new (o := .lst (List.replicate (16 : Int).toNat [V.int 0]).flatten) hl1)
      have n1 := Same.free (same_new (o := .lst [.int 0]) ht1) hl1
      refine ⟨_, rfl, a, _, _, _, rfl, m1 _ _ r0, T.clPipeline, T.nPipeline_registers, (by walk_at "len"), ?_⟩
      rw [pI_registers]
      have e16 : (List.replicate (16 : Int).toNat [V.int 0]).flatten = lint (List.replicate 16 0) := by rw [rep_one, lint_rep]; rfl
      rw [e16] at m1 ⊢
      have hl1a : l1 ≠ a := (ne_of_none r0 n1).symm
      have u0 : upd (upd (upd H3 t1 (.lst [.int 0])) l1 (.lst (lint (List.replicate 16 0)))) a (.ins c.cPipeline dx [("orders", .ref d), ("hands_on", .bl (decide (way % 2 = 1))), ("guesses_goings", .bl (decide (way / 2 % 2 = 1))), ("registers", .ref l1)]) a = _ := upd_same
      have u1 : upd (upd (upd H3 t1 (.lst [.int 0])) l1 (.lst (lint (List.replicate 16 0)))) a (.ins c.cPipeline dx [("orders", .ref d), ("hands_on", .bl (decide (way % 2 = 1))), ("guesses_goings", .bl (decide (way / 2 % 2 = 1))), ("registers", .ref l1)]) l1 = some (.lst (lint (List.replicate 16 0))) := by rw [upd_ne hl1a]; exact upd_same
      have u2 : ∀ b u, H3 b = some u → b ≠ a → upd (upd (upd H3 t1 (.lst [.int 0])) l1 (.lst (lint (List.replicate 16 0)))) a (.ins c.cPipeline dx [("orders", .ref d), ("hands_on", .bl (decide (way % 2 = 1))), ("guesses_goings", .bl (decide (way / 2 % 2 = 1))), ("registers", .ref l1)]) b = some u := fun b u e hb => by rw [upd_ne hb]; exact m1 _ _ e
      generalize upd (upd (upd H3 t1 (.lst [.int 0])) l1 (.lst (lint (List.replicate 16 0)))) a (.ins c.cPipeline dx [("orders", .ref d), ("hands_on", .bl (decide (way % 2 = 1))), ("guesses_goings", .bl (decide (way / 2 % 2 = 1))), ("registers", .ref l1)]) = H4 at u0 u1 u2 ⊢
      -- memory
      refine ⟨(by show 1 ≤ sizeLine; decide), fun t2 ht2 => ⟨t2, 1024, _, rfl, rfl, upd_same, by decide, by decide, (by decide), fun l2 hl2 => ?_⟩⟩
      have m2 := (same_new (o := .lst [.int 0]) ht2).trans (same_new (o := .lst (List.replicate (1024 : Int).toNat [V.int 0]).flatten) hl2)
      have n2 := Same.free (same_new (o := .lst [.int 0]) ht2) hl2
      refine ⟨_, rfl, a, _, _, _, rfl, m2 _ _ u0, T.clPipeline, T.nPipeline_memory, (by walk_at "len"), ?_⟩
      rw [pI_memory]
      have e1024 : (List.replicate (1024 : Int).toNat [V.int 0]).flatten = lint (List.replicate 1024 0) := by rw [rep_one, lint_rep]; rfl
      rw [e1024] at m2 ⊢
      have hl2a : l2 ≠ a := (ne_of_none u0 n2).symm
      have hl21 : l1 ≠ l2 := ne_of_none u1 n2
      have v0 : upd (upd (upd H4 t2 (.lst [.int 0])) l2 (.lst (lint (List.replicate 1024 0)))) a (.ins c.cPipeline dx [("orders", .ref d), ("hands_on", .bl (decide (way % 2 = 1))), ("guesses_goings", .bl (decide (way / 2 % 2 = 1))), ("registers", .ref l1), ("memory", .ref l2)]) a = _ := upd_same
      have v1 : upd (upd (upd H4 t2 (.lst [.int 0])) l2 (.lst (lint (List.replicate 1024 0)))) a (.ins c.cPipeline dx [("orders", .ref d), ("hands_on", .bl (decide (way % 2 = 1))), ("guesses_goings", .bl (decide (way / 2 % 2 = 1))), ("registers", .ref l1), ("memory", .ref l2)]) l2 = some (.lst (lint (List.replicate 1024 0))) := by rw [upd_ne hl2a]; exact upd_same
      have v2 : ∀ b u, H4 b = some u → b ≠ a → upd (upd (upd H4 t2 (.lst [.int 0])) l2 (.lst (lint (List.replicate 1024 0)))) a (.ins c.cPipeline dx [("orders", .ref d), ("hands_on", .bl (decide (way % 2 = 1))), ("guesses_goings", .bl (decide (way / 2 % 2 = 1))), ("registers", .ref l1), ("memory", .ref l2)]) b = some u := fun b u e hb => by rw [upd_ne hb]; exact m2 _ _ e
      generalize upd (upd (upd H4 t2 (.lst [.int 0])) l2 (.lst (lint (List.replicate 1024 0)))) a (.ins c.cPipeline dx [("orders", .ref d), ("hands_on", .bl (decide (way % 2 = 1))), ("guesses_goings", .bl (decide (way / 2 % 2 = 1))), ("registers", .ref l1), ("memory", .ref l2)]) = H5 at v0 v1 v2 ⊢
      -- guesses
      refine ⟨(by show 1 ≤ sizeLine; decide), fun t3 ht3 => ⟨t3, 16, _, rfl, rfl, upd_same, by decide, by decide, (by decide), fun l3 hl3 => ?_⟩⟩
      have m3 := (same_new (o := .lst [.int 1]) ht3).trans (same_new (o := .lst (List.replicate (16 : Int).toNat [V.int 1]).flatten) hl3)
      have n3 := Same.free (same_new (o := .lst [.int 1]) ht3) hl3
      refine ⟨_, rfl, a, _, _, _, rfl, m3 _ _ v0, T.clPipeline, T.nPipeline_guesses, (by walk_at "len"), ?_⟩
      rw [pI_guesses]
      have f16 : (List.replicate (16 : Int).toNat [V.int 1]).flatten = lint (List.replicate 16 1) := by rw [rep_one, lint_rep]; rfl
      rw [f16] at m3 ⊢
      have hl3a : l3 ≠ a := (ne_of_none v0 n3).symm
      have hl32 : l2 ≠ l3 := ne_of_none v1 n3
      have hl31 : l1 ≠ l3 := ne_of_none (v2 _ _ u1 hl1a) n3
      -- the rest
      refine ⟨_, rfl, a, _, _, _, rfl, upd_same, T.clPipeline, T.nPipeline_place, (by walk_at "len"), ?_⟩
      rw [pI_place, upd_upd]
      refine ⟨_, rfl, a, _, _, _, rfl, upd_same, T.clPipeline, T.nPipeline_fetches, (by walk_at "len"), ?_⟩
      rw [pI_fetches, upd_upd]
      refine ⟨_, rfl, a, _, _, _, rfl, upd_same, T.clPipeline, T.nPipeline_to_read, (by walk_at "len"), ?_⟩
      rw [pI_to_read, upd_upd]
      refine ⟨_, rfl, a, _, _, _, rfl, upd_same, T.clPipeline, T.nPipeline_to_reckon, (by walk_at "len"), ?_⟩
      rw [pI_to_reckon, upd_upd]
      refine ⟨_, rfl, a, _, _, _, rfl, upd_same, T.clPipeline, T.nPipeline_in_memory, (by walk_at "len"), ?_⟩
      rw [pI_in_memory, upd_upd]
      refine ⟨_, rfl, a, _, _, _, rfl, upd_same, T.clPipeline, T.nPipeline_to_write, (by walk_at "len"), ?_⟩
      rw [pI_to_write, upd_upd]
      refine ⟨_, rfl, a, _, _, _, rfl, upd_same, T.clPipeline, T.nPipeline_ended, (by walk_at "len"), ?_⟩
      rw [pI_ended, upd_upd]
      refine ⟨_, rfl, a, _, _, _, rfl, upd_same, T.clPipeline, T.nPipeline_cycles, (by walk_at "len"), ?_⟩
      rw [pI_cycles, upd_upd]
      refine ⟨_, rfl, a, _, _, _, rfl, upd_same, T.clPipeline, T.nPipeline_done, (by walk_at "len"), ?_⟩
      rw [pI_done, upd_upd]
      refine ⟨_, rfl, a, _, _, _, rfl, upd_same, T.clPipeline, T.nPipeline_waited, (by walk_at "len"), ?_⟩
      rw [pI_waited, upd_upd]
      refine ⟨_, rfl, a, _, _, _, rfl, upd_same, T.clPipeline, T.nPipeline_lost, (by walk_at "len"), ?_⟩
      rw [pI_lost, upd_upd]
      have hda : d ≠ a := had.symm
      have w2 : ∀ b u, H2 b = some u → b ≠ a → upd (upd (upd H5 t3 (.lst [.int 1])) l3 (.lst (lint (List.replicate 16 1)))) a (.ins c.cPipeline dx (pipF (pgOf ws way) ⟨dx, d, l1, l2, l3⟩ ⟨kvs, .non, .non, .non, .non⟩ 0 true false cnt0)) b = some u := fun b u e hb => by
        rw [upd_ne hb]
        exact m3 _ _ (v2 _ _ (u2 _ _ (r1 _ _ e hb) hb) hb)
      have ko : ∀ a' o', OrdAt c H2 a' o' → OrdAt c (upd (upd (upd H5 t3 (.lst [.int 1])) l3 (.lst (lint (List.replicate 16 1)))) a (.ins c.cPipeline dx (pipF (pgOf ws way) ⟨dx, d, l1, l2, l3⟩ ⟨kvs, .non, .non, .non, .non⟩ 0 true false cnt0))) a' o' := fun a' o' ⟨dx', e⟩ => ⟨dx', w2 _ _ e (ne_of e q0 (by intro z; injection z with z1; exact T.neOrderPipeline z1))⟩
      refine k _ ⟨dx, d, l1, l2, l3⟩ ⟨kvs, .non, .non, .non, .non⟩ ⟨upd_same, ?_, ?_, ?_, ?_, hl21, hl31, hl32, ⟨fun k' y e => ?_, S.has, S.nd⟩, rfl, rfl, rfl, rfl⟩ (fun b u e hb => w2 _ _ (q3 _ _ e hb) hb) ⟨hd, ?_, ?_, ?_⟩
      · show upd _ a _ l1 = _
        rw [upd_ne hl1a]
        exact m3 _ _ (v2 _ _ u1 hl1a)
      · show upd _ a _ l2 = _
        rw [upd_ne hl2a]
        exact m3 _ _ v1
      · show upd _ a _ l3 = _
        rw [upd_ne hl3a]
        exact upd_same
      · exact w2 _ _ q1 hda
      · obtain ⟨q, a', e1, e2, e3, e4⟩ := S.at_ k' y e
        exact ⟨q, a', e1, e2, ko _ _ e3, .inl (Nat.le_of_lt e4)⟩
      · show H l1 = none
        cases e : H l1 with
        | none => rfl
        | some u => rw [r1 _ _ (q3 _ _ e hl1a) hl1a] at n1; cases n1
      · show H l2 = none
        cases e : H l2 with
        | none => rfl
        | some u => rw [u2 _ _ (r1 _ _ (q3 _ _ e hl2a) hl2a) hl2a] at n2; cases n2
      · show H l3 = none
        cases e : H l3 with
        | none => rfl
        | some u => rw [v2 _ _ (u2 _ _ (r1 _ _ (q3 _ _ e hl3a) hl3a) hl3a) hl3a] at n3; cases n3
end
end Fs

set_option Elab.async false
set_option linter.all false
set_option maxRecDepth 100000
namespace Fs
open PySem L2
local macro_rules | `(tactic| walk_at "un") => `(tactic| try dsimp only [tSeq, tNext, tAsg, gName, sFld, sFldAug, tRet, tDrop])
local macro_rules | `(tactic| walk_at "len") => `(tactic| exact Nat.le_of_ble_eq_true (by kernel_rfl))

/-! ### the machine in the heap -/
def macF (p : Addr) (k : Nat) : List (Str × V) := [("pipeline", .ref p), ("asked", .int (k : Int))]
section
variable (p q : Addr) (k j : Nat)
theorem mF_len : (macF p k).length < 1000 := Nat.le_of_ble_eq_true (by kernel_rfl)
theorem mL_pipeline : (macF p k).lookup ("pipeline" : Str) = some (.ref p) := by kernel_rfl
theorem mL_asked : (macF p k).lookup ("asked" : Str) = some (.int (k : Int)) := by kernel_rfl
theorem mN_load : (macF p k).lookup ("load" : Str) = none := by kernel_rfl
theorem mN_go : (macF p k).lookup ("go" : Str) = none := by kernel_rfl
theorem mN_has_ended : (macF p k).lookup ("has_ended" : Str) = none := by kernel_rfl
theorem mN_shows : (macF p k).lookup ("shows" : Str) = none := by kernel_rfl
theorem mN_reg : (macF p k).lookup ("reg" : Str) = none := by kernel_rfl
theorem mN_mem : (macF p k).lookup ("mem" : Str) = none := by kernel_rfl
theorem mP_pipeline : putF "pipeline" (.ref q) (macF p k) = macF q k := by kernel_rfl
theorem mP_asked : putF "asked" (.int (j : Int)) (macF p k) = macF p j := by kernel_rfl
theorem mP_first : putF "pipeline" (.ref q) [] = ([("pipeline", .ref q)] : List (Str × V)) := by kernel_rfl
theorem mP_second : putF "asked" (.int (j : Int)) [("pipeline", .ref q)] = macF q j := by kernel_rfl
end
structure MacAt (c : Cl) (H : Hp) (a p : Addr) (g : Ge) (v : Va) (M : MM) : Prop where
  ob : ∃ dx, H a = some (.ins c.cMachine dx (macF p M.asked))
  pip : PipAt c H p g v M.P M.m M.c
def Out (a p : Addr) (g : Ge) (b : Addr) : Prop := b ≠ a ∧ b ≠ p ∧ b ≠ g.d ∧ b ≠ g.lr ∧ b ≠ g.lm ∧ b ≠ g.lg
/-- what a call leaves alone -/
def Stp (a p : Addr) (g : Ge) (p' : Addr) (g' : Ge) (H H' : Hp) : Prop := ∀ b u, H b = some u → Out a p g b → H' b = some u ∧ Out a p' g' b
def vInts (l : List Int) : List V := l.map V.int
/-- what a call must give: the machine behind it, the answer in a new list -/
def MPost (c : Cl) (H : Hp) (a p : Addr) (g : Ge) (M : MM) (q : Md23.Call) (Q : VK) : Prop :=
  ∀ (H' : Hp) (p' : Addr) (g' : Ge) (v' : Va) (l : Addr), MacAt c H' a p' g' v' (mAns M q).1 → Stp a p g p' g' H H' → H l = none → H' l = some (.lst (vInts (mAns M q).2)) → Q (.ref l) H'
section
variable {c : Cl} {H H' : Hp} {a p : Addr} {g : Ge} {v : Va} {M : MM}
theorem MacAt.keep (R : MacAt c H a p g v M) (s : L2.Same H H') : MacAt c H' a p g v M := by
  obtain ⟨⟨dx, e⟩, r⟩ := R
  exact ⟨⟨dx, s _ _ e⟩, r.keep s⟩
theorem Stp.same (s : L2.Same H H') : Stp a p g p g H H' := fun b u e o => ⟨s _ _ e, o⟩
/-- a new list with the answer, nothing else turned -/
theorem MPost.new {q : Md23.Call} {Q : VK} (k : MPost c H a p g M q Q) (R : MacAt c H a p g v M) (eM : (mAns M q).1 = M) {l : Addr} (hl : H l = none) {xs : List V} (ex : xs = vInts (mAns M q).2) : Q (.ref l) (upd H l (.lst xs)) := by
  subst ex
  refine k _ p g v l ?_ (Stp.same (same_new hl)) hl upd_same
  rw [eM]
  exact R.keep (same_new hl)
end

def sp_Machine_init (c : Cl) : Sp := fun vs H Q _ => ∃ (a dx : Addr), vs = [.ref a] ∧ H a = some (.ins c.cMachine dx []) ∧
  ∀ (H' : Hp) (p : Addr) (g : Ge) (v : Va), MacAt c H' a p g v mm0 → (∀ b u, H b = some u → b ≠ a → H' b = some u ∧ Out a p g b) → Q .non H'
def sp_has_ended (c : Cl) : Sp := fun vs H Q _ => ∃ (a p : Addr) (g : Ge) (v : Va) (M : MM), vs = [.ref a] ∧ MacAt c H a p g v M ∧ Q (.int (b1 M.m.ended)) H
def sp_reg (c : Cl) : Sp := fun vs H Q _ => ∃ (a p : Addr) (g : Ge) (v : Va) (M : MM) (r : Int), vs = [.ref a, .int r] ∧ MacAt c H a p g v M ∧ MOk M ∧ MPost c H a p g M (.reg r) Q
def sp_mem (c : Cl) : Sp := fun vs H Q _ => ∃ (a p : Addr) (g : Ge) (v : Va) (M : MM) (r : Int), vs = [.ref a, .int r] ∧ MacAt c H a p g v M ∧ MOk M ∧ MPost c H a p g M (.mem r) Q
def sp_go (c : Cl) : Sp := fun vs H Q _ => ∃ (a p : Addr) (g : Ge) (v : Va) (M : MM) (r : Int), vs = [.ref a, .int r] ∧ MacAt c H a p g v M ∧ MOk M ∧ MPost c H a p g M (.go r) Q
def sp_shows (c : Cl) : Sp := fun vs H Q _ => ∃ (a p : Addr) (g : Ge) (v : Va) (M : MM), vs = [.ref a] ∧ MacAt c H a p g v M ∧ MPost c H a p g M .shows Q
def sp_load (c : Cl) : Sp := fun vs H Q _ => ∃ (a p : Addr) (g : Ge) (v : Va) (M : MM) (n w : Int) (lw : Addr) (ws : List Nat), vs = [.ref a, .int n, .int w, .ref lw] ∧ MacAt c H a p g v M ∧ H lw = some (.lst (lint ws)) ∧ CallOk (.load ws n w) ∧ MPost c H a p g M (.load ws n w) Q
def sp_shown_place (c : Cl) : Sp := fun vs H Q _ => ∃ (ws : List Nat) (kvs : List (Key × V)) (x : V) (r : Option Nat), vs = [x] ∧ VRd kvs x r ∧ Ords c H ws kvs ∧ Q (.int (shownM r)) H

section
variable {P : Program} {w : World} {K : PySem.W.Frag} {mg : Str → Option Value} {base : Heap} {c : Cl}

theorem ok_Machine_init (T : Txt K mg c) (f : Addr) (fd : FuncData) (F : Fun K "__init__" "Machine.__init__" s_Machine_init f fd) : FnOk P w K mg base CX0 6 f fd ps_Machine_init_ (sp_Machine_init c) := by
  refine F.ok sc_Machine_init (fun vs H Q E h => ?_) (fun cdv A outer s H vs Q E hr h => ?_)
  · obtain ⟨_, _, rfl, _⟩ := h
    rfl
  · obtain ⟨a, dx, rfl, ha, k⟩ := h
    refine ⟨_, (pss_cons (ps_fld (pv 0) (pe_idef T.d_Pipeline_init (ok_Pipeline_init T) hr rfl (pa_cons (pe_lst pa_nil) (pa_cons pe_int pa_nil))) rfl) (pss_one (ps_fld (pv 0) pe_int rfl))), ?_⟩
    refine ⟨(by show 0 ≤ sizeLine; decide), fun lw hlw => fun p dp hp hdp hne => ?_⟩
    have s1 : L2.Same H (upd H lw (.lst [])) := same_new hlw
    have g1 : upd H lw (.lst []) lw = some (.lst (lint [])) := upd_same
    generalize upd H lw (.lst []) = H1 at s1 g1 hp hdp ⊢
    refine ⟨p, dp, lw, [], 0, rfl, upd_same, ?_, by decide, by decide, by decide, fun H2 g v R2 f2 fr => ⟨rfl, ?_⟩⟩
    · rw [upd_ne (ne_of_none g1 hp), upd_ne (ne_of_none g1 hdp)]
      exact g1
    have f3 : ∀ b u, H b = some u → H2 b = some u := fun b u e => f2 b u (by rw [upd_ne (ne_of_none (s1 _ _ e) hp), upd_ne (ne_of_none (s1 _ _ e) hdp)]; exact s1 _ _ e) (ne_of_none (s1 _ _ e) hp)
    have nn : ∀ b u, H b = some u → b ≠ p ∧ b ≠ g.d ∧ b ≠ g.lr ∧ b ≠ g.lm ∧ b ≠ g.lg := fun b u e => by
      have e' : upd (upd H1 dp (.own p)) p (.ins c.cPipeline dp []) b = some u := by rw [upd_ne (ne_of_none (s1 _ _ e) hp), upd_ne (ne_of_none (s1 _ _ e) hdp)]; exact s1 _ _ e
      exact ⟨ne_of_none (s1 _ _ e) hp, ne_of_none e' fr.1, ne_of_none e' fr.2.1, ne_of_none e' fr.2.2.1, ne_of_none e' fr.2.2.2⟩
    refine ⟨_, rfl, a, _, _, _, rfl, f3 _ _ ha, T.clMachine, T.nMachine_pipeline, (by walk_at "len"), ?_⟩
    rw [mP_first]
    refine ⟨_, rfl, a, _, _, _, rfl, upd_same, T.clMachine, T.nMachine_asked, (by walk_at "len"), ?_⟩
    have e0 : putF "asked" (V.int 0) [("pipeline", V.ref p)] = macF p 0 := mP_second p 0
    rw [e0, upd_upd]
    have na := nn _ _ ha
    refine k _ p g v ⟨⟨_, upd_same⟩, ?_⟩ (fun b u e hb => ⟨by rw [upd_ne hb]; exact f3 _ _ e, hb, nn b u e⟩)
    have R3 : PipAt c H2 p g v mm0.P mm0.m mm0.c := R2
    have kt := tup_upd (o := .ins c.cMachine dx (macF p 0)) (f3 _ _ ha) (by intro xs z; cases z)
    have ko := ord_upd (c := c) (o := .ins c.cMachine dx (macF p 0)) (f3 _ _ ha) (by intro dx fs z; injection z with z1; exact T.neOrderMachine z1.symm)
    exact ⟨by rw [upd_ne na.1.symm]; exact R3.ob, by rw [upd_ne na.2.2.1.symm]; exact R3.rg, by rw [upd_ne na.2.2.2.1.symm]; exact R3.mm, by rw [upd_ne na.2.2.2.2.symm]; exact R3.gg, by rw [upd_ne na.2.1.symm]; exact R3.dd, R3.n1, R3.n2, R3.n3, R3.dk.keep ko, R3.rd, R3.rk.keep kt, R3.im.keep kt, R3.wr.keep kt⟩
theorem ok_has_ended (T : Txt K mg c) (f : Addr) (fd : FuncData) (F : Fun K "has_ended" "Machine.has_ended" s_has_ended f fd) : FnOk P w K mg base CX0 1 f fd ps_has_ended_ (sp_has_ended c) := by
  refine F.ok sc_has_ended (fun vs H Q E h => ?_) (fun cdv A outer s H vs Q E hr h => ?_)
  · obtain ⟨_, _, _, _, _, rfl, _⟩ := h
    rfl
  · obtain ⟨a, p, g, v, M, rfl, ⟨⟨dx, ha⟩, R⟩, k⟩ := h
    refine ⟨_, (pss_one (ps_ret (pe_ifExp (pt_val (pe_fld (pe_fld (pv 0) rfl) rfl)) pe_int pe_int))), ?_⟩
    walk_at "un"
    refine tIf_by M.m.ended (.int (b1 M.m.ended)) (fun R' r => ?_) (fun hb R' r => ?_) (fun hb R' r => ?_) k
    · exact ⟨_, rfl, a, _, _, _, _, rfl, ha, T.clMachine, T.nMachine_pipeline, mL_pipeline _ _, p, _, _, _, _, rfl, R.ob, T.clPipeline, T.nPipeline_ended, pL_ended _ _ _ _ _ _ _, _, rfl, r⟩
    · rw [hb] at r
      exact r
    · rw [hb] at r
      exact r
theorem ok_shown_place (T : Txt K mg c) (f : Addr) (fd : FuncData) (F : Fun K "shown_place" "shown_place" s_shown_place f fd) : FnOk P w K mg base CX0 2 f fd ps_shown_place_ (sp_shown_place c) := by
  refine F.ok sc_shown_place (fun vs H Q E h => ?_) (fun cdv A outer s H vs Q E hr h => ?_)
  · obtain ⟨_, _, _, _, rfl, _⟩ := h
    rfl
  · obtain ⟨ws, kvs, x, r, rfl, hx, ho, k⟩ := h
    refine ⟨_, (pss_one (ps_ret (pe_ifExp (pt_cmp (pc_isN (pv 0))) (pe_un un_neg pe_int) (pe_def T.d_with_sign (ok_with_sign T) hr rfl (pa_cons (pe_fld (pv 0) rfl) pa_nil))))), ?_⟩
    walk_at "un"
    match r, hx, k with
    | none, hx, k =>
      have hx : x = .non := hx
      subst hx
      exact tIf_go true (fun R' r => ⟨_, rfl, _, rfl, r⟩) (fun _ => ⟨_, rfl, k⟩) (fun z => by cases z)
    | some q, ⟨a, e1, e2⟩, k =>
      subst e1
      obtain ⟨dx, hd⟩ := ho q a e2
      exact tIf_go false (fun R' r => ⟨_, rfl, _, rfl, r⟩) (fun z => by cases z) (fun _ => ⟨_, rfl, a, _, dx, _, _, rfl, hd, T.clOrder, T.nOrder_place, oL_place _, q, rfl, k⟩)
theorem dec_ilt (a b : Int) : decide (a < b) = decide (a < b) := rfl
theorem ok_reg (T : Txt K mg c) (f : Addr) (fd : FuncData) (F : Fun K "reg" "Machine.reg" s_reg f fd) : FnOk P w K mg base CX0 2 f fd ps_reg_ (sp_reg c) := by
  refine F.ok sc_reg (fun vs H Q E h => ?_) (fun cdv A outer s H vs Q E hr h => ?_)
  · obtain ⟨_, _, _, _, _, _, rfl, _⟩ := h
    rfl
  · obtain ⟨a, p, g, v, M, r, rfl, Mc, hM, k⟩ := h
    obtain ⟨⟨dx, ha⟩, R⟩ := id Mc
    refine ⟨_, (pss_cons (ps_if (PW.pt (pw_or (pt_cmpR op_lt (pv 1) pe_int (nomark _)) (pw_or1 (pt_cmpR op_gt (pv 1) pe_int (nomark _))))) (pss_one (ps_ret (pe_lst (pa_cons (pe_un un_neg pe_int) pa_nil)))) pss_nil) (pss_one (ps_ret (pe_lst (pa_cons pe_int (pa_cons (pe_def T.d_with_sign (ok_with_sign T) hr rfl (pa_cons (pe_ix ix_list (pe_fld (pe_fld (pv 0) rfl) rfl) (pv 1) (fun _ _ => rfl)) pa_nil)) pa_nil)))))), ?_⟩
    walk_at "un"
    refine tIfS_by (decide (r < 0) || decide (15 < r)) (fun R' r' => ?_) (fun hb => ?_) (fun hb => ?_)
    · refine tOr_by (decide (r < 0)) (decide (15 < r)) (fun R' r' => ⟨_, rfl, _, _, rfl, rfl, _, rfl, r'⟩) (fun _ R' r' => ⟨_, rfl, _, _, rfl, rfl, _, rfl, r'⟩) r'
    · have hc : r < 0 ∨ 15 < r := by simpa using hb
      have e := mAns_reg M r
      rw [if_pos hc] at e
      refine ⟨_, rfl, (by show 1 ≤ sizeLine; decide), fun l hl => ?_⟩
      exact k.new Mc (by rw [e]) hl (by rw [e]; rfl)
    · have hc : ¬ (r < 0 ∨ 15 < r) := by simpa using hb
      have e := mAns_reg M r
      rw [if_neg hc] at e
      have hr0 : r = ((r.toNat : Nat) : Int) := by omega
      have hlt : r.toNat < M.m.regs.length := by rw [hM.live.good.regs]; omega
      walk_at "un"
      refine ⟨_, rfl, a, _, _, _, _, rfl, ha, T.clMachine, T.nMachine_pipeline, mL_pipeline _ _, p, _, _, _, _, rfl, R.ob, T.clPipeline, T.nPipeline_registers, pL_registers _ _ _ _ _ _ _, _, rfl, g.lr, _, _, _, rfl, rfl, SqL.of R.rg, (by rw [hr0]; exact atI_nat (lint_getD hlt)), M.m.regs.getD r.toNat 0, rfl, (by show 2 ≤ sizeLine; decide), fun l hl => ?_⟩
      exact k.new Mc (by rw [e]) hl (by rw [e]; rfl)
theorem ok_mem (T : Txt K mg c) (f : Addr) (fd : FuncData) (F : Fun K "mem" "Machine.mem" s_mem f fd) : FnOk P w K mg base CX0 2 f fd ps_mem_ (sp_mem c) := by
  refine F.ok sc_mem (fun vs H Q E h => ?_) (fun cdv A outer s H vs Q E hr h => ?_)
  · obtain ⟨_, _, _, _, _, _, rfl, _⟩ := h
    rfl
  · obtain ⟨a, p, g, v, M, r, rfl, Mc, hM, k⟩ := h
    obtain ⟨⟨dx, ha⟩, R⟩ := id Mc
    refine ⟨_, (pss_cons (ps_if (PW.pt (pw_or (pt_cmpR op_lt (pv 1) pe_int (nomark _)) (pw_or1 (pt_cmpR op_gt (pv 1) pe_int (nomark _))))) (pss_one (ps_ret (pe_lst (pa_cons (pe_un un_neg pe_int) pa_nil)))) pss_nil) (pss_one (ps_ret (pe_lst (pa_cons pe_int (pa_cons (pe_def T.d_with_sign (ok_with_sign T) hr rfl (pa_cons (pe_ix ix_list (pe_fld (pe_fld (pv 0) rfl) rfl) (pv 1) (fun _ _ => rfl)) pa_nil)) pa_nil)))))), ?_⟩
    walk_at "un"
    refine tIfS_by (decide (r < 0) || decide (1023 < r)) (fun R' r' => ?_) (fun hb => ?_) (fun hb => ?_)
    · refine tOr_by (decide (r < 0)) (decide (1023 < r)) (fun R' r' => ⟨_, rfl, _, _, rfl, rfl, _, rfl, r'⟩) (fun _ R' r' => ⟨_, rfl, _, _, rfl, rfl, _, rfl, r'⟩) r'
    · have hc : r < 0 ∨ 1023 < r := by simpa using hb
      have e := mAns_mem M r
      rw [if_pos hc] at e
      refine ⟨_, rfl, (by show 1 ≤ sizeLine; decide), fun l hl => ?_⟩
      exact k.new Mc (by rw [e]) hl (by rw [e]; rfl)
    · have hc : ¬ (r < 0 ∨ 1023 < r) := by simpa using hb
      have e := mAns_mem M r
      rw [if_neg hc] at e
      have hr0 : r = ((r.toNat : Nat) : Int) := by omega
      have hlt : r.toNat < M.m.mem.length := by rw [hM.live.good.mem]; omega
      walk_at "un"
      refine ⟨_, rfl, a, _, _, _, _, rfl, ha, T.clMachine, T.nMachine_pipeline, mL_pipeline _ _, p, _, _, _, _, rfl, R.ob, T.clPipeline, T.nPipeline_memory, pL_memory _ _ _ _ _ _ _, _, rfl, g.lm, _, _, _, rfl, rfl, SqL.of R.mm, (by rw [hr0]; exact atI_nat (lint_getD hlt)), M.m.mem.getD r.toNat 0, rfl, (by show 2 ≤ sizeLine; decide), fun l hl => ?_⟩
      exact k.new Mc (by rw [e]) hl (by rw [e]; rfl)
end
end Fs

set_option Elab.async false
set_option linter.all false
set_option maxRecDepth 100000
namespace Fs
open PySem L2
local macro_rules | `(tactic| walk_at "un") => `(tactic| try dsimp only [tSeq, tNext, tAsg, gName, sFld, sFldAug, tRet, tDrop])
local macro_rules | `(tactic| walk_at "len") => `(tactic| exact Nat.le_of_ble_eq_true (by kernel_rfl))

section
variable {c : Cl} {H H' : Hp} {a p dx : Addr} {g : Ge} {v v' : Va} {P : Pg} {m m' : MS} {n n' : Cnt} {fs : List (Str × V)}
theorem PipAt.mac_ne (hne : c.cPipeline ≠ c.cMachine) (R : PipAt c H p g v P m n) (ha : H a = some (.ins c.cMachine dx fs)) : Out p p g a ∨ True := .inr trivial
theorem PipAt.mac_out (hne : c.cPipeline ≠ c.cMachine) (R : PipAt c H p g v P m n) (ha : H a = some (.ins c.cMachine dx fs)) : a ≠ p ∧ a ≠ g.d ∧ a ≠ g.lr ∧ a ≠ g.lm ∧ a ≠ g.lg :=
  ⟨ne_of ha R.ob (by intro z; injection z with z1; exact hne z1.symm), ne_of ha R.dd (by intro z; cases z), ne_of ha R.rg (by intro z; cases z), ne_of ha R.mm (by intro z; cases z), ne_of ha R.gg (by intro z; cases z)⟩
theorem PipAt.mac (ho : c.cOrder ≠ c.cMachine) (hne : c.cPipeline ≠ c.cMachine) (R : PipAt c H p g v P m n) (ha : H a = some (.ins c.cMachine dx fs)) (o : HO) : PipAt c (upd H a o) p g v P m n := by
  have na := R.mac_out hne ha
  have kt := tup_upd (o := o) ha (by intro xs z; cases z)
  have ko := ord_upd (c := c) (o := o) ha (by intro dx fs z; injection z with z1; exact ho z1.symm)
  exact ⟨by rw [upd_ne na.1.symm]; exact R.ob, by rw [upd_ne na.2.2.1.symm]; exact R.rg, by rw [upd_ne na.2.2.2.1.symm]; exact R.mm, by rw [upd_ne na.2.2.2.2.symm]; exact R.gg, by rw [upd_ne na.2.1.symm]; exact R.dd, R.n1, R.n2, R.n3, R.dk.keep ko, R.rd, R.rk.keep kt, R.im.keep kt, R.wr.keep kt⟩
theorem PipAt.free (R : PipAt c H' p g v P m n) (f : Fr g p H H') {l : Addr} (h : H' l = none) : H l = none := by
  cases e : H l with
  | none => rfl
  | some u =>
    rw [f l u e (ne_of_none R.ob h).symm (ne_of_none R.dd h).symm (ne_of_none R.rg h).symm (ne_of_none R.mm h).symm (ne_of_none R.gg h).symm] at h
    cases h
theorem hd3 {kvs : List (Key × V)} {x : V} {r : Option (Nat × Nat × Nat)} (h : VT3 H kvs x r) : ∃ y, VRd kvs y (r.map (·.1)) ∧ ((x = .non ∧ y = .non) ∨ ∃ t xs oa, x = .ref t ∧ H t = some (.tup (.ref oa :: xs)) ∧ y = .ref oa) := by
  match r, h with
  | none, h => exact ⟨.non, rfl, .inl ⟨h, rfl⟩⟩
  | some (q, b, d), ⟨t, oa, h1, h2, h3⟩ => exact ⟨.ref oa, ⟨oa, rfl, h3⟩, .inr ⟨t, _, oa, h1, h2, rfl⟩⟩
theorem hd2 {kvs : List (Key × V)} {x : V} {r : Option (Nat × Nat)} (h : VT2 H kvs x r) : ∃ y, VRd kvs y (r.map (·.1)) ∧ ((x = .non ∧ y = .non) ∨ ∃ t xs oa, x = .ref t ∧ H t = some (.tup (.ref oa :: xs)) ∧ y = .ref oa) := by
  match r, h with
  | none, h => exact ⟨.non, rfl, .inl ⟨h, rfl⟩⟩
  | some (q, b), ⟨t, oa, h1, h2, h3⟩ => exact ⟨.ref oa, ⟨oa, rfl, h3⟩, .inr ⟨t, _, oa, h1, h2, rfl⟩⟩
theorem Ords.keep {ws : List Nat} {kvs : List (Key × V)} (h : Ords c H ws kvs) (s : L2.Same H H') : Ords c H' ws kvs := fun q a e => let ⟨dx, e'⟩ := h q a e; ⟨dx, s _ _ e'⟩
end
section
variable {P : Program} {w : World} {K : PySem.W.Frag} {mg : Str → Option Value} {base : Heap} {c : Cl}

theorem ok_go (T : Txt K mg c) (f : Addr) (fd : FuncData) (F : Fun K "go" "Machine.go" s_go f fd) : FnOk P w K mg base CX0 9 f fd ps_go_ (sp_go c) := by
  refine F.ok sc_go (fun vs H Q E h => ?_) (fun cdv A outer s H vs Q E hr h => ?_)
  · obtain ⟨_, _, _, _, _, _, rfl, _⟩ := h
    rfl
  · obtain ⟨a, p, g, v, M, r, rfl, Mc, hM, k⟩ := h
    obtain ⟨⟨dx, ha⟩, R⟩ := id Mc
    have e := mAns_go M r
    refine ⟨_, (pss_cons (ps_if (PW.pt (pw_or (pt_cmpR op_lt (pv 1) pe_int (nomark _)) (pw_or1 (pt_cmpR op_gt (pv 1) (pe_gint T.k_MOST_CYCLES_AT_ONCE rfl) (nomark _))))) (pss_one (ps_ret (pe_lst (pa_cons (pe_un un_neg pe_int) pa_nil)))) pss_nil) (pss_cons (ps_if (pt_cmpR op_gt (pe_op op_add (pe_fld (pv 0) rfl) (pv 1)) (pe_gint T.k_MOST_CYCLES_IN_ALL rfl) (nomark _)) (pss_one (ps_ret (pe_lst (pa_cons (pe_un un_neg pe_int) pa_nil)))) pss_nil) (pss_cons (ps_fldaug (pv 0) (pv 1) in_add) (pss_cons (ps_expr (pe_mdef (pe_fld (pv 0) rfl) T.clPipeline T.d_run (ok_run T) hr (pa_cons (pv 1) pa_nil))) (pss_one (ps_ret (pe_lst (pa_cons (pe_mdef0 (pv 0) T.clMachine T.d_has_ended (ok_has_ended T) hr) pa_nil)))))))), ?_⟩
    walk_at "un"
    refine tIfS_by (decide (r < 1) || decide (1000000 < r)) (fun R' r' => ?_) (fun hb => ?_) (fun hb => ?_)
    · exact tOr_by (decide (r < 1)) (decide (1000000 < r)) (fun R' r' => ⟨_, rfl, _, _, rfl, rfl, _, rfl, r'⟩) (fun _ R' r' => ⟨_, rfl, _, _, rfl, rfl, _, rfl, r'⟩) r'
    · have hc : r < 1 ∨ 1000000 < r := by simpa using hb
      rw [if_pos hc] at e
      refine ⟨_, rfl, (by show 1 ≤ sizeLine; decide), fun l hl => ?_⟩
      exact k.new Mc (by rw [e]) hl (by rw [e]; rfl)
    · have hc : ¬ (r < 1 ∨ 1000000 < r) := by simpa using hb
      rw [if_neg hc] at e
      walk_at "un"
      refine tIfS_by (decide (2000000000 < (M.asked : Int) + r)) (fun R' r' => ?_) (fun hb => ?_) (fun hb => ?_)
      · exact ⟨_, rfl, a, _, _, _, _, rfl, ha, T.clMachine, T.nMachine_asked, mL_asked _ _, _, rfl, _, _, rfl, rfl, _, _, rfl, rfl, _, rfl, r'⟩
      · have hd : 2000000000 < (M.asked : Int) + r := by simpa using hb
        rw [if_pos hd] at e
        refine ⟨_, rfl, (by show 1 ≤ sizeLine; decide), fun l hl => ?_⟩
        exact k.new Mc (by rw [e]) hl (by rw [e]; rfl)
      · have hd : ¬ 2000000000 < (M.asked : Int) + r := by simpa using hb
        rw [if_neg hd] at e
        have hr0 : r = ((r.toNat : Nat) : Int) := by omega
        walk_at "un"
        refine ⟨_, rfl, a, _, _, _, _, rfl, ha, T.clMachine, T.nMachine_asked, mL_asked _ _, _, rfl, _, _, rfl, rfl, _, _, ha, mF_len _ _, ?_⟩
        have ev : V.int ((M.asked : Int) + r) = V.int ((M.asked + r.toNat : Nat) : Int) := by congr 1; omega
        rw [ev, mP_asked]
        have ha1 : upd H a (.ins c.cMachine dx (macF p (M.asked + r.toNat))) a = some (.ins c.cMachine dx (macF p (M.asked + r.toNat))) := upd_same
        have R1 := R.mac T.neOrderMachine T.nePipelineMachine ha (.ins c.cMachine dx (macF p (M.asked + r.toNat)))
        have f1 : ∀ b u, H b = some u → b ≠ a → upd H a (.ins c.cMachine dx (macF p (M.asked + r.toNat))) b = some u := fun b u e hb => by rw [upd_ne hb]; exact e
        generalize upd H a (.ins c.cMachine dx (macF p (M.asked + r.toNat))) = H1 at ha1 R1 f1 ⊢
        refine ⟨_, rfl, a, _, _, _, _, rfl, ha1, T.clMachine, T.nMachine_pipeline, mL_pipeline _ _, p, _, _, rfl, R1.ob, pN_run _ _ _ _ _ _ _, _, rfl, p, g, v, M.P, M.m, M.c, r.toNat, congrArg (fun z => [V.ref p, V.int z]) hr0, R1, hM.live, hM.ws, hM.len, by omega, fun H2 v2 R2 ex2 f2 => ?_⟩
        have na := R1.mac_out T.nePipelineMachine ha1
        have ha2 := f2 a _ ha1 na.1 na.2.1 na.2.2.1 na.2.2.2.1 na.2.2.2.2
        have Mc2 : MacAt c H2 a p g v2 (mAns M (.go r)).1 := by rw [e]; exact ⟨⟨dx, ha2⟩, R2⟩
        refine ⟨_, rfl, a, _, _, rfl, ha2, mN_has_ended _ _, a, p, g, v2, (mAns M (.go r)).1, rfl, Mc2, (by show 1 ≤ sizeLine; decide), fun l hl => ?_⟩
        have hl1 := R2.free f2 hl
        have hl0 : H l = none := by
          cases e' : H l with
          | none => rfl
          | some u =>
            have hla : l ≠ a := fun z => by subst z; rw [ha1] at hl1; cases hl1
            rw [f1 l u e' hla] at hl1
            cases hl1
        refine k _ p g v2 l (Mc2.keep (same_new hl)) (fun b u e' o => ⟨?_, o⟩) hl0 ?_
        · exact same_new hl _ _ (f2 b u (f1 b u e' o.1) o.2.1 o.2.2.1 o.2.2.2.1 o.2.2.2.2.1 o.2.2.2.2.2)
        · rw [upd_same, e]
          rfl

theorem ok_shows (T : Txt K mg c) (f : Addr) (fd : FuncData) (F : Fun K "shows" "Machine.shows" s_shows f fd) : FnOk P w K mg base CX0 3 f fd ps_shows_ (sp_shows c) := by
  refine F.ok sc_shows (fun vs H Q E h => ?_) (fun cdv A outer s H vs Q E hr h => ?_)
  · obtain ⟨_, _, _, _, _, rfl, _⟩ := h
    rfl
  · obtain ⟨a, p, g, v, M, rfl, Mc, k⟩ := h
    obtain ⟨⟨dx, ha⟩, R⟩ := id Mc
    obtain ⟨xk, vk, ck⟩ := hd3 R.rk
    obtain ⟨xm, vm, cm⟩ := hd3 R.im
    obtain ⟨xw, vw, cw⟩ := hd2 R.wr
    refine ⟨_, (pss_cons (ps_set (i := 1) sc_shows.nd rfl (Or.inl rfl) (pe_fld (pv 0) rfl)) (pss_cons (ps_set (i := 2) sc_shows.nd rfl (Or.inl rfl) (pe_ifExp (pt_cmp (pc_isN (pe_fld (pv 1) rfl))) pe_non (pe_ix ix_tup (pe_fld (pv 1) rfl) pe_int (fun _ _ => rfl)))) (pss_cons (ps_set (i := 3) sc_shows.nd rfl (Or.inl rfl) (pe_ifExp (pt_cmp (pc_isN (pe_fld (pv 1) rfl))) pe_non (pe_ix ix_tup (pe_fld (pv 1) rfl) pe_int (fun _ _ => rfl)))) (pss_cons (ps_set (i := 4) sc_shows.nd rfl (Or.inl rfl) (pe_ifExp (pt_cmp (pc_isN (pe_fld (pv 1) rfl))) pe_non (pe_ix ix_tup (pe_fld (pv 1) rfl) pe_int (fun _ _ => rfl)))) (pss_cons (ps_setLc (i := 5) rfl sc_shows.nd rfl rfl (sw_true rfl rfl rfl rfl) (pi_tup (pe_tup (pa_cons (pe_fld (pv 1) rfl) (pa_cons (pv 2) (pa_cons (pv 3) (pa_cons (pv 4) pa_nil)))))) (blkOk_by (own := [("order", 6)]) (by show blkC N_shows (defScope s_shows) _ _ = true; decide +kernel)) (fun s H C cl fp => pg_name (i := 6) sc_shows.nd rfl (Or.inl rfl)) (fun s H C cl fp => pts_nil) (fun s H C cl fp => pe_def T.d_shown_place (ok_shown_place T) hr rfl (pa_cons (pv 6) pa_nil))) (pss_one (ps_ret (pe_op op_cat (pe_op op_cat (pe_lst (pa_cons (pe_mdef0 (pv 0) T.clMachine T.d_has_ended (ok_has_ended T) hr) pa_nil)) (pv 5)) (pe_callTy call_list_of (by rfl) T.b_list PyProof.Rows.boot_list (pa_cons (pe_mdef0 (pv 1) T.clPipeline T.d_counts (ok_counts T) hr) pa_nil)))))))))), ?_⟩
    refine ⟨_, rfl, a, _, _, _, _, rfl, ha, T.clMachine, T.nMachine_pipeline, mL_pipeline _ _, ?_⟩
    walk_at "un"
    refine tIf_by (decide (v.rk = .non)) xk (fun R' r => ?_) (fun hb R' r => ?_) (fun hb R' r => ?_) ?_
    · exact ⟨_, rfl, p, _, _, _, _, rfl, R.ob, T.clPipeline, T.nPipeline_to_reckon, pL_to_reckon _ _ _ _ _ _ _, _, rfl, r⟩
    · rcases ck with ⟨_, e⟩ | ⟨t, xs, oa, e1, _, _⟩
      · rw [e] at r; exact r
      · have z := of_decide_eq_true hb; rw [e1] at z; cases z
    · rcases ck with ⟨e, _⟩ | ⟨t, xs, oa, e1, e2, e3⟩
      · exact absurd e (of_decide_eq_false hb)
      · rw [e3] at r
        exact ⟨_, rfl, p, _, _, _, _, rfl, R.ob, T.clPipeline, T.nPipeline_to_reckon, pL_to_reckon _ _ _ _ _ _ _, t, _, _, _, e1, rfl, SqT.of e2, atI_nat (j := 0) rfl, r⟩
    walk_at "un"
    refine tIf_by (decide (v.im = .non)) xm (fun R' r => ?_) (fun hb R' r => ?_) (fun hb R' r => ?_) ?_
    · exact ⟨_, rfl, p, _, _, _, _, rfl, R.ob, T.clPipeline, T.nPipeline_in_memory, pL_in_memory _ _ _ _ _ _ _, _, rfl, r⟩
    · rcases cm with ⟨_, e⟩ | ⟨t, xs, oa, e1, _, _⟩
      · rw [e] at r; exact r
      · have z := of_decide_eq_true hb; rw [e1] at z; cases z
    · rcases cm with ⟨e, _⟩ | ⟨t, xs, oa, e1, e2, e3⟩
      · exact absurd e (of_decide_eq_false hb)
      · rw [e3] at r
        exact ⟨_, rfl, p, _, _, _, _, rfl, R.ob, T.clPipeline, T.nPipeline_in_memory, pL_in_memory _ _ _ _ _ _ _, t, _, _, _, e1, rfl, SqT.of e2, atI_nat (j := 0) rfl, r⟩
    walk_at "un"
    refine tIf_by (decide (v.wr = .non)) xw (fun R' r => ?_) (fun hb R' r => ?_) (fun hb R' r => ?_) ?_
    · exact ⟨_, rfl, p, _, _, _, _, rfl, R.ob, T.clPipeline, T.nPipeline_to_write, pL_to_write _ _ _ _ _ _ _, _, rfl, r⟩
    · rcases cw with ⟨_, e⟩ | ⟨t, xs, oa, e1, _, _⟩
      · rw [e] at r; exact r
      · have z := of_decide_eq_true hb; rw [e1] at z; cases z
    · rcases cw with ⟨e, _⟩ | ⟨t, xs, oa, e1, e2, e3⟩
      · exact absurd e (of_decide_eq_false hb)
      · rw [e3] at r
        exact ⟨_, rfl, p, _, _, _, _, rfl, R.ob, T.clPipeline, T.nPipeline_to_write, pL_to_write _ _ _ _ _ _ _, t, _, _, _, e1, rfl, SqT.of e2, atI_nat (j := 0) rfl, r⟩
    try dsimp only
    -- places
    refine ⟨_, rfl, p, _, _, _, _, rfl, R.ob, T.clPipeline, T.nPipeline_to_read, pL_to_read _ _ _ _ _ _ _, _, rfl, _, rfl, _, rfl, (by show 4 ≤ sizeLine; decide), fun t1 ht1 => ⟨t1, rfl, ⟨_, SqT.of upd_same⟩, fun D hD => ?_⟩⟩
    have s1 : L2.Same H (upd H t1 (.tup [v.rd, xk, xm, xw])) := same_new ht1
    have g1 : upd H t1 (.tup [v.rd, xk, xm, xw]) t1 = some (.tup [v.rd, xk, xm, xw]) := upd_same
    have n1 : ∀ {l : Addr}, upd H t1 (.tup [v.rd, xk, xm, xw]) l = none → H l = none := fun h => s1.free h
    generalize upd H t1 (.tup [v.rd, xk, xm, xw]) = H1 at s1 g1 n1 hD ⊢
    have key : ∀ (i : Nat) (x : V), [v.rd, xk, xm, xw][i]? = some x → ∃ r, VRd v.kvs x r ∧ [V.int (shownM M.m.rd), V.int (shownM (M.m.rk.map (·.1))), V.int (shownM (M.m.im.map (·.1))), V.int (shownM (M.m.wr.map (·.1)))][i]? = some (.int (shownM r)) := fun i x h => by
      match i, h with
      | 0, h => cases h; exact ⟨_, R.rd, rfl⟩
      | 1, h => cases h; exact ⟨_, vk, rfl⟩
      | 2, h => cases h; exact ⟨_, vm, rfl⟩
      | 3, h => cases h; exact ⟨_, vw, rfl⟩
      | i + 4, h => simp at h
    generalize hres : [V.int (shownM M.m.rd), V.int (shownM (M.m.rk.map (·.1))), V.int (shownM (M.m.im.map (·.1))), V.int (shownM (M.m.wr.map (·.1)))] = res at key
    have hrl : res.length = 4 := by rw [← hres]; rfl
    refine lc_tup (xs := [v.rd, xk, xm, xw]) (fun i H' => H' = upd H1 D (.lst (res.take i))) rfl ?_ ?_ ?_
    · rintro i H' _ rfl
      exact SqT.of (by rw [upd_ne (ne_of_none g1 hD)]; exact g1)
    · rintro i x H' hx rfl
      obtain ⟨r, hr1, hr2⟩ := key i x hx
      refine ⟨rfl, ?_⟩
      dsimp only [tYes]
      rw [if_pos rfl]
      refine ⟨_, rfl, M.P.ws, v.kvs, x, r, rfl, hr1, R.ords.keep (s1.trans (same_new hD)), res.take i, upd_same, ?_, ?_⟩
      · exact Nat.lt_of_le_of_lt (show (res.take i).length ≤ 4 by rw [List.length_take]; omega) (by decide)
      · rw [upd_upd, List.take_succ, hr2]
        rfl
    · rintro H' rfl
      have e4 : res.take [v.rd, xk, xm, xw].length = res := List.take_of_length_le (by rw [hrl]; exact Nat.le_refl 4)
      rw [e4]
      have s2 : L2.Same H1 (upd H1 D (.lst res)) := same_new hD
      have g2 : upd H1 D (.lst res) D = some (.lst res) := upd_same
      have n2 : ∀ {l : Addr}, upd H1 D (.lst res) l = none → H l = none := fun h => n1 (s2.free h)
      have Mc2 := Mc.keep (s1.trans s2)
      have sA := s1.trans s2
      generalize upd H1 D (.lst res) = H2 at sA g2 n2 Mc2 ⊢
      obtain ⟨⟨dx2, ha2⟩, R2⟩ := id Mc2
      walk_at "un"
      refine ⟨_, rfl, a, _, _, rfl, ha2, mN_has_ended _ _, a, p, g, v, M, rfl, Mc2, (by show 1 ≤ sizeLine; decide), fun l1 hl1 => ?_⟩
      have s3 : L2.Same H2 (upd H2 l1 (.lst [.int (b1 M.m.ended)])) := same_new hl1
      refine ⟨_, rfl, l1, D, _, _, rfl, rfl, upd_same, s3 _ _ g2, Nat.le_trans (show [V.int (b1 M.m.ended)].length + res.length ≤ 5 by rw [hrl]; exact Nat.le_refl 5) (by decide), fun l2 hl2 => ?_⟩
      have s4 := same_new (o := .lst ([V.int (b1 M.m.ended)] ++ res)) hl2
      have R4 := R2.keep (s3.trans s4)
      have g4 : upd (upd H2 l1 (.lst [.int (b1 M.m.ended)])) l2 (.lst ([V.int (b1 M.m.ended)] ++ res)) l2 = _ := upd_same
      have n4 : ∀ {l : Addr}, upd (upd H2 l1 (.lst [.int (b1 M.m.ended)])) l2 (.lst ([V.int (b1 M.m.ended)] ++ res)) l = none → H l = none := fun h => n2 (s3.free (s4.free h))
      have sB := sA.trans (s3.trans s4)
      generalize upd (upd H2 l1 (.lst [.int (b1 M.m.ended)])) l2 (.lst ([V.int (b1 M.m.ended)] ++ res)) = H4 at R4 g4 n4 sB ⊢
      refine ⟨_, rfl, p, _, _, rfl, R4.ob, pN_counts _ _ _ _ _ _ _, p, g, v, M.P, M.m, M.c, rfl, R4, fun t2 ht2 => ?_⟩
      have s5 := same_new (o := .tup (cntV M.c)) ht2
      refine ⟨t2, _, rfl, .inr (SqT.of upd_same), fun l3 hl3 => ?_⟩
      have s6 := same_new (o := .lst (cntV M.c)) hl3
      refine ⟨l2, l3, _, _, rfl, rfl, s6 _ _ (s5 _ _ g4), upd_same, Nat.le_trans (show ([V.int (b1 M.m.ended)] ++ res).length + (cntV M.c).length ≤ 9 by rw [List.length_append, hrl]; exact Nat.le_refl 9) (by decide), fun l4 hl4 => ?_⟩
      have s7 := same_new (o := .lst (([V.int (b1 M.m.ended)] ++ res) ++ cntV M.c)) hl4
      have sC := sB.trans (s5.trans (s6.trans s7))
      refine k _ p g v l4 (Mc.keep sC) (Stp.same sC) (n4 (s5.free (s6.free hl4))) ?_
      rw [upd_same, ← hres]
      rfl

theorem ok_load (T : Txt K mg c) (f : Addr) (fd : FuncData) (F : Fun K "load" "Machine.load" s_load f fd) : FnOk P w K mg base CX0 6 f fd ps_load_ (sp_load c) := by
  refine F.ok sc_load (fun vs H Q E h => ?_) (fun cdv A outer s H vs Q E hr h => ?_)
  · obtain ⟨_, _, _, _, _, _, _, _, _, rfl, _⟩ := h
    rfl
  · obtain ⟨a, p, g, v, M, n, wy, lw, ws, rfl, Mc, hlw, hC, k⟩ := h
    obtain ⟨⟨dx, ha⟩, R⟩ := id Mc
    have e := mAns_load M ws n wy
    refine ⟨_, (pss_cons (ps_if (PW.pt (pw_or (pt_cmpR op_lt (pv 1) pe_int (nomark _)) (pw_or (pt_cmpR op_gt (pv 1) (pe_gint T.k_MOST_ORDERS rfl) (nomark _)) (pw_or (pt_cmpR op_lt (pv 2) pe_int (nomark _)) (pw_or1 (pt_cmpR op_gt (pv 2) pe_int (nomark _))))))) (pss_one (ps_ret (pe_lst (pa_cons (pe_un un_neg pe_int) pa_nil)))) pss_nil) (pss_cons (ps_if (pt_val (pe_callB (cr_any rfl) (by rfl) T.b_any PyProof.Rows.boot_any (pa_cons (pe_lc rfl sc_load.nd (pi_list (pv 3)) (blkOk_by (own := [("word", 4)]) (by show blkC N_load (defScope s_load) _ _ = true; decide +kernel)) (fun s H C cl fp => pg_name (i := 4) sc_load.nd rfl (Or.inl rfl)) (fun s H C cl fp => pts_nil) (fun s H C cl fp => pe_cmpR op_gt (pe_def T.d_kind_of (ok_kind_of T) hr rfl (pa_cons (pv 4) pa_nil)) (pe_gint T.k_END rfl) (nomark _))) pa_nil))) (pss_one (ps_ret (pe_lst (pa_cons (pe_un un_neg pe_int) pa_nil)))) pss_nil) (pss_cons (ps_fld (pv 0) (pe_idef T.d_Pipeline_init (ok_Pipeline_init T) hr rfl (pa_cons (pv 3) (pa_cons (pv 2) pa_nil))) rfl) (pss_cons (ps_fld (pv 0) pe_int rfl) (pss_one (ps_ret (pe_lst (pa_cons pe_int pa_nil)))))))), ?_⟩
    walk_at "un"
    refine tIfS_by (decide (n < 0) || (decide (1024 < n) || (decide (wy < 0) || decide (3 < wy)))) (fun R' r' => ?_) (fun hb => ?_) (fun hb => ?_)
    · refine tOr_by (decide (n < 0)) (decide (1024 < n) || (decide (wy < 0) || decide (3 < wy))) (fun R' r' => ⟨_, rfl, _, _, rfl, rfl, _, rfl, r'⟩) (fun _ R' r' => ?_) r'
      refine tOr_by (decide (1024 < n)) (decide (wy < 0) || decide (3 < wy)) (fun R' r' => ⟨_, rfl, _, _, rfl, rfl, _, rfl, r'⟩) (fun _ R' r' => ?_) r'
      exact tOr_by (decide (wy < 0)) (decide (3 < wy)) (fun R' r' => ⟨_, rfl, _, _, rfl, rfl, _, rfl, r'⟩) (fun _ R' r' => ⟨_, rfl, _, _, rfl, rfl, _, rfl, r'⟩) r'
    · have hc : n < 0 ∨ 1024 < n ∨ wy < 0 ∨ 3 < wy := by simpa using hb
      rw [if_pos hc] at e
      refine ⟨_, rfl, (by show 1 ≤ sizeLine; decide), fun l hl => ?_⟩
      exact k.new Mc (by rw [e]) hl (by rw [e]; rfl)
    · have hc : ¬ (n < 0 ∨ 1024 < n ∨ wy < 0 ∨ 3 < wy) := by simpa using hb
      rw [if_neg hc] at e
      obtain ⟨hC1, hC2⟩ := hC
      have hlen : ws.length ≤ 1024 := by
        rw [hC2]
        unfold Md23Neutral.many
        split <;> omega
      walk_at "un"
      -- any
      refine ⟨_, rfl, lw, rfl, ⟨_, SqL.of hlw⟩, fun D hD => ?_⟩
      refine lc_list (xs := lint ws) (fun i H' => H' = upd H D (.lst ((ws.take i).map fun (x : Nat) => V.bl (decide (12 < x % 16))))) rfl ?_ ?_ ?_
      · rintro i H' _ rfl
        exact SqL.of (by rw [upd_ne (ne_of_none hlw hD)]; exact hlw)
      · rintro i x H' hx rfl
        obtain ⟨wd, hwd, rfl⟩ := lint_at hx
        refine ⟨rfl, ?_⟩
        dsimp only [tYes]
        rw [if_pos rfl]
        refine ⟨_, rfl, wd, rfl, _, _, rfl, rfl, _, upd_same, ?_, ?_⟩
        · rw [List.length_map, List.length_take]
          exact Nat.lt_of_le_of_lt (show min i ws.length ≤ 1024 by omega) (by decide)
        · rw [upd_upd, List.take_succ, hwd, List.map_append]
          have e1 : decide ((12 : Int) < ((wd % 16 : Nat) : Int)) = decide (12 < wd % 16) := decide_eq_decide.mpr (by omega)
          dsimp only
          rw [e1]
          rfl
      · rintro H' rfl
        rw [lint_len, List.take_length]
        have s1 : L2.Same H (upd H D (.lst (ws.map fun (x : Nat) => V.bl (decide (12 < x % 16))))) := same_new hD
        have g1 : upd H D (.lst (ws.map fun (x : Nat) => V.bl (decide (12 < x % 16)))) D = some (.lst ((ws.map fun x => decide (12 < x % 16)).map V.bl)) := by rw [List.map_map]; exact upd_same
        generalize upd H D (.lst (ws.map fun (x : Nat) => V.bl (decide (12 < x % 16)))) = H1 at s1 g1 ⊢
        have Mc1 := Mc.keep s1
        obtain ⟨⟨dx1, ha1⟩, R1⟩ := id Mc1
        have hlw1 := s1 _ _ hlw
        refine ⟨D, _, rfl, SqL.of g1, _, rfl, ?_⟩
        have ea : (ws.map fun x => decide (12 < x % 16)).any id = ws.any fun x => decide (12 < x % 16) := by rw [List.any_map]; rfl
        rw [ea]
        refine ite2 (fun hb => ?_) (fun hb => ?_)
        · rw [if_pos hb] at e
          refine ⟨_, rfl, (by show 1 ≤ sizeLine; decide), fun l hl => ?_⟩
          have s2 := s1.trans (same_new (o := .lst [V.int (-3)]) hl)
          refine k _ p g v l ?_ (Stp.same s2) (s1.free hl) ?_
          · rw [e]; exact Mc.keep s2
          · rw [e]; exact upd_same
        · rw [if_neg hb] at e
          walk_at "un"
          refine ⟨_, rfl, _, rfl, fun p2 dp hp hdp hne => ⟨p2, dp, lw, ws, wy, rfl, upd_same, ?_, hlen, by omega, by omega, fun H2 g2 v2 R2 f2 fr => ⟨rfl, ?_⟩⟩⟩
          · rw [upd_ne (ne_of_none hlw1 hp), upd_ne (ne_of_none hlw1 hdp)]
            exact hlw1
          have up : ∀ b u, H1 b = some u → upd (upd H1 dp (.own p2)) p2 (.ins c.cPipeline dp []) b = some u := fun b u e' => by rw [upd_ne (ne_of_none e' hp), upd_ne (ne_of_none e' hdp)]; exact e'
          have f3 : ∀ b u, H1 b = some u → H2 b = some u := fun b u e' => f2 b u (up b u e') (ne_of_none e' hp)
          have nn : ∀ b u, H1 b = some u → b ≠ p2 ∧ b ≠ g2.d ∧ b ≠ g2.lr ∧ b ≠ g2.lm ∧ b ≠ g2.lg := fun b u e' => ⟨ne_of_none e' hp, ne_of_none (up _ _ e') fr.1, ne_of_none (up _ _ e') fr.2.1, ne_of_none (up _ _ e') fr.2.2.1, ne_of_none (up _ _ e') fr.2.2.2⟩
          have ha2 := f3 _ _ ha1
          refine ⟨_, rfl, a, _, _, _, rfl, ha2, T.clMachine, T.nMachine_pipeline, mF_len _ _, ?_⟩
          rw [mP_pipeline]
          refine ⟨_, rfl, a, _, _, _, rfl, upd_same, T.clMachine, T.nMachine_asked, mF_len _ _, ?_⟩
          have e0 : putF "asked" (V.int 0) (macF p2 M.asked) = macF p2 0 := mP_asked p2 M.asked 0
          rw [e0, upd_upd]
          have R3 := R2.mac T.neOrderMachine T.nePipelineMachine ha2 (.ins c.cMachine dx1 (macF p2 0))
          have ha3 : upd H2 a (.ins c.cMachine dx1 (macF p2 0)) a = some (.ins c.cMachine dx1 (macF p2 0)) := upd_same
          have f4 : ∀ b u, H2 b = some u → b ≠ a → upd H2 a (.ins c.cMachine dx1 (macF p2 0)) b = some u := fun b u e' hb' => by rw [upd_ne hb']; exact e'
          generalize upd H2 a (.ins c.cMachine dx1 (macF p2 0)) = H3 at R3 ha3 f4 ⊢
          refine ⟨(by show 1 ≤ sizeLine; decide), fun l hl => ?_⟩
          have hl0 : H l = none := by
            cases e' : H l with
            | none => rfl
            | some u =>
              have hla : l ≠ a := fun z => by subst z; rw [ha3] at hl; cases hl
              rw [f4 l u (f3 l u (s1 _ _ e')) hla] at hl
              cases hl
          have Mc3 : MacAt c H3 a p2 g2 v2 (mAns M (.load ws n wy)).1 := by rw [e]; exact ⟨⟨dx1, ha3⟩, R3⟩
          refine k _ p2 g2 v2 l (Mc3.keep (same_new hl)) (fun b u e' o => ⟨same_new hl _ _ (f4 b u (f3 b u (s1 _ _ e')) o.1), o.1, nn b u (s1 _ _ e')⟩) hl0 ?_
          rw [e]
          exact upd_same
end
end Fs

set_option Elab.async false
set_option linter.all false
set_option maxRecDepth 100000
namespace Fs
open PySem L2
local macro_rules | `(tactic| walk_at "un") => `(tactic| try dsimp only [tSeq, tNext, tAsg, gName, sFld, sFldAug, tRet, tDrop])

theorem ints_at {l : List Int} {i : Nat} {z : Int} (h : l[i]? = some z) : (vInts l)[i]? = some (.int z) := by unfold vInts; rw [List.getElem?_map, h]; rfl
theorem ints_len (l : List Int) : (vInts l).length = l.length := List.length_map _
theorem ints_app (l r : List Int) : vInts l ++ vInts r = vInts (l ++ r) := by unfold vInts; rw [List.map_append]
theorem at_mid {A F B : List Int} {k : Nat} {z : Int} (h : F[k]? = some z) : (A ++ (F ++ B))[A.length + k]? = some z := by
  have hk : k < F.length := (List.getElem?_eq_some_iff.mp h).1
  rw [List.getElem?_append_right (Nat.le_add_right _ _), Nat.add_sub_cancel_left, List.getElem?_append_left hk]
  exact h
theorem cut_mid (A F B : List Int) : cutV (vInts (A ++ (F ++ B))) (some (A.length : Int)) (some ((A.length + F.length : Nat) : Int)) = vInts F := by
  unfold cutV
  rw [HT.sIx_nat, HT.sIx_nat, ints_len, List.length_append, List.length_append]
  have e1 : min A.length (A.length + (F.length + B.length)) = A.length := by omega
  have e2 : min (A.length + F.length) (A.length + (F.length + B.length)) - A.length = F.length := by omega
  rw [e1, e2]
  unfold vInts
  rw [List.map_append, List.map_append, List.drop_append_of_le_length (by rw [List.length_map]; exact Nat.le_refl _)]
  have e3 : (A.map V.int).drop A.length = [] := by rw [List.drop_eq_nil_iff, List.length_map]; exact Nat.le_refl _
  rw [e3, List.nil_append]
  have e4 : F.length = (F.map V.int).length := (List.length_map _).symm
  rw [e4, List.take_append_of_le_length (Nat.le_refl _), List.take_length]
theorem cut_4 (x0 x1 x2 x3 : Int) (F : List Int) : cutV (vInts (x0 :: x1 :: x2 :: x3 :: F)) (some 4) none = vInts F := by
  unfold cutV
  have e : HT.sIx (vInts (x0 :: x1 :: x2 :: x3 :: F)).length 0 (some 4) = 4 := by
    have h := HT.sIx_nat (vInts (x0 :: x1 :: x2 :: x3 :: F)).length 0 4
    have h2 : min 4 (vInts (x0 :: x1 :: x2 :: x3 :: F)).length = 4 := by rw [ints_len]; simp only [List.length_cons]; omega
    rw [h2] at h
    exact h
  rw [e, HT.sIx_none]
  show (vInts F).take ((vInts (x0 :: x1 :: x2 :: x3 :: F)).length - 4) = vInts F
  refine List.take_of_length_le ?_
  rw [ints_len, ints_len]
  simp only [List.length_cons]
  omega
theorem ans_len (M : MM) (q : Md23.Call) : (mAns M q).2.length ≤ 9 := by
  cases q with
  | load l n w => rw [mAns_load]; split; simp; split <;> simp
  | go n => rw [mAns_go]; split; simp; split <;> simp
  | shows => exact Nat.le_refl 9
  | reg r => rw [mAns_reg]; split <;> simp
  | mem a => rw [mAns_mem]; split <;> simp
theorem flat_pos (q : Md23.Call) : 0 < (flatOf q).length := by cases q <;> simp [flatOf]
theorem flat_le : ∀ qs : List Md23.Call, qs.length ≤ (qs.flatMap flatOf).length
  | [] => Nat.zero_le _
  | q :: r => by
    have h1 := flat_le r
    have h2 := flat_pos q
    rw [List.flatMap_cons, List.length_append, List.length_cons]
    omega

section
variable {c : Cl} {H H' : Hp} {a p l : Addr} {g : Ge} {v : Va} {M : MM} {P : Pg} {m : MS} {n : Cnt} {xs : List V}
theorem PipAt.lst (R : PipAt c H p g v P m n) (hl : H l = some (.lst xs)) (h : l ≠ g.lr ∧ l ≠ g.lm ∧ l ≠ g.lg) (o : HO) : PipAt c (upd H l o) p g v P m n := by
  have kt := tup_upd (o := o) hl (by intro xs z; cases z)
  have ko := ord_upd (c := c) (o := o) hl (by intro dx fs z; cases z)
  exact ⟨by rw [upd_ne (ne_of R.ob hl (by intro z; cases z))]; exact R.ob, by rw [upd_ne h.1.symm]; exact R.rg, by rw [upd_ne h.2.1.symm]; exact R.mm, by rw [upd_ne h.2.2.symm]; exact R.gg, by rw [upd_ne (ne_of R.dd hl (by intro z; cases z))]; exact R.dd, R.n1, R.n2, R.n3, R.dk.keep ko, R.rd, R.rk.keep kt, R.im.keep kt, R.wr.keep kt⟩
theorem MacAt.lst (R : MacAt c H a p g v M) (hl : H l = some (.lst xs)) (h : Out a p g l) (o : HO) : MacAt c (upd H l o) a p g v M := by
  obtain ⟨⟨dx, e⟩, r⟩ := R
  exact ⟨⟨dx, by rw [upd_ne h.1.symm]; exact e⟩, r.lst hl h.2.2.2 o⟩
theorem MPost.same {q : Md23.Call} {Q : VK} (k : MPost c H a p g M q Q) (s : L2.Same H H') : MPost c H' a p g M q Q := fun H2 p' g' v' l R st hl hl2 =>
  k H2 p' g' v' l R (fun b u e o => st b u (s _ _ e) o) (s.free hl) hl2
/-- the calls that were handed in -/
def CA (K : PySem.W.Frag) (H : Hp) (ca : Addr) (l : List Int) (a p : Addr) (g : Ge) : Prop := (∃ o, H ca = some (.frz o (.lst (vInts l))) ∧ Out a p g ca) ∨ ∀ H : Hp, SqL K H ca (vInts l)
theorem CA.sq {K : PySem.W.Frag} {ca : Addr} {l : List Int} (h : CA K H ca l a p g) : SqL K H ca (vInts l) := by
  rcases h with ⟨o, h, _⟩ | h
  · exact .inl (.inr ⟨o, h⟩)
  · exact h H
theorem CA.same {K : PySem.W.Frag} {ca : Addr} {l : List Int} (h : CA K H ca l a p g) (s : L2.Same H H') : CA K H' ca l a p g := by
  rcases h with ⟨o, h, h2⟩ | h
  · exact .inl ⟨o, s _ _ h, h2⟩
  · exact .inr h
theorem CA.step {K : PySem.W.Frag} {ca p' : Addr} {g' : Ge} {l : List Int} (h : CA K H ca l a p g) (s : Stp a p g p' g' H H') : CA K H' ca l a p' g' := by
  rcases h with ⟨o, h, h2⟩ | h
  · exact .inl ⟨o, (s _ _ h h2).1, (s _ _ h h2).2⟩
  · exact .inr h
theorem CA.upd {K : PySem.W.Frag} {ca lt : Addr} {l : List Int} {xs : List V} (h : CA K H ca l a p g) (hl : H lt = some (.lst xs)) (o : HO) : CA K (upd H lt o) ca l a p g := by
  rcases h with ⟨o', h, h2⟩ | h
  · exact .inl ⟨o', by rw [upd_ne (ne_of h hl (by intro z; cases z))]; exact h, h2⟩
  · exact .inr h
end
def sp_end_of_call (K : PySem.W.Frag) : Sp := fun vs H Q _ => ∃ (ca : Addr) (A B : List Int) (q : Md23.Call), vs = [.ref ca, .int (A.length : Int)] ∧ SqL K H ca (vInts (A ++ (flatOf q ++ B))) ∧ Q (.int ((A.length + (flatOf q).length : Nat) : Int)) H
def sp_answer_of (c : Cl) : Sp := fun vs H Q _ => ∃ (a p : Addr) (g : Ge) (v : Va) (M : MM) (lc : Addr) (q : Md23.Call), vs = [.ref a, .ref lc] ∧ MacAt c H a p g v M ∧ MOk M ∧ CallOk q ∧ H lc = some (.lst (vInts (flatOf q))) ∧ MPost c H a p g M q Q
def sp_answers (K : PySem.W.Frag) : Sp := fun vs H Q _ => ∃ (ca : Addr) (qs : List Md23.Call), vs = [.ref ca] ∧ ((∃ o, H ca = some (.frz o (.lst (vInts (qs.flatMap flatOf))))) ∨ ∀ H : Hp, SqL K H ca (vInts (qs.flatMap flatOf))) ∧ (∀ q ∈ qs, CallOk q) ∧ (qs.flatMap flatOf).length ≤ 30000 ∧
  ∀ (H' : Hp) (lt : Addr), H' lt = some (.lst (vInts (playM mm0 qs))) → Q (.ref lt) H'

section
variable {P : Program} {w : World} {K : PySem.W.Frag} {mg : Str → Option Value} {base : Heap} {c : Cl}

theorem ok_end_of_call (T : Txt K mg c) (f : Addr) (fd : FuncData) (F : Fun K "end_of_call" "end_of_call" s_end_of_call f fd) : FnOk P w K mg base CX0 1 f fd ps_end_of_call_ (sp_end_of_call K) := by
  refine F.ok sc_end_of_call (fun vs H Q E h => ?_) (fun cdv A outer s H vs Q E hr h => ?_)
  · obtain ⟨_, _, _, _, rfl, _⟩ := h
    rfl
  · obtain ⟨ca, A0, B, q, rfl, hs, k⟩ := h
    refine ⟨_, (pss_cons (ps_set (i := 2) sc_end_of_call.nd rfl (Or.inl rfl) (pe_ix ix_list (pv 0) (pv 1) (fun _ _ => rfl))) (pss_cons (ps_if (pt_cmpR op_eq (pv 2) (pe_gint T.k_CALL_LOAD rfl) (nomark _)) (pss_one (ps_ret (pe_op op_add (pe_op op_add (pv 1) pe_int) (pe_ix ix_list (pv 0) (pe_op op_add (pv 1) pe_int) (fun _ _ => rfl))))) pss_nil) (pss_cons (ps_if (pt_cmpR op_eq (pv 2) (pe_gint T.k_CALL_SHOWS rfl) (nomark _)) (pss_one (ps_ret (pe_op op_add (pv 1) pe_int))) pss_nil) (pss_one (ps_ret (pe_op op_add (pv 1) pe_int)))))), ?_⟩
    cases q with
    | load ws n wy =>
      refine ⟨_, rfl, _, rfl, ca, _, _, .int 1, rfl, rfl, hs, atI_nat (ints_at (at_mid (k := 0) rfl)), ?_⟩
      walk_at "un"
      refine tIfS_by true (fun R' r => ⟨_, rfl, rfl, _, rfl, r⟩) (fun _ => ?_) (fun z => by cases z)
      have e3 : (A0.length : Int) + 3 = ((A0.length + 3 : Nat) : Int) := by omega
      refine ⟨_, rfl, _, _, rfl, rfl, _, rfl, _, rfl, _, _, rfl, rfl, ca, _, _, .int (ws.length : Int), rfl, rfl, hs, (by rw [e3]; exact atI_nat (ints_at (at_mid (k := 3) rfl))), _, _, rfl, rfl, ?_⟩
      have e4 : V.int ((A0.length : Int) + 4 + (ws.length : Int)) = V.int ((A0.length + (flatOf (.load ws n wy)).length : Nat) : Int) := by
        congr 1
        show _ = ((A0.length + ((ws.map (fun (x : Nat) => (x : Int))).length + 1 + 1 + 1 + 1) : Nat) : Int)
        rw [List.length_map]
        omega
      rw [← e4] at k
      exact k
    | go n =>
      refine ⟨_, rfl, _, rfl, ca, _, _, .int 2, rfl, rfl, hs, atI_nat (ints_at (at_mid (k := 0) rfl)), ?_⟩
      walk_at "un"
      refine tIfS_by false (fun R' r => ⟨_, rfl, rfl, _, rfl, r⟩) (fun z => by cases z) (fun _ => ?_)
      walk_at "un"
      refine tIfS_by false (fun R' r => ⟨_, rfl, rfl, _, rfl, r⟩) (fun z => by cases z) (fun _ => ?_)
      exact ⟨_, rfl, _, _, rfl, rfl, k⟩
    | shows =>
      refine ⟨_, rfl, _, rfl, ca, _, _, .int 3, rfl, rfl, hs, atI_nat (ints_at (at_mid (k := 0) rfl)), ?_⟩
      walk_at "un"
      refine tIfS_by false (fun R' r => ⟨_, rfl, rfl, _, rfl, r⟩) (fun z => by cases z) (fun _ => ?_)
      walk_at "un"
      refine tIfS_by true (fun R' r => ⟨_, rfl, rfl, _, rfl, r⟩) (fun _ => ?_) (fun z => by cases z)
      exact ⟨_, rfl, _, _, rfl, rfl, k⟩
    | reg r0 =>
      refine ⟨_, rfl, _, rfl, ca, _, _, .int 4, rfl, rfl, hs, atI_nat (ints_at (at_mid (k := 0) rfl)), ?_⟩
      walk_at "un"
      refine tIfS_by false (fun R' r => ⟨_, rfl, rfl, _, rfl, r⟩) (fun z => by cases z) (fun _ => ?_)
      walk_at "un"
      refine tIfS_by false (fun R' r => ⟨_, rfl, rfl, _, rfl, r⟩) (fun z => by cases z) (fun _ => ?_)
      exact ⟨_, rfl, _, _, rfl, rfl, k⟩
    | mem a0 =>
      refine ⟨_, rfl, _, rfl, ca, _, _, .int 5, rfl, rfl, hs, atI_nat (ints_at (at_mid (k := 0) rfl)), ?_⟩
      walk_at "un"
      refine tIfS_by false (fun R' r => ⟨_, rfl, rfl, _, rfl, r⟩) (fun z => by cases z) (fun _ => ?_)
      walk_at "un"
      refine tIfS_by false (fun R' r => ⟨_, rfl, rfl, _, rfl, r⟩) (fun z => by cases z) (fun _ => ?_)
      exact ⟨_, rfl, _, _, rfl, rfl, k⟩

theorem ok_answer_of (T : Txt K mg c) (f : Addr) (fd : FuncData) (F : Fun K "answer_of" "answer_of" s_answer_of f fd) : FnOk P w K mg base CX0 10 f fd ps_answer_of_ (sp_answer_of c) := by
  refine F.ok sc_answer_of (fun vs H Q E h => ?_) (fun cdv A outer s H vs Q E hr h => ?_)
  · obtain ⟨_, _, _, _, _, _, _, rfl, _⟩ := h
    rfl
  · obtain ⟨a, p, g, v, M, lc, q, rfl, Mc, hM, hC, hl, k⟩ := h
    obtain ⟨⟨dx, ha⟩, R⟩ := id Mc
    refine ⟨_, (pss_cons (ps_set (i := 2) sc_answer_of.nd rfl (Or.inl rfl) (pe_ix ix_list (pv 1) pe_int (fun _ _ => rfl))) (pss_cons (ps_if (pt_cmpR op_eq (pv 2) (pe_gint T.k_CALL_LOAD rfl) (nomark _)) (pss_one (ps_ret (pe_mdef (pv 0) T.clMachine T.d_load (ok_load T) hr (pa_cons (pe_ix ix_list (pv 1) pe_int (fun _ _ => rfl)) (pa_cons (pe_ix ix_list (pv 1) pe_int (fun _ _ => rfl)) (pa_cons (pe_slice sl_list (pv 1) (po_some pe_int) po_none) pa_nil)))))) pss_nil) (pss_cons (ps_if (pt_cmpR op_eq (pv 2) (pe_gint T.k_CALL_GO rfl) (nomark _)) (pss_one (ps_ret (pe_mdef (pv 0) T.clMachine T.d_go (ok_go T) hr (pa_cons (pe_ix ix_list (pv 1) pe_int (fun _ _ => rfl)) pa_nil)))) pss_nil) (pss_cons (ps_if (pt_cmpR op_eq (pv 2) (pe_gint T.k_CALL_SHOWS rfl) (nomark _)) (pss_one (ps_ret (pe_mdef0 (pv 0) T.clMachine T.d_shows (ok_shows T) hr))) pss_nil) (pss_cons (ps_if (pt_cmpR op_eq (pv 2) (pe_gint T.k_CALL_REG rfl) (nomark _)) (pss_one (ps_ret (pe_mdef (pv 0) T.clMachine T.d_reg (ok_reg T) hr (pa_cons (pe_ix ix_list (pv 1) pe_int (fun _ _ => rfl)) pa_nil)))) pss_nil) (pss_one (ps_ret (pe_mdef (pv 0) T.clMachine T.d_mem (ok_mem T) hr (pa_cons (pe_ix ix_list (pv 1) pe_int (fun _ _ => rfl)) pa_nil))))))))), ?_⟩
    cases q with
    | load ws n wy =>
      have hl : H lc = some (.lst (vInts (1 :: n :: wy :: (ws.length : Int) :: ws.map (fun (x : Nat) => (x : Int))))) := hl
      refine ⟨_, rfl, lc, _, _, .int 1, rfl, rfl, SqL.of hl, atI_nat (j := 0) rfl, ?_⟩
      walk_at "un"
      refine tIfS_by true (fun R' r => ⟨_, rfl, rfl, _, rfl, r⟩) (fun _ => ?_) (fun z => by cases z)
      refine ⟨_, rfl, a, _, _, rfl, ha, mN_load _ _, _, rfl, lc, _, _, .int n, rfl, rfl, SqL.of hl, atI_nat (j := 1) rfl, _, rfl, lc, _, _, .int wy, rfl, rfl, SqL.of hl, atI_nat (j := 2) rfl, _, rfl, 4, rfl, lc, _, rfl, SqL.of hl, fun lw hlw => ?_⟩
      rw [cut_4]
      have s1 := same_new (o := .lst (vInts (ws.map (fun (x : Nat) => (x : Int))))) hlw
      have e1 : vInts (ws.map (fun (x : Nat) => (x : Int))) = lint ws := by unfold vInts lint; rw [List.map_map]; rfl
      exact ⟨a, p, g, v, M, n, wy, lw, ws, rfl, Mc.keep s1, by rw [upd_same, e1], hC, k.same s1⟩
    | go n =>
      have hl : H lc = some (.lst (vInts [2, n])) := hl
      refine ⟨_, rfl, lc, _, _, .int 2, rfl, rfl, SqL.of hl, rfl, ?_⟩
      walk_at "un"
      refine tIfS_by false (fun R' r => ⟨_, rfl, rfl, _, rfl, r⟩) (fun z => by cases z) (fun _ => ?_)
      walk_at "un"
      refine tIfS_by true (fun R' r => ⟨_, rfl, rfl, _, rfl, r⟩) (fun _ => ?_) (fun z => by cases z)
      exact ⟨_, rfl, a, _, _, rfl, ha, mN_go _ _, _, rfl, lc, _, _, .int n, rfl, rfl, SqL.of hl, rfl, a, p, g, v, M, n, rfl, Mc, hM, k⟩
    | shows =>
      have hl : H lc = some (.lst (vInts [3])) := hl
      refine ⟨_, rfl, lc, _, _, .int 3, rfl, rfl, SqL.of hl, rfl, ?_⟩
      walk_at "un"
      refine tIfS_by false (fun R' r => ⟨_, rfl, rfl, _, rfl, r⟩) (fun z => by cases z) (fun _ => ?_)
      walk_at "un"
      refine tIfS_by false (fun R' r => ⟨_, rfl, rfl, _, rfl, r⟩) (fun z => by cases z) (fun _ => ?_)
      walk_at "un"
      refine tIfS_by true (fun R' r => ⟨_, rfl, rfl, _, rfl, r⟩) (fun _ => ?_) (fun z => by cases z)
      exact ⟨_, rfl, a, _, _, rfl, ha, mN_shows _ _, a, p, g, v, M, rfl, Mc, k⟩
    | reg n =>
      have hl : H lc = some (.lst (vInts [4, n])) := hl
      refine ⟨_, rfl, lc, _, _, .int 4, rfl, rfl, SqL.of hl, rfl, ?_⟩
      walk_at "un"
      refine tIfS_by false (fun R' r => ⟨_, rfl, rfl, _, rfl, r⟩) (fun z => by cases z) (fun _ => ?_)
      walk_at "un"
      refine tIfS_by false (fun R' r => ⟨_, rfl, rfl, _, rfl, r⟩) (fun z => by cases z) (fun _ => ?_)
      walk_at "un"
      refine tIfS_by false (fun R' r => ⟨_, rfl, rfl, _, rfl, r⟩) (fun z => by cases z) (fun _ => ?_)
      walk_at "un"
      refine tIfS_by true (fun R' r => ⟨_, rfl, rfl, _, rfl, r⟩) (fun _ => ?_) (fun z => by cases z)
      exact ⟨_, rfl, a, _, _, rfl, ha, mN_reg _ _, _, rfl, lc, _, _, .int n, rfl, rfl, SqL.of hl, rfl, a, p, g, v, M, n, rfl, Mc, hM, k⟩
    | mem n =>
      have hl : H lc = some (.lst (vInts [5, n])) := hl
      refine ⟨_, rfl, lc, _, _, .int 5, rfl, rfl, SqL.of hl, rfl, ?_⟩
      walk_at "un"
      refine tIfS_by false (fun R' r => ⟨_, rfl, rfl, _, rfl, r⟩) (fun z => by cases z) (fun _ => ?_)
      walk_at "un"
      refine tIfS_by false (fun R' r => ⟨_, rfl, rfl, _, rfl, r⟩) (fun z => by cases z) (fun _ => ?_)
      walk_at "un"
      refine tIfS_by false (fun R' r => ⟨_, rfl, rfl, _, rfl, r⟩) (fun z => by cases z) (fun _ => ?_)
      walk_at "un"
      refine tIfS_by false (fun R' r => ⟨_, rfl, rfl, _, rfl, r⟩) (fun z => by cases z) (fun _ => ?_)
      exact ⟨_, rfl, a, _, _, rfl, ha, mN_mem _ _, _, rfl, lc, _, _, .int n, rfl, rfl, SqL.of hl, rfl, a, p, g, v, M, n, rfl, Mc, hM, k⟩

theorem ok_answers (T : Txt K mg c) (f : Addr) (fd : FuncData) (F : Fun K "answers" "answers" s_answers f fd) : FnOk P w K mg base CX0 11 f fd ps_answers_ (sp_answers K) := by
  refine F.ok sc_answers (fun vs H Q E h => ?_) (fun cdv A outer s H vs Q E hr h => ?_)
  · obtain ⟨_, _, rfl, _⟩ := h
    rfl
  · obtain ⟨ca, qs, rfl, hca, hq, hlen, k⟩ := h
    refine ⟨_, (pss_cons (ps_set (i := 1) sc_answers.nd rfl (Or.inl rfl) (pe_idef0 T.d_Machine_init (ok_Machine_init T) hr rfl)) (pss_cons (ps_set (i := 2) sc_answers.nd rfl (Or.inl rfl) (pe_lst pa_nil)) (pss_cons (ps_set (i := 3) sc_answers.nd rfl (Or.inl rfl) pe_int) (pss_cons (ps_while PassesOwn.never (pt_cmpR op_lt (pv 3) (pe_callB call_len_seq (by rfl) T.b_len PySem.boot_len (pa_cons (pv 0) pa_nil)) (nomark _)) (pss_cons (ps_set (i := 4) sc_answers.nd rfl (Or.inl rfl) (pe_def T.d_end_of_call (ok_end_of_call T) hr rfl (pa_cons (pv 0) (pa_cons (pv 3) pa_nil)))) (pss_cons (ps_set (i := 5) sc_answers.nd rfl (Or.inl rfl) (pe_def T.d_answer_of (ok_answer_of T) hr rfl (pa_cons (pv 1) (pa_cons (pe_slice sl_list (pv 0) (po_some (pv 3)) (po_some (pv 4))) pa_nil)))) (pss_cons (ps_expr (pe_bm PySem.F.plainAttrs_list PySem.F.slot_list_append PySem.F.type_list_append mt_append (pv 2) (pa_cons (pe_callB call_len_seq (by rfl) T.b_len PySem.boot_len (pa_cons (pv 5) pa_nil)) pa_nil))) (pss_cons (ps_expr (pe_bm PySem.F.plainAttrs_list PySem.F.slot_list_extend PySem.F.type_list_extend mt_extend (pv 2) (pa_cons (pv 5) pa_nil))) (pss_one (ps_set (i := 3) sc_answers.nd rfl (Or.inl rfl) (pv 4)))))))) (pss_one (ps_ret (pv 2))))))), ?_⟩
    -- the machine
    refine fun a dx hx hdx hne => ⟨a, dx, rfl, upd_same, fun H1 p g v Mc f1 => ⟨rfl, ?_⟩⟩
    have hc1 : CA K H1 ca (qs.flatMap flatOf) a p g := by
      rcases hca with ⟨o, h⟩ | h
      · have h' : upd (upd H dx (.own a)) a (.ins c.cMachine dx []) ca = some (.frz o (.lst (vInts (qs.flatMap flatOf)))) := by rw [upd_ne (ne_of_none h hx), upd_ne (ne_of_none h hdx)]; exact h
        obtain ⟨q1, q2⟩ := f1 ca _ h' (ne_of_none h hx)
        exact .inl ⟨o, q1, q2⟩
      · exact .inr h
    -- told
    refine ⟨(by show 0 ≤ sizeLine; decide), fun lt hlt => ?_⟩
    have s2 := same_new (o := .lst []) hlt
    have Mc2 := Mc.keep s2
    have hc2 := hc1.same s2
    have g2 : upd H1 lt (.lst []) lt = some (.lst (vInts [])) := upd_same
    have ol : Out a p g lt := by
      obtain ⟨⟨dx', e⟩, R⟩ := id Mc
      exact ⟨(ne_of_none e hlt).symm, (ne_of_none R.ob hlt).symm, (ne_of_none R.dd hlt).symm, (ne_of_none R.rg hlt).symm, (ne_of_none R.mm hlt).symm, (ne_of_none R.gg hlt).symm⟩
    generalize upd H1 lt (.lst []) = H2 at Mc2 hc2 g2 ⊢
    dsimp only [tAsg, gName, tSeq, List.set]
    try dsimp only
    refine seq_by (t := tWhile _ _) (fun σ' H' => (∃ s3 s4 s5, σ' = [some (.ref ca), some (.ref a), some (.ref lt), s3, s4, s5]) ∧ H' lt = some (.lst (vInts (playM mm0 qs)))) (fun D hD => ?_) ?_
    · refine while_on (fun mm σ' H' => ∃ (q1 q2 : List Md23.Call) (M : MM) (p : Addr) (g : Ge) (v : Va) (told : List Int) (s4 s5 : Option V), qs = q1 ++ q2 ∧ mm = q2.length ∧ σ' = [some (.ref ca), some (.ref a), some (.ref lt), some (.int ((q1.flatMap flatOf).length : Int)), s4, s5] ∧
        MacAt c H' a p g v M ∧ MOk M ∧ H' lt = some (.lst (vInts told)) ∧ Out a p g lt ∧ CA K H' ca (qs.flatMap flatOf) a p g ∧ playM mm0 qs = told ++ playM M q2 ∧ told.length ≤ 10 * q1.length) qs.length
        ⟨[], qs, mm0, p, g, v, [], _, _, rfl, rfl, rfl, Mc2, mrel_start.ok, g2, ol, hc2, rfl, Nat.zero_le _⟩ ?_
      rintro mm σ' H3 ⟨q1, q2, M, p3, g3, v3, told, s4, s5, eq, rfl, rfl, Mc3, hM, hl3, ol3, hc3, ep, ht⟩
      refine ⟨decide ((q1.flatMap flatOf).length < (qs.flatMap flatOf).length), fun R' r => ?_, fun hb => ?_, fun hb => ?_⟩
      · refine ⟨_, rfl, _, rfl, ca, _, rfl, .inl hc3.sq, _, _, rfl, rfl, _, rfl, ?_⟩
        rw [ints_len, dec_lt]
        exact r
      · cases q2 with
        | nil =>
          rw [List.append_nil] at eq
          subst eq
          have hb := of_decide_eq_true hb
          exact absurd hb (Nat.lt_irrefl _)
        | cons q r =>
          have efl : qs.flatMap flatOf = q1.flatMap flatOf ++ (flatOf q ++ r.flatMap flatOf) := by rw [eq, List.flatMap_append, List.flatMap_cons]
          have hCq : CallOk q := hq q (by rw [eq]; simp)
          have hn : q1.length ≤ 30000 := by
            have h1 := flat_le qs
            rw [eq] at h1
            rw [eq] at hlen
            rw [List.length_append] at h1
            omega
          walk_at "un"
          have hsq : SqL K H3 ca (vInts (q1.flatMap flatOf ++ (flatOf q ++ r.flatMap flatOf))) := by rw [← efl]; exact hc3.sq
          -- end
          refine ⟨_, rfl, _, rfl, ca, q1.flatMap flatOf, r.flatMap flatOf, q, rfl, hsq, ?_⟩
          -- answer
          refine ⟨_, rfl, _, rfl, _, rfl, _, rfl, _, rfl, _, rfl, ca, _, rfl, hsq, fun lc hlc => ?_⟩
          rw [cut_mid]
          have s4 := same_new (o := .lst (vInts (flatOf q))) hlc
          have Mc4 := Mc3.keep s4
          have hc4 := hc3.same s4
          have hl4 := s4 _ _ hl3
          have g4 : upd H3 lc (.lst (vInts (flatOf q))) lc = some (.lst (vInts (flatOf q))) := upd_same
          generalize upd H3 lc (.lst (vInts (flatOf q))) = H4 at Mc4 hc4 hl4 g4 ⊢
          refine ⟨a, p3, g3, v3, M, lc, q, rfl, Mc4, hM, hCq, g4, fun H5 p5 g5 v5 l Mc5 st5 hln hl5 => ?_⟩
          obtain ⟨hlt5, ol5⟩ := st5 _ _ hl4 ol3
          have hc5 := hc4.step st5
          have hll : l ≠ lt := fun z => by subst z; rw [hl4] at hln; cases hln
          dsimp only [List.set]
          have hsz : told.length + 10 ≤ 300010 := by omega
          -- append
          refine ⟨_, rfl, .inl ⟨rfl, _, SqL.of hlt5⟩, _, rfl, l, _, rfl, .inl (SqL.of hl5), lt, _, _, rfl, rfl, hlt5, ?_, ?_⟩
          · rw [ints_len]
            exact Nat.lt_of_le_of_lt (show told.length ≤ 300010 by omega) (by decide)
          have Mc6 := Mc5.lst hlt5 ol5 (.lst (vInts told ++ [V.int ((vInts (mAns M q).2).length : Int)]))
          have hc6 := hc5.upd hlt5 (.lst (vInts told ++ [V.int ((vInts (mAns M q).2).length : Int)]))
          have g6 : upd H5 lt (.lst (vInts told ++ [V.int ((vInts (mAns M q).2).length : Int)])) lt = some (.lst (vInts (told ++ [((mAns M q).2.length : Int)]))) := by rw [upd_same, ints_len, ← ints_app]; rfl
          have l6 : upd H5 lt (.lst (vInts told ++ [V.int ((vInts (mAns M q).2).length : Int)])) l = some (.lst (vInts (mAns M q).2)) := by rw [upd_ne hll]; exact hl5
          generalize upd H5 lt (.lst (vInts told ++ [V.int ((vInts (mAns M q).2).length : Int)])) = H6 at Mc6 hc6 g6 l6 ⊢
          have hal := ans_len M q
          -- extend
          refine ⟨_, rfl, .inl ⟨rfl, _, SqL.of g6⟩, _, rfl, lt, l, _, _, rfl, rfl, g6, l6, ?_, ?_⟩
          · rw [ints_len, ints_len, List.length_append]
            exact Nat.le_trans (show told.length + 1 + (mAns M q).2.length ≤ 300010 by omega) (by decide)
          have Mc7 := Mc6.lst g6 ol5 (.lst (vInts (told ++ [((mAns M q).2.length : Int)]) ++ vInts (mAns M q).2))
          have hc7 := hc6.upd g6 (.lst (vInts (told ++ [((mAns M q).2.length : Int)]) ++ vInts (mAns M q).2))
          have g7 : upd H6 lt (.lst (vInts (told ++ [((mAns M q).2.length : Int)]) ++ vInts (mAns M q).2)) lt = some (.lst (vInts ((told ++ [((mAns M q).2.length : Int)]) ++ (mAns M q).2))) := by rw [upd_same, ints_app]
          refine ⟨_, rfl, ?_⟩
          refine ⟨r.length, Nat.lt_succ_self _, q1 ++ [q], r, (mAns M q).1, p5, g5, v5, (told ++ [((mAns M q).2.length : Int)]) ++ (mAns M q).2, some (.int (((q1.flatMap flatOf).length + (flatOf q).length : Nat) : Int)), some (.ref l), ?_, rfl, ?_, Mc7, mok_ans hM hCq, g7, ol5, hc7, ?_, ?_⟩
          · rw [eq, List.append_assoc]
            rfl
          · have el : ((q1 ++ [q]).flatMap flatOf).length = (q1.flatMap flatOf).length + (flatOf q).length := by rw [List.flatMap_append, List.length_append]; simp
            rw [el]
          · rw [ep]
            show told ++ (((mAns M q).2.length : Int) :: ((mAns M q).2 ++ playM (mAns M q).1 r)) = _
            simp
          · rw [List.length_append, List.length_append, List.length_append]
            show told.length + 1 + (mAns M q).2.length ≤ 10 * (q1.length + 1)
            omega
      · have hb := of_decide_eq_false hb
        cases q2 with
        | nil =>
          refine hD _ _ ⟨⟨_, _, _, rfl⟩, ?_⟩
          rw [ep]
          show H3 lt = some (.lst (vInts (told ++ [])))
          rw [List.append_nil]
          exact hl3
        | cons q r =>
          exfalso
          apply hb
          rw [eq, List.flatMap_append, List.flatMap_cons, List.length_append, List.length_append]
          have := flat_pos q
          omega
    · rintro σ' H3 ⟨⟨s3, s4, s5, rfl⟩, hl3⟩
      exact ⟨_, rfl, k H3 lt hl3⟩
end
end Fs

set_option Elab.async false
set_option linter.all false
set_option maxRecDepth 100000
namespace Fs
open PySem PySem.Spec PyProof.Rows L2

theorem tup_few {xs : List V} {i : Array Value} (v : Vals xs i.toList) (h : xs.length ≤ 100) : i.size ≤ sizeLine := by
  have e : xs.length = i.size := by
    have e := v.length
    simpa using e
  rw [← e]
  exact Nat.le_trans h (by decide)
/-- the call, from what answers promises, at the heap behind the top -/
theorem spec_call {P : Program} {w : World} {K : PySem.W.Frag} {mg mb : Str → Option Value} {k : Nat} {fa a : Addr} {fd : FuncData} {x : Str} {sp : Sp} {s1 : Shared} {vs : List Value} {ns out : List Int}
    (KX : K.In s1.heap) (hns : s1.heap.Ns mainGlobals mg) (hb : s1.heap.Ns builtinsNs mb) (hbb : ∀ x : Str, x ≠ "__name__" → mb x = bootBuiltins x) (hlim : s1.heap.NoLimit) (hg : s1.gens = #[])
    (ha : s1.heap.get? a = some { cls := .type "list", data := .seq vs.toArray }) (hi : IntsAre vs ns) (hl : ns.length ≤ sizeLine) (hr : Room k callerA)
    (F : ∀ base : Heap, K.In base → base.Ns mainGlobals mg → FnOk P w K mg base CX0 k fa fd [x] sp) (hbind : ∀ (s : Shared) (u : Value), BindsTo s fd ⟨[u], []⟩ [(x, u)])
    (hsp : ∀ H : Hp, ((∃ o, H a = some (.frz o (.lst (vInts ns)))) ∨ ∀ H : Hp, SqL K H a (vInts ns)) → sp [.ref a] H (fun v H' => ∃ l, v = .ref l ∧ H' l = some (.lst (vInts out))) fun _ _ _ => False) :
    codeAny (model P w) callerA (.call (.ref fa) ⟨[.ref a], []⟩) (fun r s' => (∃ (l : Addr) (its : List Value) (n : Nat), r = .ok (.ret (.ref l)) ∧ s'.heap.get? l = some { cls := .type "list", data := .seq its.toArray n } ∧ Vals (vInts out) its) ∧ OldK s1.heap s'.heap ∧ s'.os = s1.os ∧ AllBare s'.gens) s1 := by
  have rv := vals_ints hi
  have lenV := hi.length
  have core : ∀ H : Hp, Only H → ((∃ o, H a = some (.frz o (.lst (vInts ns)))) ∨ ∀ H : Hp, SqL K H a (vInts ns)) → HOk P w H s1.heap → (∀ b, H b ≠ none → b = a) → (H a ≠ none → K.lookup a = none) →
      codeAny (model P w) callerA (.call (.ref fa) ⟨[.ref a], []⟩) (fun r s' => (∃ (l : Addr) (its : List Value) (n : Nat), r = .ok (.ret (.ref l)) ∧ s'.heap.get? l = some { cls := .type "list", data := .seq its.toArray n } ∧ Vals (vInts out) its) ∧ OldK s1.heap s'.heap ∧ s'.os = s1.os ∧ AllBare s'.gens) s1 := by
    intro H hO hS hok hA hK
    have base_of : ∀ {b : Addr} {o : Obj}, s1.heap.get? b = some o → H b = none → (hidT s1.heap H).get? b = some o := fun e n => hidT_get e n
    have noA : ∀ {b : Addr} {o : Obj} {es : Array DictEntry} {ep : Nat}, s1.heap.get? b = some o → o.data = .dict es ep → H b = none := fun {b o es ep} e d => by
      cases q : H b with
      | none => rfl
      | some u =>
        have e' : b = a := hA b (by rw [q]; simp)
        subst e'
        rw [ha] at e; cases e
        have d' : Data.seq vs.toArray _ = Data.dict es ep := d
        cases d'
    have nsK : ∀ {b : Addr} {m : Str → Option Value}, s1.heap.Ns b m → (hidT s1.heap H).Ns b m := fun {b m} ⟨o, es, ep, e, d, r⟩ => ⟨o, es, ep, base_of e (noA e d), d, r⟩
    have hKb : K.In (hidT s1.heap H) := fun b o e => base_of (KX b o e) (by
      cases q : H b with
      | none => rfl
      | some u =>
        have e' : b = a := hA b (by rw [q]; simp)
        subst e'
        rw [hK (by rw [q]; simp)] at e; cases e)
    have hM : Mod K mg (hidT s1.heap H) := ⟨hKb, nsK hns, ⟨mb, nsK hb, hbb⟩, let ⟨mc, h1, h2⟩ := hlim; ⟨mc, nsK h1, h2⟩⟩
    have e0 : Env0 P w K mg (hidT s1.heap H) callerA [] s1 H := ⟨rfl, hM, fun b o e => of_hidT e, Nat.le_of_eq (hidT_size _ _), trivial, fun b hb => absurd (show b ∈ ([] : List Addr) from hb) (by simp), hok, .of_eq hg⟩
    refine codeAny_mono ((F _ hKb (nsK hns)).run callerA [] s1 H ⟨[.ref a], []⟩ [.ref a] [.ref a] _ _ hr e0 (hbind s1 (.ref a)) (.cons rfl .nil) (hsp H hS)) fun r s' h => ?_
    cases r with
    | error e => exact False.elim h
    | ok fl =>
      cases fl with
      | next => exact False.elim h
      | brk => exact False.elim h
      | cont => exact False.elim h
      | ret u =>
        obtain ⟨v, H', os, bare, un, hok', r', l, rfl, hl'⟩ := h
        obtain rfl : u = Value.ref l := r'
        obtain ⟨_, its, n, rv', e'⟩ := hok' l _ hl'
        refine ⟨⟨l, its, n, rfl, e', rv'⟩, OldK.of_keep fun b o e => ?_, os, bare⟩
        cases q : H b with
        | none => exact un.keep b o e q (by intro z; exact absurd (show b ∈ ([] : List Addr) from z) (by simp)) (by simp)
        | some u =>
          rcases hO b with z | ⟨ob, xs, z⟩
          · rw [q] at z; cases z
          · have z2 := un.frzs b ob _ z
            obtain ⟨e1, _⟩ := hok b _ z
            obtain ⟨e2, _⟩ := hok' b _ z2
            rw [e] at e1; cases e1
            exact e2
  cases hk : K.lookup a with
  | some o =>
    have e := KX a o hk
    rw [ha] at e
    cases e
    refine core (fun _ => none) (fun _ => .inl rfl) (.inr fun _ => .inr ⟨_, vs.toArray, _, hk, rfl, rfl, rfl, by rw [List.size_toArray, lenV]; exact hl, (by have z : Vals (vInts ns) vs := rv; simpa using z)⟩) (fun b u z => by have z' : (none : Option HO) = some u := z; cases z') (fun b z => absurd rfl z) fun z => absurd rfl z
  | none =>
    refine core (fun b => if b = a then some (.frz { cls := .type "list", data := .seq vs.toArray } (.lst (ns.map V.int))) else none) (fun b => ?_) (.inl ⟨{ cls := .type "list", data := .seq vs.toArray }, if_pos rfl⟩) (fun b u z => ?_) (fun b z => ?_) fun _ => hk
    · by_cases hb : b = a
      · exact .inr ⟨_, _, if_pos hb⟩
      · exact .inl (if_neg hb)
    · by_cases hb : b = a
      · have z' := (if_pos hb).symm.trans z
        cases z'
        subst hb
        exact ⟨ha, by rw [List.length_map]; exact hl, vs, _, rv, ha⟩
      · have z' := (if_neg hb).symm.trans z
        cases z'
    · by_cases hb : b = a
      · exact hb
      · exact absurd (if_neg hb) z

theorem reads_ints {R : PySem.W.WRecords} {cl : Str → Option Addr} {h : Heap} : ∀ {ns : List Int} {its : List Value}, Vals (vInts ns) its → PySem.W.ReadsAllW R cl h its (ns.map PySem.W.WData.int) []
  | [], its, v => by
    cases v
    exact .nil
  | n :: r, its, v => by
    cases v with
    | cons v1 v2 =>
      obtain ⟨t, rfl⟩ := v1
      exact PySem.W.ReadsAllW.cons (.int n t) (reads_ints v2)

theorem walk_spec {q : Program} {loose : List Str} {XP : (Str → Option Value) → Heap → Prop} {YP : World → Heap → Prop} {d : DefRec} {K : Params → PySem.W.Frag} (hdf : d.params.defaults = [])
    (hY : ∀ (w : World) (h : Heap), YP w h → (K w.params).In h)
    (F : ∀ (w : World) (mg : Str → Option Value) (fa : Addr) (h : Heap), (K w.params).In h → h.Ns mainGlobals mg → mg d.name = some (.ref fa) →
      ∃ fd : FuncData, (∀ (s : Shared) (u : Value), BindsTo s fd ⟨[u], []⟩ [("calls", u)]) ∧ ∀ base : Heap, (K w.params).In base → base.Ns mainGlobals mg → FnOk PySem.Challenge.rw_fivestages_s01_answers.prog w (K w.params) mg base CX0 11 fa fd ["calls"] (sp_answers (K w.params))) :
    PySem.W.WalkOS q loose XP YP PySem.Challenge.rw_fivestages_s01_answers d [] (fun f vs => PySem.call f vs) := by
  intro w s0 s1 mg mb G Y fa o pm cd doc dV kV ho hd hcd hD hmg hg args vals as hpre hlay hrd hwl hlo
  have hsh : PySem.W.WShape.hasAll [] args [.list .int] = true := PySem.W.os_shapes _ hpre
  obtain ⟨d1, r1, rfl, h1, h2⟩ := PySem.W.hasAllW_cons hsh
  obtain rfl := PySem.W.hasAllW_nil h2
  obtain ⟨xs, rfl, h3⟩ := PySem.W.hasW_list h1
  obtain ⟨ns, rfl⟩ := PySem.W.items_int h3
  have hpre' : PySem.W.OpenSpec.pre PySem.Challenge.rw_fivestages_s01_answers [PySem.W.ofPy (PyData.list (ns.map PyData.int))] = true := by
    have e : PySem.W.ofPy (PyData.list (ns.map PyData.int)) = .list (ns.map .int) := by rw [← PySem.W.ofPys_ints]; simp [PySem.W.ofPy]
    rw [e]
    exact hpre
  obtain ⟨hdec, _, hmost, _⟩ := PySem.W.os_dec_ints (PySem.W.os_pre_isSome hpre')
  have hasked : PyMd23.answers_asked ns = true := PySem.W.os_pre_asked hpre' hdec
  obtain ⟨qs, hq, el, ea⟩ := answers_eq hasked
  have hobj : ∃ (a : Addr) (vs : List Value), vals = [Value.ref a] ∧ s1.heap.get? a = some { cls := .type "list", data := .seq vs.toArray } ∧ IntsAre vs ns := by
    cases hwl with
    | cons w1 w2 =>
      cases w2
      cases w1 with
      | list ho hall => exact ⟨_, _, rfl, ho, Att.ints_of_wellAll ns _ hall⟩
  obtain ⟨a, vs, rfl, hobj, hints⟩ := hobj
  have KX := hY w _ Y
  obtain ⟨fd, hb, hF⟩ := F w mg fa _ KX G.T.g hmg
  have hcall := spec_call (out := playM mm0 qs) KX G.T.g G.T.b G.T.builtins G.T.nolimit hg hobj hints (Nat.le_trans hmost (by decide)) (k := 11) ⟨rfl, by decide, by decide⟩ hF hb (fun H hS => ⟨a, qs, rfl, by rw [← el]; exact hS, hq, by rw [← el]; exact hmost, fun H' lt hlt => ⟨lt, rfl, hlt⟩⟩)
  refine PySem.W.enter_call (codeAny_mono hcall fun r s' hq' => ?_)
  obtain ⟨⟨l, its, n, rfl, e1, e2⟩, h5, h6, h7⟩ := hq'
  refine ⟨.inl ⟨.ref l, .list ((playM mm0 qs).map .int), _, rfl, fun _ => rfl, PySem.W.ReadsW.list e1 rfl rfl (by show PySem.W.ReadsAllW _ _ _ its.toArray.toList _ _; exact reads_ints e2), ?_, fun z => absurd z Bool.false_ne_true⟩, h5, h6, h7⟩
  refine PySem.W.osPost ?_
  have hdec' : PySem.W.Codec.decAll PySem.Challenge.rw_fivestages_s01_answers.args [.list (ns.map .int)] = some (ns, ()) := by
    have e : PySem.W.ofPy (PyData.list (ns.map PyData.int)) = .list (ns.map .int) := by rw [← PySem.W.ofPys_ints]; simp [PySem.W.ofPy]
    rw [← e]
    exact hdec
  refine PySem.W.os_post hdec' ?_
  have ef : PySem.Challenge.rw_fivestages_s01_answers.ret.enc (PySem.W.Codec.app PySem.Challenge.rw_fivestages_s01_answers.args PySem.Challenge.rw_fivestages_s01_answers.f (ns, ())) = .list ((PyMd23.answers ns).map .int) := rfl
  rw [ef, ea]
  exact PySem.W.same_self _
end Fs

set_option Elab.async false
set_option linter.all false
set_option maxRecDepth 100000
namespace Fs
open PySem PySem.Spec PyProof.Rows L2
set_option maxHeartbeats 0 in
theorem all_mk {Pr : Program} {w : World} {K : PySem.W.Frag} {h : Heap} {mg : Str → Option Value} {fa : Addr} (X : K.In h) (G : h.Ns mainGlobals mg) (hfa : mg "answers" = some (.ref fa))
    {COrder : Addr}
    {CPipeline : Addr}
    {CMachine : Addr}
    {f_with_sign : Addr} {od_with_sign an_with_sign : Option Addr} {sl_with_sign : Array (Option Value)} {oc_with_sign kV_with_sign dc_with_sign pm_with_sign cd_with_sign ct_with_sign : Value}
    {f_kind_of : Addr} {od_kind_of an_kind_of : Option Addr} {sl_kind_of : Array (Option Value)} {oc_kind_of kV_kind_of dc_kind_of pm_kind_of cd_kind_of ct_kind_of : Value}
    {f_number_of : Addr} {od_number_of an_number_of : Option Addr} {sl_number_of : Array (Option Value)} {oc_number_of kV_number_of dc_number_of pm_number_of cd_number_of ct_number_of : Value}
    {f_Order_init : Addr} {od_Order_init an_Order_init : Option Addr} {sl_Order_init : Array (Option Value)} {oc_Order_init kV_Order_init dc_Order_init pm_Order_init cd_Order_init ct_Order_init : Value}
    {f_needs : Addr} {od_needs an_needs : Option Addr} {sl_needs : Array (Option Value)} {oc_needs kV_needs dc_needs pm_needs cd_needs ct_needs : Value}
    {f_total : Addr} {od_total an_total : Option Addr} {sl_total : Array (Option Value)} {oc_total kV_total dc_total pm_total cd_total ct_total : Value}
    {f_difference : Addr} {od_difference an_difference : Option Addr} {sl_difference : Array (Option Value)} {oc_difference kV_difference dc_difference pm_difference cd_difference ct_difference : Value}
    {f_bits_of_both : Addr} {od_bits_of_both an_bits_of_both : Option Addr} {sl_bits_of_both : Array (Option Value)} {oc_bits_of_both kV_bits_of_both dc_bits_of_both pm_bits_of_both cd_bits_of_both ct_bits_of_both : Value}
    {f_bits_of_any : Addr} {od_bits_of_any an_bits_of_any : Option Addr} {sl_bits_of_any : Array (Option Value)} {oc_bits_of_any kV_bits_of_any dc_bits_of_any pm_bits_of_any cd_bits_of_any ct_bits_of_any : Value}
    {f_bits_of_one : Addr} {od_bits_of_one an_bits_of_one : Option Addr} {sl_bits_of_one : Array (Option Value)} {oc_bits_of_one kV_bits_of_one dc_bits_of_one pm_bits_of_one cd_bits_of_one ct_bits_of_one : Value}
    {f_is_less : Addr} {od_is_less an_is_less : Option Addr} {sl_is_less : Array (Option Value)} {oc_is_less kV_is_less dc_is_less pm_is_less cd_is_less ct_is_less : Value}
    {f_offset : Addr} {od_offset an_offset : Option Addr} {sl_offset : Array (Option Value)} {oc_offset kV_offset dc_offset pm_offset cd_offset ct_offset : Value}
    {f_goes_if_same : Addr} {od_goes_if_same an_goes_if_same : Option Addr} {sl_goes_if_same : Array (Option Value)} {oc_goes_if_same kV_goes_if_same dc_goes_if_same pm_goes_if_same cd_goes_if_same ct_goes_if_same : Value}
    {f_goes_if_other : Addr} {od_goes_if_other an_goes_if_other : Option Addr} {sl_goes_if_other : Array (Option Value)} {oc_goes_if_other kV_goes_if_other dc_goes_if_other pm_goes_if_other cd_goes_if_other ct_goes_if_other : Value}
    {f_way_back : Addr} {od_way_back an_way_back : Option Addr} {sl_way_back : Array (Option Value)} {oc_way_back kV_way_back dc_way_back pm_way_back cd_way_back ct_way_back : Value}
    {f_no_result : Addr} {od_no_result an_no_result : Option Addr} {sl_no_result : Array (Option Value)} {oc_no_result kV_no_result dc_no_result pm_no_result cd_no_result ct_no_result : Value}
    {f_result_of : Addr} {od_result_of an_result_of : Option Addr} {sl_result_of : Array (Option Value)} {oc_result_of kV_result_of dc_result_of pm_result_of cd_result_of ct_result_of : Value}
    {f_newest_value : Addr} {od_newest_value an_newest_value : Option Addr} {sl_newest_value : Array (Option Value)} {oc_newest_value kV_newest_value dc_newest_value pm_newest_value cd_newest_value ct_newest_value : Value}
    {f_Pipeline_init : Addr} {od_Pipeline_init an_Pipeline_init : Option Addr} {sl_Pipeline_init : Array (Option Value)} {oc_Pipeline_init kV_Pipeline_init dc_Pipeline_init pm_Pipeline_init cd_Pipeline_init ct_Pipeline_init : Value}
    {f_cycle : Addr} {od_cycle an_cycle : Option Addr} {sl_cycle : Array (Option Value)} {oc_cycle kV_cycle dc_cycle pm_cycle cd_cycle ct_cycle : Value}
    {f_write : Addr} {od_write an_write : Option Addr} {sl_write : Array (Option Value)} {oc_write kV_write dc_write pm_write cd_write ct_write : Value}
    {f_use_memory : Addr} {od_use_memory an_use_memory : Option Addr} {sl_use_memory : Array (Option Value)} {oc_use_memory kV_use_memory dc_use_memory pm_use_memory cd_use_memory ct_use_memory : Value}
    {f_reckon : Addr} {od_reckon an_reckon : Option Addr} {sl_reckon : Array (Option Value)} {oc_reckon kV_reckon dc_reckon pm_reckon cd_reckon ct_reckon : Value}
    {f_place_if_wrong : Addr} {od_place_if_wrong an_place_if_wrong : Option Addr} {sl_place_if_wrong : Array (Option Value)} {oc_place_if_wrong kV_place_if_wrong dc_place_if_wrong pm_place_if_wrong cd_place_if_wrong ct_place_if_wrong : Value}
    {f_learn : Addr} {od_learn an_learn : Option Addr} {sl_learn : Array (Option Value)} {oc_learn kV_learn dc_learn pm_learn cd_learn ct_learn : Value}
    {f_lose_guessed : Addr} {od_lose_guessed an_lose_guessed : Option Addr} {sl_lose_guessed : Array (Option Value)} {oc_lose_guessed kV_lose_guessed dc_lose_guessed pm_lose_guessed cd_lose_guessed ct_lose_guessed : Value}
    {f_has_to_wait : Addr} {od_has_to_wait an_has_to_wait : Option Addr} {sl_has_to_wait : Array (Option Value)} {oc_has_to_wait kV_has_to_wait dc_has_to_wait pm_has_to_wait cd_has_to_wait ct_has_to_wait : Value}
    {f_read_registers : Addr} {od_read_registers an_read_registers : Option Addr} {sl_read_registers : Array (Option Value)} {oc_read_registers kV_read_registers dc_read_registers pm_read_registers cd_read_registers ct_read_registers : Value}
    {f_fetch : Addr} {od_fetch an_fetch : Option Addr} {sl_fetch : Array (Option Value)} {oc_fetch kV_fetch dc_fetch pm_fetch cd_fetch ct_fetch : Value}
    {f_order_at : Addr} {od_order_at an_order_at : Option Addr} {sl_order_at : Array (Option Value)} {oc_order_at kV_order_at dc_order_at pm_order_at cd_order_at ct_order_at : Value}
    {f_is_guessed_to_go : Addr} {od_is_guessed_to_go an_is_guessed_to_go : Option Addr} {sl_is_guessed_to_go : Array (Option Value)} {oc_is_guessed_to_go kV_is_guessed_to_go dc_is_guessed_to_go pm_is_guessed_to_go cd_is_guessed_to_go ct_is_guessed_to_go : Value}
    {f_run : Addr} {od_run an_run : Option Addr} {sl_run : Array (Option Value)} {oc_run kV_run dc_run pm_run cd_run ct_run : Value}
    {f_run_to_state : Addr} {od_run_to_state an_run_to_state : Option Addr} {sl_run_to_state : Array (Option Value)} {oc_run_to_state kV_run_to_state dc_run_to_state pm_run_to_state cd_run_to_state ct_run_to_state : Value}
    {f_stages : Addr} {od_stages an_stages : Option Addr} {sl_stages : Array (Option Value)} {oc_stages kV_stages dc_stages pm_stages cd_stages ct_stages : Value}
    {f_state : Addr} {od_state an_state : Option Addr} {sl_state : Array (Option Value)} {oc_state kV_state dc_state pm_state cd_state ct_state : Value}
    {f_is_in_state : Addr} {od_is_in_state an_is_in_state : Option Addr} {sl_is_in_state : Array (Option Value)} {oc_is_in_state kV_is_in_state dc_is_in_state pm_is_in_state cd_is_in_state ct_is_in_state : Value}
    {f_counts : Addr} {od_counts an_counts : Option Addr} {sl_counts : Array (Option Value)} {oc_counts kV_counts dc_counts pm_counts cd_counts ct_counts : Value}
    {f_count_again : Addr} {od_count_again an_count_again : Option Addr} {sl_count_again : Array (Option Value)} {oc_count_again kV_count_again dc_count_again pm_count_again cd_count_again ct_count_again : Value}
    {f_shown_place : Addr} {od_shown_place an_shown_place : Option Addr} {sl_shown_place : Array (Option Value)} {oc_shown_place kV_shown_place dc_shown_place pm_shown_place cd_shown_place ct_shown_place : Value}
    {f_Machine_init : Addr} {od_Machine_init an_Machine_init : Option Addr} {sl_Machine_init : Array (Option Value)} {oc_Machine_init kV_Machine_init dc_Machine_init pm_Machine_init cd_Machine_init ct_Machine_init : Value}
    {f_load : Addr} {od_load an_load : Option Addr} {sl_load : Array (Option Value)} {oc_load kV_load dc_load pm_load cd_load ct_load : Value}
    {f_go : Addr} {od_go an_go : Option Addr} {sl_go : Array (Option Value)} {oc_go kV_go dc_go pm_go cd_go ct_go : Value}
    {f_has_ended : Addr} {od_has_ended an_has_ended : Option Addr} {sl_has_ended : Array (Option Value)} {oc_has_ended kV_has_ended dc_has_ended pm_has_ended cd_has_ended ct_has_ended : Value}
    {f_shows : Addr} {od_shows an_shows : Option Addr} {sl_shows : Array (Option Value)} {oc_shows kV_shows dc_shows pm_shows cd_shows ct_shows : Value}
    {f_reg : Addr} {od_reg an_reg : Option Addr} {sl_reg : Array (Option Value)} {oc_reg kV_reg dc_reg pm_reg cd_reg ct_reg : Value}
    {f_mem : Addr} {od_mem an_mem : Option Addr} {sl_mem : Array (Option Value)} {oc_mem kV_mem dc_mem pm_mem cd_mem ct_mem : Value}
    {f_end_of_call : Addr} {od_end_of_call an_end_of_call : Option Addr} {sl_end_of_call : Array (Option Value)} {oc_end_of_call kV_end_of_call dc_end_of_call pm_end_of_call cd_end_of_call ct_end_of_call : Value}
    {f_answer_of : Addr} {od_answer_of an_answer_of : Option Addr} {sl_answer_of : Array (Option Value)} {oc_answer_of kV_answer_of dc_answer_of pm_answer_of cd_answer_of ct_answer_of : Value}
    {f_answers : Addr} {od_answers an_answers : Option Addr} {sl_answers : Array (Option Value)} {oc_answers kV_answers dc_answers pm_answers cd_answers ct_answers : Value}
    {t_ALL_BITS : Tok}
    {t_SIGN_BIT : Tok}
    {t_LOAD : Tok}
    {t_STORE : Tok}
    {t_IF_SAME : Tok}
    {t_IF_OTHER : Tok}
    {t_JUMP : Tok}
    {t_END : Tok}
    {t_FIRST_STRETCH : Tok}
    {t_CALL_LOAD : Tok}
    {t_CALL_GO : Tok}
    {t_CALL_SHOWS : Tok}
    {t_CALL_REG : Tok}
    {t_MOST_ORDERS : Tok}
    {t_MOST_CYCLES_AT_ONCE : Tok}
    {t_MOST_CYCLES_IN_ALL : Tok}
    {r_WRITING_KINDS : Addr} {z_WRITING_KINDS : Option Addr} {i_WRITING_KINDS : Array Value} {x_WRITING_KINDS : Nat} {y_WRITING_KINDS : Array (Option Value)}
    {r_FIRST_READING_KINDS : Addr} {z_FIRST_READING_KINDS : Option Addr} {i_FIRST_READING_KINDS : Array Value} {x_FIRST_READING_KINDS : Nat} {y_FIRST_READING_KINDS : Array (Option Value)}
    {r_SECOND_READING_KINDS : Addr} {z_SECOND_READING_KINDS : Option Addr} {i_SECOND_READING_KINDS : Array Value} {x_SECOND_READING_KINDS : Nat} {y_SECOND_READING_KINDS : Array (Option Value)}
    {r_RESULTS : Addr} {z_RESULTS : Option Addr} {i_RESULTS : Array Value} {x_RESULTS : Nat} {y_RESULTS : Array (Option Value)}
    (aCOrder : PySem.W.nsIn K mainGlobals "Order" = some (some (.ref COrder)))
    (aCPipeline : PySem.W.nsIn K mainGlobals "Pipeline" = some (some (.ref CPipeline)))
    (aCMachine : PySem.W.nsIn K mainGlobals "Machine" = some (some (.ref CMachine)))
    (a_with_sign : PySem.W.nsIn K mainGlobals "with_sign" = some (some (.ref f_with_sign)))
    (l_with_sign : K.lookup f_with_sign = some ⟨oc_with_sign, od_with_sign, .func (PySem.W.fnOf "with_sign" "with_sign" (defArgs s_with_sign) (defBody s_with_sign) (defScope s_with_sign) .none kV_with_sign dc_with_sign pm_with_sign an_with_sign cd_with_sign ct_with_sign), sl_with_sign⟩)
    (c_with_sign : PySem.W.codeIn K cd_with_sign "with_sign" = true)
    (k_with_sign : PySem.W.keepIn K (.ref f_with_sign) = true)
    (a_kind_of : PySem.W.nsIn K mainGlobals "kind_of" = some (some (.ref f_kind_of)))
    (l_kind_of : K.lookup f_kind_of = some ⟨oc_kind_of, od_kind_of, .func (PySem.W.fnOf "kind_of" "kind_of" (defArgs s_kind_of) (defBody s_kind_of) (defScope s_kind_of) .none kV_kind_of dc_kind_of pm_kind_of an_kind_of cd_kind_of ct_kind_of), sl_kind_of⟩)
    (c_kind_of : PySem.W.codeIn K cd_kind_of "kind_of" = true)
    (k_kind_of : PySem.W.keepIn K (.ref f_kind_of) = true)
    (a_number_of : PySem.W.nsIn K mainGlobals "number_of" = some (some (.ref f_number_of)))
    (l_number_of : K.lookup f_number_of = some ⟨oc_number_of, od_number_of, .func (PySem.W.fnOf "number_of" "number_of" (defArgs s_number_of) (defBody s_number_of) (defScope s_number_of) .none kV_number_of dc_number_of pm_number_of an_number_of cd_number_of ct_number_of), sl_number_of⟩)
    (c_number_of : PySem.W.codeIn K cd_number_of "number_of" = true)
    (k_number_of : PySem.W.keepIn K (.ref f_number_of) = true)
    (a_Order_init : PySem.W.findIn K (.ref COrder) "__init__" = some (some (.ref f_Order_init)))
    (i_Order_init : PySem.W.isFn K (.ref f_Order_init) = true)
    (l_Order_init : K.lookup f_Order_init = some ⟨oc_Order_init, od_Order_init, .func (PySem.W.fnOf "__init__" "Order.__init__" (defArgs s_Order_init) (defBody s_Order_init) (defScope s_Order_init) .none kV_Order_init dc_Order_init pm_Order_init an_Order_init cd_Order_init ct_Order_init), sl_Order_init⟩)
    (c_Order_init : PySem.W.codeIn K cd_Order_init "Order.__init__" = true)
    (k_Order_init : PySem.W.keepIn K (.ref f_Order_init) = true)
    (a_needs : PySem.W.findIn K (.ref COrder) "needs" = some (some (.ref f_needs)))
    (i_needs : PySem.W.isFn K (.ref f_needs) = true)
    (l_needs : K.lookup f_needs = some ⟨oc_needs, od_needs, .func (PySem.W.fnOf "needs" "Order.needs" (defArgs s_needs) (defBody s_needs) (defScope s_needs) .none kV_needs dc_needs pm_needs an_needs cd_needs ct_needs), sl_needs⟩)
    (c_needs : PySem.W.codeIn K cd_needs "Order.needs" = true)
    (k_needs : PySem.W.keepIn K (.ref f_needs) = true)
    (a_total : PySem.W.nsIn K mainGlobals "total" = some (some (.ref f_total)))
    (l_total : K.lookup f_total = some ⟨oc_total, od_total, .func (PySem.W.fnOf "total" "total" (defArgs s_total) (defBody s_total) (defScope s_total) .none kV_total dc_total pm_total an_total cd_total ct_total), sl_total⟩)
    (c_total : PySem.W.codeIn K cd_total "total" = true)
    (k_total : PySem.W.keepIn K (.ref f_total) = true)
    (a_difference : PySem.W.nsIn K mainGlobals "difference" = some (some (.ref f_difference)))
    (l_difference : K.lookup f_difference = some ⟨oc_difference, od_difference, .func (PySem.W.fnOf "difference" "difference" (defArgs s_difference) (defBody s_difference) (defScope s_difference) .none kV_difference dc_difference pm_difference an_difference cd_difference ct_difference), sl_difference⟩)
    (c_difference : PySem.W.codeIn K cd_difference "difference" = true)
    (k_difference : PySem.W.keepIn K (.ref f_difference) = true)
    (a_bits_of_both : PySem.W.nsIn K mainGlobals "bits_of_both" = some (some (.ref f_bits_of_both)))
    (l_bits_of_both : K.lookup f_bits_of_both = some ⟨oc_bits_of_both, od_bits_of_both, .func (PySem.W.fnOf "bits_of_both" "bits_of_both" (defArgs s_bits_of_both) (defBody s_bits_of_both) (defScope s_bits_of_both) .none kV_bits_of_both dc_bits_of_both pm_bits_of_both an_bits_of_both cd_bits_of_both ct_bits_of_both), sl_bits_of_both⟩)
    (c_bits_of_both : PySem.W.codeIn K cd_bits_of_both "bits_of_both" = true)
    (k_bits_of_both : PySem.W.keepIn K (.ref f_bits_of_both) = true)
    (a_bits_of_any : PySem.W.nsIn K mainGlobals "bits_of_any" = some (some (.ref f_bits_of_any)))
    (l_bits_of_any : K.lookup f_bits_of_any = some ⟨oc_bits_of_any, od_bits_of_any, .func (PySem.W.fnOf "bits_of_any" "bits_of_any" (defArgs s_bits_of_any) (defBody s_bits_of_any) (defScope s_bits_of_any) .none kV_bits_of_any dc_bits_of_any pm_bits_of_any an_bits_of_any cd_bits_of_any ct_bits_of_any), sl_bits_of_any⟩)
    (c_bits_of_any : PySem.W.codeIn K cd_bits_of_any "bits_of_any" = true)
    (k_bits_of_any : PySem.W.keepIn K (.ref f_bits_of_any) = true)
    (a_bits_of_one : PySem.W.nsIn K mainGlobals "bits_of_one" = some (some (.ref f_bits_of_one)))
    (l_bits_of_one : K.lookup f_bits_of_one = some ⟨oc_bits_of_one, od_bits_of_one, .func (PySem.W.fnOf "bits_of_one" "bits_of_one" (defArgs s_bits_of_one) (defBody s_bits_of_one) (defScope s_bits_of_one) .none kV_bits_of_one dc_bits_of_one pm_bits_of_one an_bits_of_one cd_bits_of_one ct_bits_of_one), sl_bits_of_one⟩)
    (c_bits_of_one : PySem.W.codeIn K cd_bits_of_one "bits_of_one" = true)
    (k_bits_of_one : PySem.W.keepIn K (.ref f_bits_of_one) = true)
    (a_is_less : PySem.W.nsIn K mainGlobals "is_less" = some (some (.ref f_is_less)))
    (l_is_less : K.lookup f_is_less = some ⟨oc_is_less, od_is_less, .func (PySem.W.fnOf "is_less" "is_less" (defArgs s_is_less) (defBody s_is_less) (defScope s_is_less) .none kV_is_less dc_is_less pm_is_less an_is_less cd_is_less ct_is_less), sl_is_less⟩)
    (c_is_less : PySem.W.codeIn K cd_is_less "is_less" = true)
    (k_is_less : PySem.W.keepIn K (.ref f_is_less) = true)
    (a_offset : PySem.W.nsIn K mainGlobals "offset" = some (some (.ref f_offset)))
    (l_offset : K.lookup f_offset = some ⟨oc_offset, od_offset, .func (PySem.W.fnOf "offset" "offset" (defArgs s_offset) (defBody s_offset) (defScope s_offset) .none kV_offset dc_offset pm_offset an_offset cd_offset ct_offset), sl_offset⟩)
    (c_offset : PySem.W.codeIn K cd_offset "offset" = true)
    (k_offset : PySem.W.keepIn K (.ref f_offset) = true)
    (a_goes_if_same : PySem.W.nsIn K mainGlobals "goes_if_same" = some (some (.ref f_goes_if_same)))
    (l_goes_if_same : K.lookup f_goes_if_same = some ⟨oc_goes_if_same, od_goes_if_same, .func (PySem.W.fnOf "goes_if_same" "goes_if_same" (defArgs s_goes_if_same) (defBody s_goes_if_same) (defScope s_goes_if_same) .none kV_goes_if_same dc_goes_if_same pm_goes_if_same an_goes_if_same cd_goes_if_same ct_goes_if_same), sl_goes_if_same⟩)
    (c_goes_if_same : PySem.W.codeIn K cd_goes_if_same "goes_if_same" = true)
    (k_goes_if_same : PySem.W.keepIn K (.ref f_goes_if_same) = true)
    (a_goes_if_other : PySem.W.nsIn K mainGlobals "goes_if_other" = some (some (.ref f_goes_if_other)))
    (l_goes_if_other : K.lookup f_goes_if_other = some ⟨oc_goes_if_other, od_goes_if_other, .func (PySem.W.fnOf "goes_if_other" "goes_if_other" (defArgs s_goes_if_other) (defBody s_goes_if_other) (defScope s_goes_if_other) .none kV_goes_if_other dc_goes_if_other pm_goes_if_other an_goes_if_other cd_goes_if_other ct_goes_if_other), sl_goes_if_other⟩)
    (c_goes_if_other : PySem.W.codeIn K cd_goes_if_other "goes_if_other" = true)
    (k_goes_if_other : PySem.W.keepIn K (.ref f_goes_if_other) = true)
    (a_way_back : PySem.W.nsIn K mainGlobals "way_back" = some (some (.ref f_way_back)))
    (l_way_back : K.lookup f_way_back = some ⟨oc_way_back, od_way_back, .func (PySem.W.fnOf "way_back" "way_back" (defArgs s_way_back) (defBody s_way_back) (defScope s_way_back) .none kV_way_back dc_way_back pm_way_back an_way_back cd_way_back ct_way_back), sl_way_back⟩)
    (c_way_back : PySem.W.codeIn K cd_way_back "way_back" = true)
    (k_way_back : PySem.W.keepIn K (.ref f_way_back) = true)
    (a_no_result : PySem.W.nsIn K mainGlobals "no_result" = some (some (.ref f_no_result)))
    (l_no_result : K.lookup f_no_result = some ⟨oc_no_result, od_no_result, .func (PySem.W.fnOf "no_result" "no_result" (defArgs s_no_result) (defBody s_no_result) (defScope s_no_result) .none kV_no_result dc_no_result pm_no_result an_no_result cd_no_result ct_no_result), sl_no_result⟩)
    (c_no_result : PySem.W.codeIn K cd_no_result "no_result" = true)
    (k_no_result : PySem.W.keepIn K (.ref f_no_result) = true)
    (a_result_of : PySem.W.nsIn K mainGlobals "result_of" = some (some (.ref f_result_of)))
    (l_result_of : K.lookup f_result_of = some ⟨oc_result_of, od_result_of, .func (PySem.W.fnOf "result_of" "result_of" (defArgs s_result_of) (defBody s_result_of) (defScope s_result_of) .none kV_result_of dc_result_of pm_result_of an_result_of cd_result_of ct_result_of), sl_result_of⟩)
    (c_result_of : PySem.W.codeIn K cd_result_of "result_of" = true)
    (k_result_of : PySem.W.keepIn K (.ref f_result_of) = true)
    (a_newest_value : PySem.W.nsIn K mainGlobals "newest_value" = some (some (.ref f_newest_value)))
    (l_newest_value : K.lookup f_newest_value = some ⟨oc_newest_value, od_newest_value, .func (PySem.W.fnOf "newest_value" "newest_value" (defArgs s_newest_value) (defBody s_newest_value) (defScope s_newest_value) .none kV_newest_value dc_newest_value pm_newest_value an_newest_value cd_newest_value ct_newest_value), sl_newest_value⟩)
    (c_newest_value : PySem.W.codeIn K cd_newest_value "newest_value" = true)
    (k_newest_value : PySem.W.keepIn K (.ref f_newest_value) = true)
    (a_Pipeline_init : PySem.W.findIn K (.ref CPipeline) "__init__" = some (some (.ref f_Pipeline_init)))
    (i_Pipeline_init : PySem.W.isFn K (.ref f_Pipeline_init) = true)
    (l_Pipeline_init : K.lookup f_Pipeline_init = some ⟨oc_Pipeline_init, od_Pipeline_init, .func (PySem.W.fnOf "__init__" "Pipeline.__init__" (defArgs s_Pipeline_init) (defBody s_Pipeline_init) (defScope s_Pipeline_init) .none kV_Pipeline_init dc_Pipeline_init pm_Pipeline_init an_Pipeline_init cd_Pipeline_init ct_Pipeline_init), sl_Pipeline_init⟩)
    (c_Pipeline_init : PySem.W.codeIn K cd_Pipeline_init "Pipeline.__init__" = true)
    (k_Pipeline_init : PySem.W.keepIn K (.ref f_Pipeline_init) = true)
    (a_cycle : PySem.W.findIn K (.ref CPipeline) "cycle" = some (some (.ref f_cycle)))
    (i_cycle : PySem.W.isFn K (.ref f_cycle) = true)
    (l_cycle : K.lookup f_cycle = some ⟨oc_cycle, od_cycle, .func (PySem.W.fnOf "cycle" "Pipeline.cycle" (defArgs s_cycle) (defBody s_cycle) (defScope s_cycle) .none kV_cycle dc_cycle pm_cycle an_cycle cd_cycle ct_cycle), sl_cycle⟩)
    (c_cycle : PySem.W.codeIn K cd_cycle "Pipeline.cycle" = true)
    (k_cycle : PySem.W.keepIn K (.ref f_cycle) = true)
    (a_write : PySem.W.findIn K (.ref CPipeline) "write" = some (some (.ref f_write)))
    (i_write : PySem.W.isFn K (.ref f_write) = true)
    (l_write : K.lookup f_write = some ⟨oc_write, od_write, .func (PySem.W.fnOf "write" "Pipeline.write" (defArgs s_write) (defBody s_write) (defScope s_write) .none kV_write dc_write pm_write an_write cd_write ct_write), sl_write⟩)
    (c_write : PySem.W.codeIn K cd_write "Pipeline.write" = true)
    (k_write : PySem.W.keepIn K (.ref f_write) = true)
    (a_use_memory : PySem.W.findIn K (.ref CPipeline) "use_memory" = some (some (.ref f_use_memory)))
    (i_use_memory : PySem.W.isFn K (.ref f_use_memory) = true)
    (l_use_memory : K.lookup f_use_memory = some ⟨oc_use_memory, od_use_memory, .func (PySem.W.fnOf "use_memory" "Pipeline.use_memory" (defArgs s_use_memory) (defBody s_use_memory) (defScope s_use_memory) .none kV_use_memory dc_use_memory pm_use_memory an_use_memory cd_use_memory ct_use_memory), sl_use_memory⟩)
    (c_use_memory : PySem.W.codeIn K cd_use_memory "Pipeline.use_memory" = true)
    (k_use_memory : PySem.W.keepIn K (.ref f_use_memory) = true)
    (a_reckon : PySem.W.findIn K (.ref CPipeline) "reckon" = some (some (.ref f_reckon)))
    (i_reckon : PySem.W.isFn K (.ref f_reckon) = true)
    (l_reckon : K.lookup f_reckon = some ⟨oc_reckon, od_reckon, .func (PySem.W.fnOf "reckon" "Pipeline.reckon" (defArgs s_reckon) (defBody s_reckon) (defScope s_reckon) .none kV_reckon dc_reckon pm_reckon an_reckon cd_reckon ct_reckon), sl_reckon⟩)
    (c_reckon : PySem.W.codeIn K cd_reckon "Pipeline.reckon" = true)
    (k_reckon : PySem.W.keepIn K (.ref f_reckon) = true)
    (a_place_if_wrong : PySem.W.findIn K (.ref CPipeline) "place_if_wrong" = some (some (.ref f_place_if_wrong)))
    (i_place_if_wrong : PySem.W.isFn K (.ref f_place_if_wrong) = true)
    (l_place_if_wrong : K.lookup f_place_if_wrong = some ⟨oc_place_if_wrong, od_place_if_wrong, .func (PySem.W.fnOf "place_if_wrong" "Pipeline.place_if_wrong" (defArgs s_place_if_wrong) (defBody s_place_if_wrong) (defScope s_place_if_wrong) .none kV_place_if_wrong dc_place_if_wrong pm_place_if_wrong an_place_if_wrong cd_place_if_wrong ct_place_if_wrong), sl_place_if_wrong⟩)
    (c_place_if_wrong : PySem.W.codeIn K cd_place_if_wrong "Pipeline.place_if_wrong" = true)
    (k_place_if_wrong : PySem.W.keepIn K (.ref f_place_if_wrong) = true)
    (a_learn : PySem.W.findIn K (.ref CPipeline) "learn" = some (some (.ref f_learn)))
    (i_learn : PySem.W.isFn K (.ref f_learn) = true)
    (l_learn : K.lookup f_learn = some ⟨oc_learn, od_learn, .func (PySem.W.fnOf "learn" "Pipeline.learn" (defArgs s_learn) (defBody s_learn) (defScope s_learn) .none kV_learn dc_learn pm_learn an_learn cd_learn ct_learn), sl_learn⟩)
    (c_learn : PySem.W.codeIn K cd_learn "Pipeline.learn" = true)
    (k_learn : PySem.W.keepIn K (.ref f_learn) = true)
    (a_lose_guessed : PySem.W.findIn K (.ref CPipeline) "lose_guessed" = some (some (.ref f_lose_guessed)))
    (i_lose_guessed : PySem.W.isFn K (.ref f_lose_guessed) = true)
    (l_lose_guessed : K.lookup f_lose_guessed = some ⟨oc_lose_guessed, od_lose_guessed, .func (PySem.W.fnOf "lose_guessed" "Pipeline.lose_guessed" (defArgs s_lose_guessed) (defBody s_lose_guessed) (defScope s_lose_guessed) .none kV_lose_guessed dc_lose_guessed pm_lose_guessed an_lose_guessed cd_lose_guessed ct_lose_guessed), sl_lose_guessed⟩)
    (c_lose_guessed : PySem.W.codeIn K cd_lose_guessed "Pipeline.lose_guessed" = true)
    (k_lose_guessed : PySem.W.keepIn K (.ref f_lose_guessed) = true)
    (a_has_to_wait : PySem.W.findIn K (.ref CPipeline) "has_to_wait" = some (some (.ref f_has_to_wait)))
    (i_has_to_wait : PySem.W.isFn K (.ref f_has_to_wait) = true)
    (l_has_to_wait : K.lookup f_has_to_wait = some ⟨oc_has_to_wait, od_has_to_wait, .func (PySem.W.fnOf "has_to_wait" "Pipeline.has_to_wait" (defArgs s_has_to_wait) (defBody s_has_to_wait) (defScope s_has_to_wait) .none kV_has_to_wait dc_has_to_wait pm_has_to_wait an_has_to_wait cd_has_to_wait ct_has_to_wait), sl_has_to_wait⟩)
    (c_has_to_wait : PySem.W.codeIn K cd_has_to_wait "Pipeline.has_to_wait" = true)
    (k_has_to_wait : PySem.W.keepIn K (.ref f_has_to_wait) = true)
    (a_read_registers : PySem.W.findIn K (.ref CPipeline) "read_registers" = some (some (.ref f_read_registers)))
    (i_read_registers : PySem.W.isFn K (.ref f_read_registers) = true)
    (l_read_registers : K.lookup f_read_registers = some ⟨oc_read_registers, od_read_registers, .func (PySem.W.fnOf "read_registers" "Pipeline.read_registers" (defArgs s_read_registers) (defBody s_read_registers) (defScope s_read_registers) .none kV_read_registers dc_read_registers pm_read_registers an_read_registers cd_read_registers ct_read_registers), sl_read_registers⟩)
    (c_read_registers : PySem.W.codeIn K cd_read_registers "Pipeline.read_registers" = true)
    (k_read_registers : PySem.W.keepIn K (.ref f_read_registers) = true)
    (a_fetch : PySem.W.findIn K (.ref CPipeline) "fetch" = some (some (.ref f_fetch)))
    (i_fetch : PySem.W.isFn K (.ref f_fetch) = true)
    (l_fetch : K.lookup f_fetch = some ⟨oc_fetch, od_fetch, .func (PySem.W.fnOf "fetch" "Pipeline.fetch" (defArgs s_fetch) (defBody s_fetch) (defScope s_fetch) .none kV_fetch dc_fetch pm_fetch an_fetch cd_fetch ct_fetch), sl_fetch⟩)
    (c_fetch : PySem.W.codeIn K cd_fetch "Pipeline.fetch" = true)
    (k_fetch : PySem.W.keepIn K (.ref f_fetch) = true)
    (a_order_at : PySem.W.findIn K (.ref CPipeline) "order_at" = some (some (.ref f_order_at)))
    (i_order_at : PySem.W.isFn K (.ref f_order_at) = true)
    (l_order_at : K.lookup f_order_at = some ⟨oc_order_at, od_order_at, .func (PySem.W.fnOf "order_at" "Pipeline.order_at" (defArgs s_order_at) (defBody s_order_at) (defScope s_order_at) .none kV_order_at dc_order_at pm_order_at an_order_at cd_order_at ct_order_at), sl_order_at⟩)
    (c_order_at : PySem.W.codeIn K cd_order_at "Pipeline.order_at" = true)
    (k_order_at : PySem.W.keepIn K (.ref f_order_at) = true)
    (a_is_guessed_to_go : PySem.W.findIn K (.ref CPipeline) "is_guessed_to_go" = some (some (.ref f_is_guessed_to_go)))
    (i_is_guessed_to_go : PySem.W.isFn K (.ref f_is_guessed_to_go) = true)
    (l_is_guessed_to_go : K.lookup f_is_guessed_to_go = some ⟨oc_is_guessed_to_go, od_is_guessed_to_go, .func (PySem.W.fnOf "is_guessed_to_go" "Pipeline.is_guessed_to_go" (defArgs s_is_guessed_to_go) (defBody s_is_guessed_to_go) (defScope s_is_guessed_to_go) .none kV_is_guessed_to_go dc_is_guessed_to_go pm_is_guessed_to_go an_is_guessed_to_go cd_is_guessed_to_go ct_is_guessed_to_go), sl_is_guessed_to_go⟩)
    (c_is_guessed_to_go : PySem.W.codeIn K cd_is_guessed_to_go "Pipeline.is_guessed_to_go" = true)
    (k_is_guessed_to_go : PySem.W.keepIn K (.ref f_is_guessed_to_go) = true)
    (a_run : PySem.W.findIn K (.ref CPipeline) "run" = some (some (.ref f_run)))
    (i_run : PySem.W.isFn K (.ref f_run) = true)
    (l_run : K.lookup f_run = some ⟨oc_run, od_run, .func (PySem.W.fnOf "run" "Pipeline.run" (defArgs s_run) (defBody s_run) (defScope s_run) .none kV_run dc_run pm_run an_run cd_run ct_run), sl_run⟩)
    (c_run : PySem.W.codeIn K cd_run "Pipeline.run" = true)
    (k_run : PySem.W.keepIn K (.ref f_run) = true)
    (a_run_to_state : PySem.W.findIn K (.ref CPipeline) "run_to_state" = some (some (.ref f_run_to_state)))
    (i_run_to_state : PySem.W.isFn K (.ref f_run_to_state) = true)
    (l_run_to_state : K.lookup f_run_to_state = some ⟨oc_run_to_state, od_run_to_state, .func (PySem.W.fnOf "run_to_state" "Pipeline.run_to_state" (defArgs s_run_to_state) (defBody s_run_to_state) (defScope s_run_to_state) .none kV_run_to_state dc_run_to_state pm_run_to_state an_run_to_state cd_run_to_state ct_run_to_state), sl_run_to_state⟩)
    (c_run_to_state : PySem.W.codeIn K cd_run_to_state "Pipeline.run_to_state" = true)
    (k_run_to_state : PySem.W.keepIn K (.ref f_run_to_state) = true)
    (a_stages : PySem.W.findIn K (.ref CPipeline) "stages" = some (some (.ref f_stages)))
    (i_stages : PySem.W.isFn K (.ref f_stages) = true)
    (l_stages : K.lookup f_stages = some ⟨oc_stages, od_stages, .func (PySem.W.fnOf "stages" "Pipeline.stages" (defArgs s_stages) (defBody s_stages) (defScope s_stages) .none kV_stages dc_stages pm_stages an_stages cd_stages ct_stages), sl_stages⟩)
    (c_stages : PySem.W.codeIn K cd_stages "Pipeline.stages" = true)
    (k_stages : PySem.W.keepIn K (.ref f_stages) = true)
    (a_state : PySem.W.findIn K (.ref CPipeline) "state" = some (some (.ref f_state)))
    (i_state : PySem.W.isFn K (.ref f_state) = true)
    (l_state : K.lookup f_state = some ⟨oc_state, od_state, .func (PySem.W.fnOf "state" "Pipeline.state" (defArgs s_state) (defBody s_state) (defScope s_state) .none kV_state dc_state pm_state an_state cd_state ct_state), sl_state⟩)
    (c_state : PySem.W.codeIn K cd_state "Pipeline.state" = true)
    (k_state : PySem.W.keepIn K (.ref f_state) = true)
    (a_is_in_state : PySem.W.findIn K (.ref CPipeline) "is_in_state" = some (some (.ref f_is_in_state)))
    (i_is_in_state : PySem.W.isFn K (.ref f_is_in_state) = true)
    (l_is_in_state : K.lookup f_is_in_state = some ⟨oc_is_in_state, od_is_in_state, .func (PySem.W.fnOf "is_in_state" "Pipeline.is_in_state" (defArgs s_is_in_state) (defBody s_is_in_state) (defScope s_is_in_state) .none kV_is_in_state dc_is_in_state pm_is_in_state an_is_in_state cd_is_in_state ct_is_in_state), sl_is_in_state⟩)
    (c_is_in_state : PySem.W.codeIn K cd_is_in_state "Pipeline.is_in_state" = true)
    (k_is_in_state : PySem.W.keepIn K (.ref f_is_in_state) = true)
    (a_counts : PySem.W.findIn K (.ref CPipeline) "counts" = some (some (.ref f_counts)))
    (i_counts : PySem.W.isFn K (.ref f_counts) = true)
    (l_counts : K.lookup f_counts = some ⟨oc_counts, od_counts, .func (PySem.W.fnOf "counts" "Pipeline.counts" (defArgs s_counts) (defBody s_counts) (defScope s_counts) .none kV_counts dc_counts pm_counts an_counts cd_counts ct_counts), sl_counts⟩)
    (c_counts : PySem.W.codeIn K cd_counts "Pipeline.counts" = true)
    (k_counts : PySem.W.keepIn K (.ref f_counts) = true)
    (a_count_again : PySem.W.findIn K (.ref CPipeline) "count_again" = some (some (.ref f_count_again)))
    (i_count_again : PySem.W.isFn K (.ref f_count_again) = true)
    (l_count_again : K.lookup f_count_again = some ⟨oc_count_again, od_count_again, .func (PySem.W.fnOf "count_again" "Pipeline.count_again" (defArgs s_count_again) (defBody s_count_again) (defScope s_count_again) .none kV_count_again dc_count_again pm_count_again an_count_again cd_count_again ct_count_again), sl_count_again⟩)
    (c_count_again : PySem.W.codeIn K cd_count_again "Pipeline.count_again" = true)
    (k_count_again : PySem.W.keepIn K (.ref f_count_again) = true)
    (a_shown_place : PySem.W.nsIn K mainGlobals "shown_place" = some (some (.ref f_shown_place)))
    (l_shown_place : K.lookup f_shown_place = some ⟨oc_shown_place, od_shown_place, .func (PySem.W.fnOf "shown_place" "shown_place" (defArgs s_shown_place) (defBody s_shown_place) (defScope s_shown_place) .none kV_shown_place dc_shown_place pm_shown_place an_shown_place cd_shown_place ct_shown_place), sl_shown_place⟩)
    (c_shown_place : PySem.W.codeIn K cd_shown_place "shown_place" = true)
    (k_shown_place : PySem.W.keepIn K (.ref f_shown_place) = true)
    (a_Machine_init : PySem.W.findIn K (.ref CMachine) "__init__" = some (some (.ref f_Machine_init)))
    (i_Machine_init : PySem.W.isFn K (.ref f_Machine_init) = true)
    (l_Machine_init : K.lookup f_Machine_init = some ⟨oc_Machine_init, od_Machine_init, .func (PySem.W.fnOf "__init__" "Machine.__init__" (defArgs s_Machine_init) (defBody s_Machine_init) (defScope s_Machine_init) .none kV_Machine_init dc_Machine_init pm_Machine_init an_Machine_init cd_Machine_init ct_Machine_init), sl_Machine_init⟩)
    (c_Machine_init : PySem.W.codeIn K cd_Machine_init "Machine.__init__" = true)
    (k_Machine_init : PySem.W.keepIn K (.ref f_Machine_init) = true)
    (a_load : PySem.W.findIn K (.ref CMachine) "load" = some (some (.ref f_load)))
    (i_load : PySem.W.isFn K (.ref f_load) = true)
    (l_load : K.lookup f_load = some ⟨oc_load, od_load, .func (PySem.W.fnOf "load" "Machine.load" (defArgs s_load) (defBody s_load) (defScope s_load) .none kV_load dc_load pm_load an_load cd_load ct_load), sl_load⟩)
    (c_load : PySem.W.codeIn K cd_load "Machine.load" = true)
    (k_load : PySem.W.keepIn K (.ref f_load) = true)
    (a_go : PySem.W.findIn K (.ref CMachine) "go" = some (some (.ref f_go)))
    (i_go : PySem.W.isFn K (.ref f_go) = true)
    (l_go : K.lookup f_go = some ⟨oc_go, od_go, .func (PySem.W.fnOf "go" "Machine.go" (defArgs s_go) (defBody s_go) (defScope s_go) .none kV_go dc_go pm_go an_go cd_go ct_go), sl_go⟩)
    (c_go : PySem.W.codeIn K cd_go "Machine.go" = true)
    (k_go : PySem.W.keepIn K (.ref f_go) = true)
    (a_has_ended : PySem.W.findIn K (.ref CMachine) "has_ended" = some (some (.ref f_has_ended)))
    (i_has_ended : PySem.W.isFn K (.ref f_has_ended) = true)
    (l_has_ended : K.lookup f_has_ended = some ⟨oc_has_ended, od_has_ended, .func (PySem.W.fnOf "has_ended" "Machine.has_ended" (defArgs s_has_ended) (defBody s_has_ended) (defScope s_has_ended) .none kV_has_ended dc_has_ended pm_has_ended an_has_ended cd_has_ended ct_has_ended), sl_has_ended⟩)
    (c_has_ended : PySem.W.codeIn K cd_has_ended "Machine.has_ended" = true)
    (k_has_ended : PySem.W.keepIn K (.ref f_has_ended) = true)
    (a_shows : PySem.W.findIn K (.ref CMachine) "shows" = some (some (.ref f_shows)))
    (i_shows : PySem.W.isFn K (.ref f_shows) = true)
    (l_shows : K.lookup f_shows = some ⟨oc_shows, od_shows, .func (PySem.W.fnOf "shows" "Machine.shows" (defArgs s_shows) (defBody s_shows) (defScope s_shows) .none kV_shows dc_shows pm_shows an_shows cd_shows ct_shows), sl_shows⟩)
    (c_shows : PySem.W.codeIn K cd_shows "Machine.shows" = true)
    (k_shows : PySem.W.keepIn K (.ref f_shows) = true)
    (a_reg : PySem.W.findIn K (.ref CMachine) "reg" = some (some (.ref f_reg)))
    (i_reg : PySem.W.isFn K (.ref f_reg) = true)
    (l_reg : K.lookup f_reg = some ⟨oc_reg, od_reg, .func (PySem.W.fnOf "reg" "Machine.reg" (defArgs s_reg) (defBody s_reg) (defScope s_reg) .none kV_reg dc_reg pm_reg an_reg cd_reg ct_reg), sl_reg⟩)
    (c_reg : PySem.W.codeIn K cd_reg "Machine.reg" = true)
    (k_reg : PySem.W.keepIn K (.ref f_reg) = true)
    (a_mem : PySem.W.findIn K (.ref CMachine) "mem" = some (some (.ref f_mem)))
    (i_mem : PySem.W.isFn K (.ref f_mem) = true)
    (l_mem : K.lookup f_mem = some ⟨oc_mem, od_mem, .func (PySem.W.fnOf "mem" "Machine.mem" (defArgs s_mem) (defBody s_mem) (defScope s_mem) .none kV_mem dc_mem pm_mem an_mem cd_mem ct_mem), sl_mem⟩)
    (c_mem : PySem.W.codeIn K cd_mem "Machine.mem" = true)
    (k_mem : PySem.W.keepIn K (.ref f_mem) = true)
    (a_end_of_call : PySem.W.nsIn K mainGlobals "end_of_call" = some (some (.ref f_end_of_call)))
    (l_end_of_call : K.lookup f_end_of_call = some ⟨oc_end_of_call, od_end_of_call, .func (PySem.W.fnOf "end_of_call" "end_of_call" (defArgs s_end_of_call) (defBody s_end_of_call) (defScope s_end_of_call) .none kV_end_of_call dc_end_of_call pm_end_of_call an_end_of_call cd_end_of_call ct_end_of_call), sl_end_of_call⟩)
    (c_end_of_call : PySem.W.codeIn K cd_end_of_call "end_of_call" = true)
    (k_end_of_call : PySem.W.keepIn K (.ref f_end_of_call) = true)
    (a_answer_of : PySem.W.nsIn K mainGlobals "answer_of" = some (some (.ref f_answer_of)))
    (l_answer_of : K.lookup f_answer_of = some ⟨oc_answer_of, od_answer_of, .func (PySem.W.fnOf "answer_of" "answer_of" (defArgs s_answer_of) (defBody s_answer_of) (defScope s_answer_of) .none kV_answer_of dc_answer_of pm_answer_of an_answer_of cd_answer_of ct_answer_of), sl_answer_of⟩)
    (c_answer_of : PySem.W.codeIn K cd_answer_of "answer_of" = true)
    (k_answer_of : PySem.W.keepIn K (.ref f_answer_of) = true)
    (a_answers : PySem.W.nsIn K mainGlobals "answers" = some (some (.ref f_answers)))
    (l_answers : K.lookup f_answers = some ⟨oc_answers, od_answers, .func (PySem.W.fnOf "answers" "answers" (defArgs s_answers) (defBody s_answers) (defScope s_answers) .none kV_answers dc_answers pm_answers an_answers cd_answers ct_answers), sl_answers⟩)
    (c_answers : PySem.W.codeIn K cd_answers "answers" = true)
    (k_answers : PySem.W.keepIn K (.ref f_answers) = true)
    (pgOrder : PySem.W.plainGet K COrder Str.empty = true)
    (hdOrder : PySem.W.hasDictIn K COrder = true)
    (poOrder : PySem.W.plainOver K COrder = true)
    (saOrder : PySem.W.findIn K (.ref COrder) "__setattr__" = some (some (.builtin "object.__setattr__")))
    (mkOrder : PySem.W.makesIn K COrder = true)
    (kcOrder : PySem.W.keepIn K (.ref COrder) = true)
    (nOrder_place : PySem.W.findIn K (.ref COrder) "place" = some none)
    (nOrder_kind : PySem.W.findIn K (.ref COrder) "kind" = some none)
    (nOrder_target : PySem.W.findIn K (.ref COrder) "target" = some none)
    (nOrder_first : PySem.W.findIn K (.ref COrder) "first" = some none)
    (nOrder_second : PySem.W.findIn K (.ref COrder) "second" = some none)
    (nOrder_number : PySem.W.findIn K (.ref COrder) "number" = some none)
    (nOrder_branches : PySem.W.findIn K (.ref COrder) "branches" = some none)
    (nOrder_following : PySem.W.findIn K (.ref COrder) "following" = some none)
    (nOrder_aim : PySem.W.findIn K (.ref COrder) "aim" = some none)
    (nOrder_guess_at : PySem.W.findIn K (.ref COrder) "guess_at" = some none)
    (pgPipeline : PySem.W.plainGet K CPipeline Str.empty = true)
    (hdPipeline : PySem.W.hasDictIn K CPipeline = true)
    (poPipeline : PySem.W.plainOver K CPipeline = true)
    (saPipeline : PySem.W.findIn K (.ref CPipeline) "__setattr__" = some (some (.builtin "object.__setattr__")))
    (mkPipeline : PySem.W.makesIn K CPipeline = true)
    (kcPipeline : PySem.W.keepIn K (.ref CPipeline) = true)
    (nPipeline_orders : PySem.W.findIn K (.ref CPipeline) "orders" = some none)
    (nPipeline_hands_on : PySem.W.findIn K (.ref CPipeline) "hands_on" = some none)
    (nPipeline_guesses_goings : PySem.W.findIn K (.ref CPipeline) "guesses_goings" = some none)
    (nPipeline_registers : PySem.W.findIn K (.ref CPipeline) "registers" = some none)
    (nPipeline_memory : PySem.W.findIn K (.ref CPipeline) "memory" = some none)
    (nPipeline_guesses : PySem.W.findIn K (.ref CPipeline) "guesses" = some none)
    (nPipeline_place : PySem.W.findIn K (.ref CPipeline) "place" = some none)
    (nPipeline_fetches : PySem.W.findIn K (.ref CPipeline) "fetches" = some none)
    (nPipeline_to_read : PySem.W.findIn K (.ref CPipeline) "to_read" = some none)
    (nPipeline_to_reckon : PySem.W.findIn K (.ref CPipeline) "to_reckon" = some none)
    (nPipeline_in_memory : PySem.W.findIn K (.ref CPipeline) "in_memory" = some none)
    (nPipeline_to_write : PySem.W.findIn K (.ref CPipeline) "to_write" = some none)
    (nPipeline_ended : PySem.W.findIn K (.ref CPipeline) "ended" = some none)
    (nPipeline_cycles : PySem.W.findIn K (.ref CPipeline) "cycles" = some none)
    (nPipeline_done : PySem.W.findIn K (.ref CPipeline) "done" = some none)
    (nPipeline_waited : PySem.W.findIn K (.ref CPipeline) "waited" = some none)
    (nPipeline_lost : PySem.W.findIn K (.ref CPipeline) "lost" = some none)
    (pgMachine : PySem.W.plainGet K CMachine Str.empty = true)
    (hdMachine : PySem.W.hasDictIn K CMachine = true)
    (poMachine : PySem.W.plainOver K CMachine = true)
    (saMachine : PySem.W.findIn K (.ref CMachine) "__setattr__" = some (some (.builtin "object.__setattr__")))
    (mkMachine : PySem.W.makesIn K CMachine = true)
    (kcMachine : PySem.W.keepIn K (.ref CMachine) = true)
    (nMachine_pipeline : PySem.W.findIn K (.ref CMachine) "pipeline" = some none)
    (nMachine_asked : PySem.W.findIn K (.ref CMachine) "asked" = some none)
    (qe : PySem.W.findIn K (.ref COrder) "__eq__" = some (some (.builtin "object.__eq__")))
    (qo : PySem.W.subIn K (.ref COrder) (.type "object") = some true)
    (qn : PySem.W.subIn K (.ref COrder) (.type "NoneType") = some false)
    (qm : PySem.W.subIn K (.type "NoneType") (.ref COrder) = some false)
    (g_ALL_BITS : PySem.W.nsIn K mainGlobals "ALL_BITS" = some (some (.int 4294967295 t_ALL_BITS)))
    (g_SIGN_BIT : PySem.W.nsIn K mainGlobals "SIGN_BIT" = some (some (.int 2147483648 t_SIGN_BIT)))
    (g_LOAD : PySem.W.nsIn K mainGlobals "LOAD" = some (some (.int 7 t_LOAD)))
    (g_STORE : PySem.W.nsIn K mainGlobals "STORE" = some (some (.int 8 t_STORE)))
    (g_IF_SAME : PySem.W.nsIn K mainGlobals "IF_SAME" = some (some (.int 9 t_IF_SAME)))
    (g_IF_OTHER : PySem.W.nsIn K mainGlobals "IF_OTHER" = some (some (.int 10 t_IF_OTHER)))
    (g_JUMP : PySem.W.nsIn K mainGlobals "JUMP" = some (some (.int 11 t_JUMP)))
    (g_END : PySem.W.nsIn K mainGlobals "END" = some (some (.int 12 t_END)))
    (g_FIRST_STRETCH : PySem.W.nsIn K mainGlobals "FIRST_STRETCH" = some (some (.int 64 t_FIRST_STRETCH)))
    (g_CALL_LOAD : PySem.W.nsIn K mainGlobals "CALL_LOAD" = some (some (.int 1 t_CALL_LOAD)))
    (g_CALL_GO : PySem.W.nsIn K mainGlobals "CALL_GO" = some (some (.int 2 t_CALL_GO)))
    (g_CALL_SHOWS : PySem.W.nsIn K mainGlobals "CALL_SHOWS" = some (some (.int 3 t_CALL_SHOWS)))
    (g_CALL_REG : PySem.W.nsIn K mainGlobals "CALL_REG" = some (some (.int 4 t_CALL_REG)))
    (g_MOST_ORDERS : PySem.W.nsIn K mainGlobals "MOST_ORDERS" = some (some (.int 1024 t_MOST_ORDERS)))
    (g_MOST_CYCLES_AT_ONCE : PySem.W.nsIn K mainGlobals "MOST_CYCLES_AT_ONCE" = some (some (.int 1000000 t_MOST_CYCLES_AT_ONCE)))
    (g_MOST_CYCLES_IN_ALL : PySem.W.nsIn K mainGlobals "MOST_CYCLES_IN_ALL" = some (some (.int 2000000000 t_MOST_CYCLES_IN_ALL)))
    (g_WRITING_KINDS : PySem.W.nsIn K mainGlobals "WRITING_KINDS" = some (some (.ref r_WRITING_KINDS)))
    (h_WRITING_KINDS : K.lookup r_WRITING_KINDS = some ⟨.type "tuple", z_WRITING_KINDS, .seq i_WRITING_KINDS x_WRITING_KINDS, y_WRITING_KINDS⟩)
    (g_FIRST_READING_KINDS : PySem.W.nsIn K mainGlobals "FIRST_READING_KINDS" = some (some (.ref r_FIRST_READING_KINDS)))
    (h_FIRST_READING_KINDS : K.lookup r_FIRST_READING_KINDS = some ⟨.type "tuple", z_FIRST_READING_KINDS, .seq i_FIRST_READING_KINDS x_FIRST_READING_KINDS, y_FIRST_READING_KINDS⟩)
    (g_SECOND_READING_KINDS : PySem.W.nsIn K mainGlobals "SECOND_READING_KINDS" = some (some (.ref r_SECOND_READING_KINDS)))
    (h_SECOND_READING_KINDS : K.lookup r_SECOND_READING_KINDS = some ⟨.type "tuple", z_SECOND_READING_KINDS, .seq i_SECOND_READING_KINDS x_SECOND_READING_KINDS, y_SECOND_READING_KINDS⟩)
    (g_RESULTS : PySem.W.nsIn K mainGlobals "RESULTS" = some (some (.ref r_RESULTS)))
    (h_RESULTS : K.lookup r_RESULTS = some ⟨.type "tuple", z_RESULTS, .seq i_RESULTS x_RESULTS, y_RESULTS⟩)
    (v_WRITING_KINDS : Vals [.int 0, .int 1, .int 2, .int 3, .int 4, .int 5, .int 6, .int 7, .int 11] i_WRITING_KINDS.toList)
    (v_FIRST_READING_KINDS : Vals [.int 0, .int 1, .int 2, .int 3, .int 4, .int 5, .int 6, .int 7, .int 8, .int 9, .int 10] i_FIRST_READING_KINDS.toList)
    (v_SECOND_READING_KINDS : Vals [.int 0, .int 1, .int 2, .int 3, .int 4, .int 5, .int 8, .int 9, .int 10] i_SECOND_READING_KINDS.toList)
    (v_RESULTS : i_RESULTS.toList = [.ref f_total, .ref f_difference, .ref f_bits_of_both, .ref f_bits_of_any, .ref f_bits_of_one, .ref f_is_less, .ref f_offset, .ref f_offset, .ref f_offset, .ref f_goes_if_same, .ref f_goes_if_other, .ref f_way_back, .ref f_no_result])
    (b_min : PySem.W.nsIn K mainGlobals "min" = some none)
    (b_max : PySem.W.nsIn K mainGlobals "max" = some none)
    (b_len : PySem.W.nsIn K mainGlobals "len" = some none)
    (b_list : PySem.W.nsIn K mainGlobals "list" = some none)
    (b_any : PySem.W.nsIn K mainGlobals "any" = some none)
    (b_enumerate : PySem.W.nsIn K mainGlobals "enumerate" = some none)
    (neOP : COrder ≠ CPipeline)
    (neOM : COrder ≠ CMachine)
    (nePM : CPipeline ≠ CMachine) :
    ∃ fd : FuncData, (∀ (s : Shared) (v : Value), BindsTo s fd ⟨[v], []⟩ [("calls", v)]) ∧ ∀ base : Heap, K.In base → base.Ns mainGlobals mg → FnOk Pr w K mg base CX0 11 fa fd ["calls"] (sp_answers K) := by
  have e := hfa.symm.trans (PySem.W.mg_of X G a_answers)
  cases e
  have F_with_sign := fun_mk (st := s_with_sign) l_with_sign c_with_sign k_with_sign
  have B_with_sign := F_with_sign.binds (ps := ps_with_sign_) fun _ _ _ _ _ _ us hl => match us, hl with | [_], _ => rfl
  have F_kind_of := fun_mk (st := s_kind_of) l_kind_of c_kind_of k_kind_of
  have B_kind_of := F_kind_of.binds (ps := ps_kind_of_) fun _ _ _ _ _ _ us hl => match us, hl with | [_], _ => rfl
  have F_number_of := fun_mk (st := s_number_of) l_number_of c_number_of k_number_of
  have B_number_of := F_number_of.binds (ps := ps_number_of_) fun _ _ _ _ _ _ us hl => match us, hl with | [_], _ => rfl
  have F_Order_init := fun_mk (st := s_Order_init) l_Order_init c_Order_init k_Order_init
  have B_Order_init := F_Order_init.binds (ps := ps_Order_init_) fun _ _ _ _ _ _ us hl => match us, hl with | [_, _, _], _ => rfl
  have F_needs := fun_mk (st := s_needs) l_needs c_needs k_needs
  have B_needs := F_needs.binds (ps := ps_needs_) fun _ _ _ _ _ _ us hl => match us, hl with | [_, _], _ => rfl
  have F_total := fun_mk (st := s_total) l_total c_total k_total
  have B_total := F_total.binds (ps := ps_total_) fun _ _ _ _ _ _ us hl => match us, hl with | [_, _, _], _ => rfl
  have F_difference := fun_mk (st := s_difference) l_difference c_difference k_difference
  have B_difference := F_difference.binds (ps := ps_difference_) fun _ _ _ _ _ _ us hl => match us, hl with | [_, _, _], _ => rfl
  have F_bits_of_both := fun_mk (st := s_bits_of_both) l_bits_of_both c_bits_of_both k_bits_of_both
  have B_bits_of_both := F_bits_of_both.binds (ps := ps_bits_of_both_) fun _ _ _ _ _ _ us hl => match us, hl with | [_, _, _], _ => rfl
  have F_bits_of_any := fun_mk (st := s_bits_of_any) l_bits_of_any c_bits_of_any k_bits_of_any
  have B_bits_of_any := F_bits_of_any.binds (ps := ps_bits_of_any_) fun _ _ _ _ _ _ us hl => match us, hl with | [_, _, _], _ => rfl
  have F_bits_of_one := fun_mk (st := s_bits_of_one) l_bits_of_one c_bits_of_one k_bits_of_one
  have B_bits_of_one := F_bits_of_one.binds (ps := ps_bits_of_one_) fun _ _ _ _ _ _ us hl => match us, hl with | [_, _, _], _ => rfl
  have F_is_less := fun_mk (st := s_is_less) l_is_less c_is_less k_is_less
  have B_is_less := F_is_less.binds (ps := ps_is_less_) fun _ _ _ _ _ _ us hl => match us, hl with | [_, _, _], _ => rfl
  have F_offset := fun_mk (st := s_offset) l_offset c_offset k_offset
  have B_offset := F_offset.binds (ps := ps_offset_) fun _ _ _ _ _ _ us hl => match us, hl with | [_, _, _], _ => rfl
  have F_goes_if_same := fun_mk (st := s_goes_if_same) l_goes_if_same c_goes_if_same k_goes_if_same
  have B_goes_if_same := F_goes_if_same.binds (ps := ps_goes_if_same_) fun _ _ _ _ _ _ us hl => match us, hl with | [_, _, _], _ => rfl
  have F_goes_if_other := fun_mk (st := s_goes_if_other) l_goes_if_other c_goes_if_other k_goes_if_other
  have B_goes_if_other := F_goes_if_other.binds (ps := ps_goes_if_other_) fun _ _ _ _ _ _ us hl => match us, hl with | [_, _, _], _ => rfl
  have F_way_back := fun_mk (st := s_way_back) l_way_back c_way_back k_way_back
  have B_way_back := F_way_back.binds (ps := ps_way_back_) fun _ _ _ _ _ _ us hl => match us, hl with | [_, _, _], _ => rfl
  have F_no_result := fun_mk (st := s_no_result) l_no_result c_no_result k_no_result
  have B_no_result := F_no_result.binds (ps := ps_no_result_) fun _ _ _ _ _ _ us hl => match us, hl with | [_, _, _], _ => rfl
  have F_result_of := fun_mk (st := s_result_of) l_result_of c_result_of k_result_of
  have B_result_of := F_result_of.binds (ps := ps_result_of_) fun _ _ _ _ _ _ us hl => match us, hl with | [_, _, _], _ => rfl
  have F_newest_value := fun_mk (st := s_newest_value) l_newest_value c_newest_value k_newest_value
  have B_newest_value := F_newest_value.binds (ps := ps_newest_value_) fun _ _ _ _ _ _ us hl => match us, hl with | [_, _, _, _], _ => rfl
  have F_Pipeline_init := fun_mk (st := s_Pipeline_init) l_Pipeline_init c_Pipeline_init k_Pipeline_init
  have B_Pipeline_init := F_Pipeline_init.binds (ps := ps_Pipeline_init_) fun _ _ _ _ _ _ us hl => match us, hl with | [_, _, _], _ => rfl
  have F_cycle := fun_mk (st := s_cycle) l_cycle c_cycle k_cycle
  have B_cycle := F_cycle.binds (ps := ps_cycle_) fun _ _ _ _ _ _ us hl => match us, hl with | [_], _ => rfl
  have F_write := fun_mk (st := s_write) l_write c_write k_write
  have B_write := F_write.binds (ps := ps_write_) fun _ _ _ _ _ _ us hl => match us, hl with | [_, _], _ => rfl
  have F_use_memory := fun_mk (st := s_use_memory) l_use_memory c_use_memory k_use_memory
  have B_use_memory := F_use_memory.binds (ps := ps_use_memory_) fun _ _ _ _ _ _ us hl => match us, hl with | [_, _], _ => rfl
  have F_reckon := fun_mk (st := s_reckon) l_reckon c_reckon k_reckon
  have B_reckon := F_reckon.binds (ps := ps_reckon_) fun _ _ _ _ _ _ us hl => match us, hl with | [_, _, _, _], _ => rfl
  have F_place_if_wrong := fun_mk (st := s_place_if_wrong) l_place_if_wrong c_place_if_wrong k_place_if_wrong
  have B_place_if_wrong := F_place_if_wrong.binds (ps := ps_place_if_wrong_) fun _ _ _ _ _ _ us hl => match us, hl with | [_, _], _ => rfl
  have F_learn := fun_mk (st := s_learn) l_learn c_learn k_learn
  have B_learn := F_learn.binds (ps := ps_learn_) fun _ _ _ _ _ _ us hl => match us, hl with | [_, _], _ => rfl
  have F_lose_guessed := fun_mk (st := s_lose_guessed) l_lose_guessed c_lose_guessed k_lose_guessed
  have B_lose_guessed := F_lose_guessed.binds (ps := ps_lose_guessed_) fun _ _ _ _ _ _ us hl => match us, hl with | [_, _], _ => rfl
  have F_has_to_wait := fun_mk (st := s_has_to_wait) l_has_to_wait c_has_to_wait k_has_to_wait
  have B_has_to_wait := F_has_to_wait.binds (ps := ps_has_to_wait_) fun _ _ _ _ _ _ us hl => match us, hl with | [_, _, _, _], _ => rfl
  have F_read_registers := fun_mk (st := s_read_registers) l_read_registers c_read_registers k_read_registers
  have B_read_registers := F_read_registers.binds (ps := ps_read_registers_) fun _ _ _ _ _ _ us hl => match us, hl with | [_, _], _ => rfl
  have F_fetch := fun_mk (st := s_fetch) l_fetch c_fetch k_fetch
  have B_fetch := F_fetch.binds (ps := ps_fetch_) fun _ _ _ _ _ _ us hl => match us, hl with | [_], _ => rfl
  have F_order_at := fun_mk (st := s_order_at) l_order_at c_order_at k_order_at
  have B_order_at := F_order_at.binds (ps := ps_order_at_) fun _ _ _ _ _ _ us hl => match us, hl with | [_, _], _ => rfl
  have F_is_guessed_to_go := fun_mk (st := s_is_guessed_to_go) l_is_guessed_to_go c_is_guessed_to_go k_is_guessed_to_go
  have B_is_guessed_to_go := F_is_guessed_to_go.binds (ps := ps_is_guessed_to_go_) fun _ _ _ _ _ _ us hl => match us, hl with | [_, _], _ => rfl
  have F_run := fun_mk (st := s_run) l_run c_run k_run
  have B_run := F_run.binds (ps := ps_run_) fun _ _ _ _ _ _ us hl => match us, hl with | [_, _], _ => rfl
  have F_run_to_state := fun_mk (st := s_run_to_state) l_run_to_state c_run_to_state k_run_to_state
  have B_run_to_state := F_run_to_state.binds (ps := ps_run_to_state_) fun _ _ _ _ _ _ us hl => match us, hl with | [_, _, _], _ => rfl
  have F_stages := fun_mk (st := s_stages) l_stages c_stages k_stages
  have B_stages := F_stages.binds (ps := ps_stages_) fun _ _ _ _ _ _ us hl => match us, hl with | [_], _ => rfl
  have F_state := fun_mk (st := s_state) l_state c_state k_state
  have B_state := F_state.binds (ps := ps_state_) fun _ _ _ _ _ _ us hl => match us, hl with | [_], _ => rfl
  have F_is_in_state := fun_mk (st := s_is_in_state) l_is_in_state c_is_in_state k_is_in_state
  have B_is_in_state := F_is_in_state.binds (ps := ps_is_in_state_) fun _ _ _ _ _ _ us hl => match us, hl with | [_, _], _ => rfl
  have F_counts := fun_mk (st := s_counts) l_counts c_counts k_counts
  have B_counts := F_counts.binds (ps := ps_counts_) fun _ _ _ _ _ _ us hl => match us, hl with | [_], _ => rfl
  have F_count_again := fun_mk (st := s_count_again) l_count_again c_count_again k_count_again
  have B_count_again := F_count_again.binds (ps := ps_count_again_) fun _ _ _ _ _ _ us hl => match us, hl with | [_, _, _], _ => rfl
  have F_shown_place := fun_mk (st := s_shown_place) l_shown_place c_shown_place k_shown_place
  have B_shown_place := F_shown_place.binds (ps := ps_shown_place_) fun _ _ _ _ _ _ us hl => match us, hl with | [_], _ => rfl
  have F_Machine_init := fun_mk (st := s_Machine_init) l_Machine_init c_Machine_init k_Machine_init
  have B_Machine_init := F_Machine_init.binds (ps := ps_Machine_init_) fun _ _ _ _ _ _ us hl => match us, hl with | [_], _ => rfl
  have F_load := fun_mk (st := s_load) l_load c_load k_load
  have B_load := F_load.binds (ps := ps_load_) fun _ _ _ _ _ _ us hl => match us, hl with | [_, _, _, _], _ => rfl
  have F_go := fun_mk (st := s_go) l_go c_go k_go
  have B_go := F_go.binds (ps := ps_go_) fun _ _ _ _ _ _ us hl => match us, hl with | [_, _], _ => rfl
  have F_has_ended := fun_mk (st := s_has_ended) l_has_ended c_has_ended k_has_ended
  have B_has_ended := F_has_ended.binds (ps := ps_has_ended_) fun _ _ _ _ _ _ us hl => match us, hl with | [_], _ => rfl
  have F_shows := fun_mk (st := s_shows) l_shows c_shows k_shows
  have B_shows := F_shows.binds (ps := ps_shows_) fun _ _ _ _ _ _ us hl => match us, hl with | [_], _ => rfl
  have F_reg := fun_mk (st := s_reg) l_reg c_reg k_reg
  have B_reg := F_reg.binds (ps := ps_reg_) fun _ _ _ _ _ _ us hl => match us, hl with | [_, _], _ => rfl
  have F_mem := fun_mk (st := s_mem) l_mem c_mem k_mem
  have B_mem := F_mem.binds (ps := ps_mem_) fun _ _ _ _ _ _ us hl => match us, hl with | [_, _], _ => rfl
  have F_end_of_call := fun_mk (st := s_end_of_call) l_end_of_call c_end_of_call k_end_of_call
  have B_end_of_call := F_end_of_call.binds (ps := ps_end_of_call_) fun _ _ _ _ _ _ us hl => match us, hl with | [_, _], _ => rfl
  have F_answer_of := fun_mk (st := s_answer_of) l_answer_of c_answer_of k_answer_of
  have B_answer_of := F_answer_of.binds (ps := ps_answer_of_) fun _ _ _ _ _ _ us hl => match us, hl with | [_, _], _ => rfl
  have F_answers := fun_mk (st := s_answers) l_answers c_answers k_answers
  have B_answers := F_answers.binds (ps := ps_answers_) fun _ _ _ _ _ _ us hl => match us, hl with | [_], _ => rfl
  have T : Txt K mg ⟨COrder, CPipeline, CMachine⟩ := {
    cmpOrder := ⟨qe, qo, qn, qm⟩
    clOrder := ⟨pgOrder, hdOrder, poOrder, saOrder⟩
    clPipeline := ⟨pgPipeline, hdPipeline, poPipeline, saPipeline⟩
    clMachine := ⟨pgMachine, hdMachine, poMachine, saMachine⟩
    neOrderPipeline := neOP
    neOrderMachine := neOM
    nePipelineMachine := nePM
    nOrder_place := nOrder_place
    nOrder_kind := nOrder_kind
    nOrder_target := nOrder_target
    nOrder_first := nOrder_first
    nOrder_second := nOrder_second
    nOrder_number := nOrder_number
    nOrder_branches := nOrder_branches
    nOrder_following := nOrder_following
    nOrder_aim := nOrder_aim
    nOrder_guess_at := nOrder_guess_at
    nPipeline_orders := nPipeline_orders
    nPipeline_hands_on := nPipeline_hands_on
    nPipeline_guesses_goings := nPipeline_guesses_goings
    nPipeline_registers := nPipeline_registers
    nPipeline_memory := nPipeline_memory
    nPipeline_guesses := nPipeline_guesses
    nPipeline_place := nPipeline_place
    nPipeline_fetches := nPipeline_fetches
    nPipeline_to_read := nPipeline_to_read
    nPipeline_to_reckon := nPipeline_to_reckon
    nPipeline_in_memory := nPipeline_in_memory
    nPipeline_to_write := nPipeline_to_write
    nPipeline_ended := nPipeline_ended
    nPipeline_cycles := nPipeline_cycles
    nPipeline_done := nPipeline_done
    nPipeline_waited := nPipeline_waited
    nPipeline_lost := nPipeline_lost
    nMachine_pipeline := nMachine_pipeline
    nMachine_asked := nMachine_asked
    d_with_sign := ⟨_, _, F_with_sign, B_with_sign, PySem.W.mg_of X G a_with_sign⟩
    d_kind_of := ⟨_, _, F_kind_of, B_kind_of, PySem.W.mg_of X G a_kind_of⟩
    d_number_of := ⟨_, _, F_number_of, B_number_of, PySem.W.mg_of X G a_number_of⟩
    d_Order_init := ⟨_, _, F_Order_init, B_Order_init, ⟨mkOrder, a_Order_init, i_Order_init, kcOrder⟩, PySem.W.mg_of X G aCOrder⟩
    d_needs := ⟨_, _, F_needs, B_needs, ⟨a_needs, i_needs, k_needs⟩⟩
    d_total := ⟨_, _, F_total, B_total, PySem.W.mg_of X G a_total⟩
    d_difference := ⟨_, _, F_difference, B_difference, PySem.W.mg_of X G a_difference⟩
    d_bits_of_both := ⟨_, _, F_bits_of_both, B_bits_of_both, PySem.W.mg_of X G a_bits_of_both⟩
    d_bits_of_any := ⟨_, _, F_bits_of_any, B_bits_of_any, PySem.W.mg_of X G a_bits_of_any⟩
    d_bits_of_one := ⟨_, _, F_bits_of_one, B_bits_of_one, PySem.W.mg_of X G a_bits_of_one⟩
    d_is_less := ⟨_, _, F_is_less, B_is_less, PySem.W.mg_of X G a_is_less⟩
    d_offset := ⟨_, _, F_offset, B_offset, PySem.W.mg_of X G a_offset⟩
    d_goes_if_same := ⟨_, _, F_goes_if_same, B_goes_if_same, PySem.W.mg_of X G a_goes_if_same⟩
    d_goes_if_other := ⟨_, _, F_goes_if_other, B_goes_if_other, PySem.W.mg_of X G a_goes_if_other⟩
    d_way_back := ⟨_, _, F_way_back, B_way_back, PySem.W.mg_of X G a_way_back⟩
    d_no_result := ⟨_, _, F_no_result, B_no_result, PySem.W.mg_of X G a_no_result⟩
    d_result_of := ⟨_, _, F_result_of, B_result_of, PySem.W.mg_of X G a_result_of⟩
    d_newest_value := ⟨_, _, F_newest_value, B_newest_value, PySem.W.mg_of X G a_newest_value⟩
    d_Pipeline_init := ⟨_, _, F_Pipeline_init, B_Pipeline_init, ⟨mkPipeline, a_Pipeline_init, i_Pipeline_init, kcPipeline⟩, PySem.W.mg_of X G aCPipeline⟩
    d_cycle := ⟨_, _, F_cycle, B_cycle, ⟨a_cycle, i_cycle, k_cycle⟩⟩
    d_write := ⟨_, _, F_write, B_write, ⟨a_write, i_write, k_write⟩⟩
    d_use_memory := ⟨_, _, F_use_memory, B_use_memory, ⟨a_use_memory, i_use_memory, k_use_memory⟩⟩
    d_reckon := ⟨_, _, F_reckon, B_reckon, ⟨a_reckon, i_reckon, k_reckon⟩⟩
    d_place_if_wrong := ⟨_, _, F_place_if_wrong, B_place_if_wrong, ⟨a_place_if_wrong, i_place_if_wrong, k_place_if_wrong⟩⟩
    d_learn := ⟨_, _, F_learn, B_learn, ⟨a_learn, i_learn, k_learn⟩⟩
    d_lose_guessed := ⟨_, _, F_lose_guessed, B_lose_guessed, ⟨a_lose_guessed, i_lose_guessed, k_lose_guessed⟩⟩
    d_has_to_wait := ⟨_, _, F_has_to_wait, B_has_to_wait, ⟨a_has_to_wait, i_has_to_wait, k_has_to_wait⟩⟩
    d_read_registers := ⟨_, _, F_read_registers, B_read_registers, ⟨a_read_registers, i_read_registers, k_read_registers⟩⟩
    d_fetch := ⟨_, _, F_fetch, B_fetch, ⟨a_fetch, i_fetch, k_fetch⟩⟩
    d_order_at := ⟨_, _, F_order_at, B_order_at, ⟨a_order_at, i_order_at, k_order_at⟩⟩
    d_is_guessed_to_go := ⟨_, _, F_is_guessed_to_go, B_is_guessed_to_go, ⟨a_is_guessed_to_go, i_is_guessed_to_go, k_is_guessed_to_go⟩⟩
    d_run := ⟨_, _, F_run, B_run, ⟨a_run, i_run, k_run⟩⟩
    d_run_to_state := ⟨_, _, F_run_to_state, B_run_to_state, ⟨a_run_to_state, i_run_to_state, k_run_to_state⟩⟩
    d_stages := ⟨_, _, F_stages, B_stages, ⟨a_stages, i_stages, k_stages⟩⟩
    d_state := ⟨_, _, F_state, B_state, ⟨a_state, i_state, k_state⟩⟩
    d_is_in_state := ⟨_, _, F_is_in_state, B_is_in_state, ⟨a_is_in_state, i_is_in_state, k_is_in_state⟩⟩
    d_counts := ⟨_, _, F_counts, B_counts, ⟨a_counts, i_counts, k_counts⟩⟩
    d_count_again := ⟨_, _, F_count_again, B_count_again, ⟨a_count_again, i_count_again, k_count_again⟩⟩
    d_shown_place := ⟨_, _, F_shown_place, B_shown_place, PySem.W.mg_of X G a_shown_place⟩
    d_Machine_init := ⟨_, _, F_Machine_init, B_Machine_init, ⟨mkMachine, a_Machine_init, i_Machine_init, kcMachine⟩, PySem.W.mg_of X G aCMachine⟩
    d_load := ⟨_, _, F_load, B_load, ⟨a_load, i_load, k_load⟩⟩
    d_go := ⟨_, _, F_go, B_go, ⟨a_go, i_go, k_go⟩⟩
    d_has_ended := ⟨_, _, F_has_ended, B_has_ended, ⟨a_has_ended, i_has_ended, k_has_ended⟩⟩
    d_shows := ⟨_, _, F_shows, B_shows, ⟨a_shows, i_shows, k_shows⟩⟩
    d_reg := ⟨_, _, F_reg, B_reg, ⟨a_reg, i_reg, k_reg⟩⟩
    d_mem := ⟨_, _, F_mem, B_mem, ⟨a_mem, i_mem, k_mem⟩⟩
    d_end_of_call := ⟨_, _, F_end_of_call, B_end_of_call, PySem.W.mg_of X G a_end_of_call⟩
    d_answer_of := ⟨_, _, F_answer_of, B_answer_of, PySem.W.mg_of X G a_answer_of⟩
    d_answers := ⟨_, _, F_answers, B_answers, PySem.W.mg_of X G a_answers⟩
    k_ALL_BITS := ⟨_, PySem.W.mg_of X G g_ALL_BITS⟩
    k_SIGN_BIT := ⟨_, PySem.W.mg_of X G g_SIGN_BIT⟩
    k_LOAD := ⟨_, PySem.W.mg_of X G g_LOAD⟩
    k_STORE := ⟨_, PySem.W.mg_of X G g_STORE⟩
    k_IF_SAME := ⟨_, PySem.W.mg_of X G g_IF_SAME⟩
    k_IF_OTHER := ⟨_, PySem.W.mg_of X G g_IF_OTHER⟩
    k_JUMP := ⟨_, PySem.W.mg_of X G g_JUMP⟩
    k_END := ⟨_, PySem.W.mg_of X G g_END⟩
    k_FIRST_STRETCH := ⟨_, PySem.W.mg_of X G g_FIRST_STRETCH⟩
    k_CALL_LOAD := ⟨_, PySem.W.mg_of X G g_CALL_LOAD⟩
    k_CALL_GO := ⟨_, PySem.W.mg_of X G g_CALL_GO⟩
    k_CALL_SHOWS := ⟨_, PySem.W.mg_of X G g_CALL_SHOWS⟩
    k_CALL_REG := ⟨_, PySem.W.mg_of X G g_CALL_REG⟩
    k_MOST_ORDERS := ⟨_, PySem.W.mg_of X G g_MOST_ORDERS⟩
    k_MOST_CYCLES_AT_ONCE := ⟨_, PySem.W.mg_of X G g_MOST_CYCLES_AT_ONCE⟩
    k_MOST_CYCLES_IN_ALL := ⟨_, PySem.W.mg_of X G g_MOST_CYCLES_IN_ALL⟩
    t_WRITING_KINDS := ⟨_, PySem.W.mg_of X G g_WRITING_KINDS, fun H => .inr ⟨_, i_WRITING_KINDS, _, h_WRITING_KINDS, rfl, rfl, tup_few v_WRITING_KINDS (by decide), v_WRITING_KINDS⟩⟩
    t_FIRST_READING_KINDS := ⟨_, PySem.W.mg_of X G g_FIRST_READING_KINDS, fun H => .inr ⟨_, i_FIRST_READING_KINDS, _, h_FIRST_READING_KINDS, rfl, rfl, tup_few v_FIRST_READING_KINDS (by decide), v_FIRST_READING_KINDS⟩⟩
    t_SECOND_READING_KINDS := ⟨_, PySem.W.mg_of X G g_SECOND_READING_KINDS, fun H => .inr ⟨_, i_SECOND_READING_KINDS, _, h_SECOND_READING_KINDS, rfl, rfl, tup_few v_SECOND_READING_KINDS (by decide), v_SECOND_READING_KINDS⟩⟩
    b_min := PySem.W.mg_none_of X G b_min
    b_max := PySem.W.mg_none_of X G b_max
    b_len := PySem.W.mg_none_of X G b_len
    b_list := PySem.W.mg_none_of X G b_list
    b_any := PySem.W.mg_none_of X G b_any
    b_enumerate := PySem.W.mg_none_of X G b_enumerate
    t_RESULTS := ⟨_, [f_total, f_difference, f_bits_of_both, f_bits_of_any, f_bits_of_one, f_is_less, f_offset, f_offset, f_offset, f_goes_if_same, f_goes_if_other, f_way_back, f_no_result], PySem.W.mg_of X G g_RESULTS, fun H => .inr ⟨_, i_RESULTS, _, h_RESULTS, rfl, rfl, tup_few (xs := ([f_total, f_difference, f_bits_of_both, f_bits_of_any, f_bits_of_one, f_is_less, f_offset, f_offset, f_offset, f_goes_if_same, f_goes_if_other, f_way_back, f_no_result] : List Addr).map V.ref) (by rw [v_RESULTS]; exact (.cons rfl (.cons rfl (.cons rfl (.cons rfl (.cons rfl (.cons rfl (.cons rfl (.cons rfl (.cons rfl (.cons rfl (.cons rfl (.cons rfl (.cons rfl .nil)))))))))))))) (by rw [List.length_map]; exact Nat.le_of_ble_eq_true rfl), by rw [v_RESULTS]; exact (.cons rfl (.cons rfl (.cons rfl (.cons rfl (.cons rfl (.cons rfl (.cons rfl (.cons rfl (.cons rfl (.cons rfl (.cons rfl (.cons rfl (.cons rfl .nil)))))))))))))⟩, by
      rw [PySem.W.mg_of X G a_total, PySem.W.mg_of X G a_difference, PySem.W.mg_of X G a_bits_of_both, PySem.W.mg_of X G a_bits_of_any, PySem.W.mg_of X G a_bits_of_one, PySem.W.mg_of X G a_is_less, PySem.W.mg_of X G a_offset, PySem.W.mg_of X G a_goes_if_same, PySem.W.mg_of X G a_goes_if_other, PySem.W.mg_of X G a_way_back, PySem.W.mg_of X G a_no_result]
      rfl⟩ }
  exact ⟨_, fun s v => .of_eq rfl, fun base _ _ => ok_answers T _ _ F_answers⟩
end Fs

set_option Elab.async false
set_option linter.all false
set_option maxRecDepth 100000
/-! these names are held, so that the head lays no twins of its greatest terms (states, the view, the text): they would be most of the compiled size -/
def PySem.W.Fast.tw8961593234547725602 : Unit := ()
def PySem.W.Fast.tw8460046577027420135 : Unit := ()
def PySem.W.Fast.tw819879600230555878 : Unit := ()
def PySem.W.Fast.tw10895215201227439593 : Unit := ()
def PySem.W.Fast.tw5469228815824576437 : Unit := ()
def PySem.W.Fast.tw5308112090226754356 : Unit := ()
def PySem.W.Fast.tw6178645535674324719 : Unit := ()
def PySem.W.Fast.tw10455521270729697010 : Unit := ()
def PySem.W.Fast.tw13038102164044115255 : Unit := ()
open PySem PySem.W PyProof.Rows
set_option maxRecDepth 100000 in
set_option maxHeartbeats 0 in
theorem PySem.Challenge.cw_fivestages_s01_answers_holds : PySem.Challenge.rw_fivestages_s01_answers.Holds := by
  w_on; k_headS; (case hw => exact ⟨[.list [.int 1, .int 0, .int 0, .int 0]], by decide +kernel, by decide +kernel⟩)
  k_fillS
  refine Fs.walk_spec rfl (fun w h Y => PySem.W.kIn_of Y) ?F
  case F =>
    intro w mg fa h KX G hmg
    refine' Fs.all_mk KX G hmg ?aCOrder ?aCPipeline ?aCMachine ?a_with_sign ?l_with_sign ?c_with_sign ?k_with_sign ?a_kind_of ?l_kind_of ?c_kind_of ?k_kind_of ?a_number_of ?l_number_of ?c_number_of ?k_number_of ?a_Order_init ?i_Order_init ?l_Order_init ?c_Order_init ?k_Order_init ?a_needs ?i_needs ?l_needs ?c_needs ?k_needs ?a_total ?l_total ?c_total ?k_total ?a_difference ?l_difference ?c_difference ?k_difference ?a_bits_of_both ?l_bits_of_both ?c_bits_of_both ?k_bits_of_both ?a_bits_of_any ?l_bits_of_any ?c_bits_of_any ?k_bits_of_any ?a_bits_of_one ?l_bits_of_one ?c_bits_of_one ?k_bits_of_one ?a_is_less ?l_is_less ?c_is_less ?k_is_less ?a_offset ?l_offset ?c_offset ?k_offset ?a_goes_if_same ?l_goes_if_same ?c_goes_if_same ?k_goes_if_same ?a_goes_if_other ?l_goes_if_other ?c_goes_if_other ?k_goes_if_other ?a_way_back ?l_way_back ?c_way_back ?k_way_back ?a_no_result ?l_no_result ?c_no_result ?k_no_result ?a_result_of ?l_result_of ?c_result_of ?k_result_of ?a_newest_value ?l_newest_value ?c_newest_value ?k_newest_value ?a_Pipeline_init ?i_Pipeline_init ?l_Pipeline_init ?c_Pipeline_init ?k_Pipeline_init ?a_cycle ?i_cycle ?l_cycle ?c_cycle ?k_cycle ?a_write ?i_write ?l_write ?c_write ?k_write ?a_use_memory ?i_use_memory ?l_use_memory ?c_use_memory ?k_use_memory ?a_reckon ?i_reckon ?l_reckon ?c_reckon ?k_reckon ?a_place_if_wrong ?i_place_if_wrong ?l_place_if_wrong ?c_place_if_wrong ?k_place_if_wrong ?a_learn ?i_learn ?l_learn ?c_learn ?k_learn ?a_lose_guessed ?i_lose_guessed ?l_lose_guessed ?c_lose_guessed ?k_lose_guessed ?a_has_to_wait ?i_has_to_wait ?l_has_to_wait ?c_has_to_wait ?k_has_to_wait ?a_read_registers ?i_read_registers ?l_read_registers ?c_read_registers ?k_read_registers ?a_fetch ?i_fetch ?l_fetch ?c_fetch ?k_fetch ?a_order_at ?i_order_at ?l_order_at ?c_order_at ?k_order_at ?a_is_guessed_to_go ?i_is_guessed_to_go ?l_is_guessed_to_go ?c_is_guessed_to_go ?k_is_guessed_to_go ?a_run ?i_run ?l_run ?c_run ?k_run ?a_run_to_state ?i_run_to_state ?l_run_to_state ?c_run_to_state ?k_run_to_state ?a_stages ?i_stages ?l_stages ?c_stages ?k_stages ?a_state ?i_state ?l_state ?c_state ?k_state ?a_is_in_state ?i_is_in_state ?l_is_in_state ?c_is_in_state ?k_is_in_state ?a_counts ?i_counts ?l_counts ?c_counts ?k_counts ?a_count_again ?i_count_again ?l_count_again ?c_count_again ?k_count_again ?a_shown_place ?l_shown_place ?c_shown_place ?k_shown_place ?a_Machine_init ?i_Machine_init ?l_Machine_init ?c_Machine_init ?k_Machine_init ?a_load ?i_load ?l_load ?c_load ?k_load ?a_go ?i_go ?l_go ?c_go ?k_go ?a_has_ended ?i_has_ended ?l_has_ended ?c_has_ended ?k_has_ended ?a_shows ?i_shows ?l_shows ?c_shows ?k_shows ?a_reg ?i_reg ?l_reg ?c_reg ?k_reg ?a_mem ?i_mem ?l_mem ?c_mem ?k_mem ?a_end_of_call ?l_end_of_call ?c_end_of_call ?k_end_of_call ?a_answer_of ?l_answer_of ?c_answer_of ?k_answer_of ?a_answers ?l_answers ?c_answers ?k_answers ?pgOrder ?hdOrder ?poOrder ?saOrder ?mkOrder ?kcOrder ?nOrder_place ?nOrder_kind ?nOrder_target ?nOrder_first ?nOrder_second ?nOrder_number ?nOrder_branches ?nOrder_following ?nOrder_aim ?nOrder_guess_at ?pgPipeline ?hdPipeline ?poPipeline ?saPipeline ?mkPipeline ?kcPipeline ?nPipeline_orders ?nPipeline_hands_on ?nPipeline_guesses_goings ?nPipeline_registers ?nPipeline_memory ?nPipeline_guesses ?nPipeline_place ?nPipeline_fetches ?nPipeline_to_read ?nPipeline_to_reckon ?nPipeline_in_memory ?nPipeline_to_write ?nPipeline_ended ?nPipeline_cycles ?nPipeline_done ?nPipeline_waited ?nPipeline_lost ?pgMachine ?hdMachine ?poMachine ?saMachine ?mkMachine ?kcMachine ?nMachine_pipeline ?nMachine_asked ?qe ?qo ?qn ?qm ?g_ALL_BITS ?g_SIGN_BIT ?g_LOAD ?g_STORE ?g_IF_SAME ?g_IF_OTHER ?g_JUMP ?g_END ?g_FIRST_STRETCH ?g_CALL_LOAD ?g_CALL_GO ?g_CALL_SHOWS ?g_CALL_REG ?g_MOST_ORDERS ?g_MOST_CYCLES_AT_ONCE ?g_MOST_CYCLES_IN_ALL ?g_WRITING_KINDS ?h_WRITING_KINDS ?g_FIRST_READING_KINDS ?h_FIRST_READING_KINDS ?g_SECOND_READING_KINDS ?h_SECOND_READING_KINDS ?g_RESULTS ?h_RESULTS ?v_WRITING_KINDS ?v_FIRST_READING_KINDS ?v_SECOND_READING_KINDS ?v_RESULTS ?b_min ?b_max ?b_len ?b_list ?b_any ?b_enumerate ?neOP ?neOM ?nePM
    (case aCOrder => k_is)
    (case aCPipeline => k_is)
    (case aCMachine => k_is)
    (case a_with_sign => k_is)
    (case l_with_sign => k_is)
    (case c_with_sign => k_is)
    (case k_with_sign => k_is)
    (case a_kind_of => k_is)
    (case l_kind_of => k_is)
    (case c_kind_of => k_is)
    (case k_kind_of => k_is)
    (case a_number_of => k_is)
    (case l_number_of => k_is)
    (case c_number_of => k_is)
    (case k_number_of => k_is)
    (case a_Order_init => k_is)
    (case i_Order_init => k_is)
    (case l_Order_init => k_is)
    (case c_Order_init => k_is)
    (case k_Order_init => k_is)
    (case a_needs => k_is)
    (case i_needs => k_is)
    (case l_needs => k_is)
    (case c_needs => k_is)
    (case k_needs => k_is)
    (case a_total => k_is)
    (case l_total => k_is)
    (case c_total => k_is)
    (case k_total => k_is)
    (case a_difference => k_is)
    (case l_difference => k_is)
    (case c_difference => k_is)
    (case k_difference => k_is)
    (case a_bits_of_both => k_is)
    (case l_bits_of_both => k_is)
    (case c_bits_of_both => k_is)
    (case k_bits_of_both => k_is)
    (case a_bits_of_any => k_is)
    (case l_bits_of_any => k_is)
    (case c_bits_of_any => k_is)
    (case k_bits_of_any => k_is)
    (case a_bits_of_one => k_is)
    (case l_bits_of_one => k_is)
    (case c_bits_of_one => k_is)
    (case k_bits_of_one => k_is)
    (case a_is_less => k_is)
    (case l_is_less => k_is)
    (case c_is_less => k_is)
    (case k_is_less => k_is)
    (case a_offset => k_is)
    (case l_offset => k_is)
    (case c_offset => k_is)
    (case k_offset => k_is)
    (case a_goes_if_same => k_is)
    (case l_goes_if_same => k_is)
    (case c_goes_if_same => k_is)
    (case k_goes_if_same => k_is)
    (case a_goes_if_other => k_is)
    (case l_goes_if_other => k_is)
    (case c_goes_if_other => k_is)
    (case k_goes_if_other => k_is)
    (case a_way_back => k_is)
    (case l_way_back => k_is)
    (case c_way_back => k_is)
    (case k_way_back => k_is)
    (case a_no_result => k_is)
    (case l_no_result => k_is)
    (case c_no_result => k_is)
    (case k_no_result => k_is)
    (case a_result_of => k_is)
    (case l_result_of => k_is)
    (case c_result_of => k_is)
    (case k_result_of => k_is)
    (case a_newest_value => k_is)
    (case l_newest_value => k_is)
    (case c_newest_value => k_is)
    (case k_newest_value => k_is)
    (case a_Pipeline_init => k_is)
    (case i_Pipeline_init => k_is)
    (case l_Pipeline_init => k_is)
    (case c_Pipeline_init => k_is)
    (case k_Pipeline_init => k_is)
    (case a_cycle => k_is)
    (case i_cycle => k_is)
    (case l_cycle => k_is)
    (case c_cycle => k_is)
    (case k_cycle => k_is)
    (case a_write => k_is)
    (case i_write => k_is)
    (case l_write => k_is)
    (case c_write => k_is)
    (case k_write => k_is)
    (case a_use_memory => k_is)
    (case i_use_memory => k_is)
    (case l_use_memory => k_is)
    (case c_use_memory => k_is)
    (case k_use_memory => k_is)
    (case a_reckon => k_is)
    (case i_reckon => k_is)
    (case l_reckon => k_is)
    (case c_reckon => k_is)
    (case k_reckon => k_is)
    (case a_place_if_wrong => k_is)
    (case i_place_if_wrong => k_is)
    (case l_place_if_wrong => k_is)
    (case c_place_if_wrong => k_is)
    (case k_place_if_wrong => k_is)
    (case a_learn => k_is)
    (case i_learn => k_is)
    (case l_learn => k_is)
    (case c_learn => k_is)
    (case k_learn => k_is)
    (case a_lose_guessed => k_is)
    (case i_lose_guessed => k_is)
    (case l_lose_guessed => k_is)
    (case c_lose_guessed => k_is)
    (case k_lose_guessed => k_is)
    (case a_has_to_wait => k_is)
    (case i_has_to_wait => k_is)
    (case l_has_to_wait => k_is)
    (case c_has_to_wait => k_is)
    (case k_has_to_wait => k_is)
    (case a_read_registers => k_is)
    (case i_read_registers => k_is)
    (case l_read_registers => k_is)
    (case c_read_registers => k_is)
    (case k_read_registers => k_is)
    (case a_fetch => k_is)
    (case i_fetch => k_is)
    (case l_fetch => k_is)
    (case c_fetch => k_is)
    (case k_fetch => k_is)
    (case a_order_at => k_is)
    (case i_order_at => k_is)
    (case l_order_at => k_is)
    (case c_order_at => k_is)
    (case k_order_at => k_is)
    (case a_is_guessed_to_go => k_is)
    (case i_is_guessed_to_go => k_is)
    (case l_is_guessed_to_go => k_is)
    (case c_is_guessed_to_go => k_is)
    (case k_is_guessed_to_go => k_is)
    (case a_run => k_is)
    (case i_run => k_is)
    (case l_run => k_is)
    (case c_run => k_is)
    (case k_run => k_is)
    (case a_run_to_state => k_is)
    (case i_run_to_state => k_is)
    (case l_run_to_state => k_is)
    (case c_run_to_state => k_is)
    (case k_run_to_state => k_is)
    (case a_stages => k_is)
    (case i_stages => k_is)
    (case l_stages => k_is)
    (case c_stages => k_is)
    (case k_stages => k_is)
    (case a_state => k_is)
    (case i_state => k_is)
    (case l_state => k_is)
    (case c_state => k_is)
    (case k_state => k_is)
    (case a_is_in_state => k_is)
    (case i_is_in_state => k_is)
    (case l_is_in_state => k_is)
    (case c_is_in_state => k_is)
    (case k_is_in_state => k_is)
    (case a_counts => k_is)
    (case i_counts => k_is)
    (case l_counts => k_is)
    (case c_counts => k_is)
    (case k_counts => k_is)
    (case a_count_again => k_is)
    (case i_count_again => k_is)
    (case l_count_again => k_is)
    (case c_count_again => k_is)
    (case k_count_again => k_is)
    (case a_shown_place => k_is)
    (case l_shown_place => k_is)
    (case c_shown_place => k_is)
    (case k_shown_place => k_is)
    (case a_Machine_init => k_is)
    (case i_Machine_init => k_is)
    (case l_Machine_init => k_is)
    (case c_Machine_init => k_is)
    (case k_Machine_init => k_is)
    (case a_load => k_is)
    (case i_load => k_is)
    (case l_load => k_is)
    (case c_load => k_is)
    (case k_load => k_is)
    (case a_go => k_is)
    (case i_go => k_is)
    (case l_go => k_is)
    (case c_go => k_is)
    (case k_go => k_is)
    (case a_has_ended => k_is)
    (case i_has_ended => k_is)
    (case l_has_ended => k_is)
    (case c_has_ended => k_is)
    (case k_has_ended => k_is)
    (case a_shows => k_is)
    (case i_shows => k_is)
    (case l_shows => k_is)
    (case c_shows => k_is)
    (case k_shows => k_is)
    (case a_reg => k_is)
    (case i_reg => k_is)
    (case l_reg => k_is)
    (case c_reg => k_is)
    (case k_reg => k_is)
    (case a_mem => k_is)
    (case i_mem => k_is)
    (case l_mem => k_is)
    (case c_mem => k_is)
    (case k_mem => k_is)
    (case a_end_of_call => k_is)
    (case l_end_of_call => k_is)
    (case c_end_of_call => k_is)
    (case k_end_of_call => k_is)
    (case a_answer_of => k_is)
    (case l_answer_of => k_is)
    (case c_answer_of => k_is)
    (case k_answer_of => k_is)
    (case a_answers => k_is)
    (case l_answers => k_is)
    (case c_answers => k_is)
    (case k_answers => k_is)
    (case pgOrder => k_is)
    (case hdOrder => k_is)
    (case poOrder => k_is)
    (case saOrder => k_is)
    (case mkOrder => k_is)
    (case kcOrder => k_is)
    (case nOrder_place => k_is)
    (case nOrder_kind => k_is)
    (case nOrder_target => k_is)
    (case nOrder_first => k_is)
    (case nOrder_second => k_is)
    (case nOrder_number => k_is)
    (case nOrder_branches => k_is)
    (case nOrder_following => k_is)
    (case nOrder_aim => k_is)
    (case nOrder_guess_at => k_is)
    (case pgPipeline => k_is)
    (case hdPipeline => k_is)
    (case poPipeline => k_is)
    (case saPipeline => k_is)
    (case mkPipeline => k_is)
    (case kcPipeline => k_is)
    (case nPipeline_orders => k_is)
    (case nPipeline_hands_on => k_is)
    (case nPipeline_guesses_goings => k_is)
    (case nPipeline_registers => k_is)
    (case nPipeline_memory => k_is)
    (case nPipeline_guesses => k_is)
    (case nPipeline_place => k_is)
    (case nPipeline_fetches => k_is)
    (case nPipeline_to_read => k_is)
    (case nPipeline_to_reckon => k_is)
    (case nPipeline_in_memory => k_is)
    (case nPipeline_to_write => k_is)
    (case nPipeline_ended => k_is)
    (case nPipeline_cycles => k_is)
    (case nPipeline_done => k_is)
    (case nPipeline_waited => k_is)
    (case nPipeline_lost => k_is)
    (case pgMachine => k_is)
    (case hdMachine => k_is)
    (case poMachine => k_is)
    (case saMachine => k_is)
    (case mkMachine => k_is)
    (case kcMachine => k_is)
    (case nMachine_pipeline => k_is)
    (case nMachine_asked => k_is)
    (case qe => k_is)
    (case qo => k_is)
    (case qn => k_is)
    (case qm => k_is)
    (case g_ALL_BITS => k_is)
    (case g_SIGN_BIT => k_is)
    (case g_LOAD => k_is)
    (case g_STORE => k_is)
    (case g_IF_SAME => k_is)
    (case g_IF_OTHER => k_is)
    (case g_JUMP => k_is)
    (case g_END => k_is)
    (case g_FIRST_STRETCH => k_is)
    (case g_CALL_LOAD => k_is)
    (case g_CALL_GO => k_is)
    (case g_CALL_SHOWS => k_is)
    (case g_CALL_REG => k_is)
    (case g_MOST_ORDERS => k_is)
    (case g_MOST_CYCLES_AT_ONCE => k_is)
    (case g_MOST_CYCLES_IN_ALL => k_is)
    (case g_WRITING_KINDS => k_is)
    (case h_WRITING_KINDS => k_is)
    (case g_FIRST_READING_KINDS => k_is)
    (case h_FIRST_READING_KINDS => k_is)
    (case g_SECOND_READING_KINDS => k_is)
    (case h_SECOND_READING_KINDS => k_is)
    (case g_RESULTS => k_is)
    (case h_RESULTS => k_is)
    (case v_WRITING_KINDS => exact (.cons ⟨_, rfl⟩ (.cons ⟨_, rfl⟩ (.cons ⟨_, rfl⟩ (.cons ⟨_, rfl⟩ (.cons ⟨_, rfl⟩ (.cons ⟨_, rfl⟩ (.cons ⟨_, rfl⟩ (.cons ⟨_, rfl⟩ (.cons ⟨_, rfl⟩ .nil))))))))))
    (case v_FIRST_READING_KINDS => exact (.cons ⟨_, rfl⟩ (.cons ⟨_, rfl⟩ (.cons ⟨_, rfl⟩ (.cons ⟨_, rfl⟩ (.cons ⟨_, rfl⟩ (.cons ⟨_, rfl⟩ (.cons ⟨_, rfl⟩ (.cons ⟨_, rfl⟩ (.cons ⟨_, rfl⟩ (.cons ⟨_, rfl⟩ (.cons ⟨_, rfl⟩ .nil))))))))))))
    (case v_SECOND_READING_KINDS => exact (.cons ⟨_, rfl⟩ (.cons ⟨_, rfl⟩ (.cons ⟨_, rfl⟩ (.cons ⟨_, rfl⟩ (.cons ⟨_, rfl⟩ (.cons ⟨_, rfl⟩ (.cons ⟨_, rfl⟩ (.cons ⟨_, rfl⟩ (.cons ⟨_, rfl⟩ .nil))))))))))
    (case v_RESULTS => rfl)
    (case b_min => k_is)
    (case b_max => k_is)
    (case b_len => k_is)
    (case b_list => k_is)
    (case b_any => k_is)
    (case b_enumerate => k_is)
    (case neOP => decide)
    (case neOM => decide)
    (case nePM => decide)
