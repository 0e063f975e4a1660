import PyProof.Rows.All
import Wide.All
import OpenK.AllK
import Wide.FinOn
import PyProof.EqAt
import PyProof.EqKinds
import PyProof.TupleCall
import KE.BitLaws
import Open.SpecLaws
import KE.OsHead
import KE.OsGo
import PyFlatLaws
import PySem.Challenge.RW_turndrum_s01_answers
set_option Elab.async false
set_option linter.all false
set_option maxRecDepth 100000
namespace L2
open PySem PySem.Spec PyProof.Rows
/-- a key: an int or a str -/
abbrev Key := Sum Int Str
def keyIs : Key → Value → Bool
  | .inl k, v => Value.isInt k v
  | .inr x, v => Value.isStrOf x v
def keyH (w : World) : Key → Int
  | .inl k => hashInt k
  | .inr x => hashStr w x
theorem keyIs_shape : ∀ {k : Key} {v : Value}, keyIs k v = true → (∃ i t, k = Sum.inl i ∧ v = Value.int i t) ∨ (∃ x t, k = Sum.inr x ∧ v = Value.str x t)
  | .inl i, v, h => by
    obtain ⟨t, e⟩ := Value.isInt_shape (k := i) (v := v) h
    exact .inl ⟨i, t, rfl, e⟩
  | .inr x, v, h => by
    obtain ⟨t, e⟩ := Value.isStrOf_shape (x := x) (v := v) h
    exact .inr ⟨x, t, rfl, e⟩
theorem keyIs_int (i : Int) (t : Tok) : keyIs (.inl i) (.int i t) = true := by simp [keyIs, Value.isInt]
theorem keyIs_str (x : Str) (t : Tok) : keyIs (.inr x) (.str x t) = true := by simp [keyIs, Value.isStrOf]
theorem key_ll (a b : Int) : decide ((Sum.inl a : Key) = Sum.inl b) = (a == b) := by
  by_cases e : a = b
  · subst e; simp
  · have h : ¬ (Sum.inl a : Key) = Sum.inl b := fun q => e (Sum.inl.inj q)
    rw [decide_eq_false h]
    exact (beq_eq_false_iff_ne.mpr e).symm
theorem key_rr (a b : Str) : decide ((Sum.inr a : Key) = Sum.inr b) = decide (a = b) := by
  by_cases e : a = b
  · subst e; simp
  · have h : ¬ (Sum.inr a : Key) = Sum.inr b := fun q => e (Sum.inr.inj q)
    rw [decide_eq_false h, decide_eq_false e]
theorem key_lr (a : Int) (b : Str) : decide ((Sum.inl a : Key) = Sum.inr b) = false := decide_eq_false (fun q => nomatch q)
theorem key_rl (a : Str) (b : Int) : decide ((Sum.inr a : Key) = Sum.inl b) = false := decide_eq_false (fun q => nomatch q)
def mixKind (prog : Program) (w : World) : PySem.KeyKind prog w Key where
  is := keyIs
  hash := keyH w
  inj := fun v a b ha hb => by
    rcases keyIs_shape ha with ⟨i, t, rfl, rfl⟩ | ⟨x, t, rfl, rfl⟩
    · rcases keyIs_shape hb with ⟨j, u, rfl, e⟩ | ⟨y, u, rfl, e⟩
      · injection e with e1 _; rw [e1]
      · exact nomatch e
    · rcases keyIs_shape hb with ⟨j, u, rfl, e⟩ | ⟨y, u, rfl, e⟩
      · exact nomatch e
      · injection e with e1 _; rw [e1]
  byValue := fun k v h => by
    rcases keyIs_shape h with ⟨i, t, rfl, rfl⟩ | ⟨x, t, rfl, rfl⟩ <;> rfl
  pyHash := fun hv h => by
    rcases keyIs_shape hv with ⟨i, t, rfl, rfl⟩ | ⟨x, t, rfl, rfl⟩
    · exact wpAny_pyHash_int h
    · exact wpAny_pyHash_str h
  eqBool := fun hu hv h => by
    rcases keyIs_shape hu with ⟨i, t, rfl, rfl⟩ | ⟨x, t, rfl, rfl⟩
    · rcases keyIs_shape hv with ⟨j, u, rfl, rfl⟩ | ⟨y, u, rfl, rfl⟩
      · rw [key_ll] at h; exact wpAny_eqBool_int h
      · rw [key_lr] at h; exact SeqAt.EqAt.int_str i t y u _ _ _ _ h
    · rcases keyIs_shape hv with ⟨j, u, rfl, rfl⟩ | ⟨y, u, rfl, rfl⟩
      · rw [key_rl] at h; exact SeqAt.EqAt.str_int x t j u _ _ _ _ h
      · rw [key_rr] at h; exact wpAny_eqBool_str h
  «strs» := fun k x t v h => by
    rcases keyIs_shape h with ⟨i, u, rfl, e⟩ | ⟨y, u, rfl, e⟩
    · exact nomatch e
    · injection e with e1 _
      subst e1
      cases v <;> rfl
theorem mixKind_int (prog : Program) (w : World) (i : Int) (t : Tok) : (mixKind prog w).is (.inl i) (.int i t) = true := keyIs_int i t
theorem mixKind_str (prog : Program) (w : World) (x : Str) (t : Tok) : (mixKind prog w).is (.inr x) (.str x t) = true := keyIs_str x t
end L2
namespace L2
open PySem PySem.Spec PyProof.Rows
/-- a value, without the heap -/
inductive V where
  | non | bl (b : Bool) | int (i : Int) | str (x : Str) | byt (b : Array UInt8) | flt (b : UInt64) | ref (a : Addr) | ty (n : String)
  deriving DecidableEq
def RelV : V → Value → Prop
  | .non, u => u = Value.none
  | .bl b, u => u = Value.bool b
  | .int i, u => ∃ t, u = Value.int i t
  | .str x, u => ∃ t, u = Value.str x t
  | .byt b, u => ∃ t, u = Value.bytes b t
  | .flt b, u => ∃ t, u = Value.float b t
  | .ref a, u => u = Value.ref a
  | .ty n, u => u = Value.type n
abbrev Vals : List V → List Value → Prop := Paired RelV
theorem Vals.length {xs : List V} {us : List Value} (r : Vals xs us) : xs.length = us.length := Paired.length r
theorem Vals.get : ∀ {xs : List V} {us : List Value} {i : Nat} {x : V}, Vals xs us → xs[i]? = some x → ∃ u, us[i]? = some u ∧ RelV x u
  | _, _, _, _, .nil, e => by simp at e
  | _, _, 0, _, .cons r _, e => by simp at e; subst e; exact ⟨_, rfl, r⟩
  | _, _, i + 1, x, .cons _ t, e => by
    obtain ⟨u, h1, h2⟩ := Vals.get (i := i) (x := x) t (by simpa using e)
    exact ⟨u, by simpa using h1, h2⟩
theorem Vals.set {x : V} {u : Value} (r : RelV x u) : ∀ {xs : List V} {us : List Value} (i : Nat), Vals xs us → Vals (xs.set i x) (us.set i u)
  | _, _, _, .nil => .nil
  | _, _, 0, .cons _ t => .cons r t
  | _, _, i + 1, .cons q t => .cons q (Vals.set r i t)
theorem Vals.append : ∀ {xs ys : List V} {us ws : List Value}, Vals xs us → Vals ys ws → Vals (xs ++ ys) (us ++ ws)
  | _, _, _, _, .nil, s => s
  | _, _, _, _, .cons r t, s => .cons r (Vals.append t s)
theorem Vals.take : ∀ {xs : List V} {us : List Value} (n : Nat), Vals xs us → Vals (xs.take n) (us.take n)
  | _, _, 0, _ => .nil
  | _, _, _ + 1, .nil => .nil
  | _, _, n + 1, .cons r t => .cons r (Vals.take n t)
theorem Vals.drop : ∀ {xs : List V} {us : List Value} (n : Nat), Vals xs us → Vals (xs.drop n) (us.drop n)
  | _, _, 0, r => r
  | _, _, _ + 1, .nil => .nil
  | _, _, n + 1, .cons _ t => Vals.drop n t
def RelO : Option V → Option Value → Prop
  | some v, some u => RelV v u
  | none, none => True
  | _, _ => False
def KV {κ : Type} : List (κ × V) → List (κ × Value) → Prop := Paired fun (p : κ × V) (q : κ × Value) => p.1 = q.1 ∧ RelV p.2 q.2
/-- a key of a dict (00_mix): an int or a text -/
def kV : Key → V
  | .inl i => .int i
  | .inr x => .str x
/-- what stands at a tracked address -/
inductive HO where
  /-- a list -/
  | lst (xs : List V)
  /-- a tuple (never changes) -/
  | tup (xs : List V)
  /-- a dict whose keys are ints and texts; one whose keys are tuples of ints and texts (the empty one is both) -/
  | dK (kvs : List (Key × V)) | dT (kvs : List (List Key × V))
  /-- a set of ints: its members, its size -/
  | set (S : Int → Bool) (n : Nat)
  /-- an instance of the class at C, its dict at dx, its attributes -/
  | ins (C dx : Addr) (fs : List (Str × V))
  /-- the dict of the instance at x -/
  | own (x : Addr)
  /-- the dict of an exception -/
  | xd (fs : List (Str × V))
  /-- a bound method, f of x -/
  | met (f x : Addr)
  /-- a range object lo, lo + 1, .. below hi -/
  | rng (lo hi : Int)
  /-- a thing that is known to the object (the script; a dict while a loop walks it): read, never written while it is so -/
  | frz (o : Obj) (u : HO)
  /-- a code object's table -/
  | tbl (ps : Array Value)
  /-- any other thing, by what is true of its one object (a def of one's own: SetO a S n := HO.ext fun h => ..) -/
  | ext (φ : Heap → Prop)
abbrev Hp := Addr → Option HO
def upd (H : Hp) (a : Addr) (o : HO) : Hp := fun b => if b = a then some o else H b
theorem upd_same {H : Hp} {a : Addr} {o : HO} : upd H a o a = some o := by unfold upd; rw [if_pos rfl]
theorem upd_ne {H : Hp} {a b : Addr} {o : HO} (h : b ≠ a) : upd H a o b = H b := by unfold upd; rw [if_neg h]
/-- two objects of different content stand apart -/
theorem ne_of {H : Hp} {a b : Addr} {o u : HO} (h : H a = some o) (h' : H b = some u) (d : o ≠ u) : a ≠ b := by
  intro e; subst e; rw [h] at h'; exact d (Option.some.inj h')
theorem ne_of_none {H : Hp} {a b : Addr} {o : HO} (h : H a = some o) (h' : H b = none) : a ≠ b := by
  intro e; subst e; rw [h] at h'; cases h'
section
variable (P : Program) (w : World)
def ObjOk (H : Hp) (h : Heap) (a : Addr) : HO → Prop
  | .lst xs => xs.length ≤ sizeLine ∧ ∃ (its : List Value) (n : Nat), Vals xs its ∧ h.get? a = some { cls := .type "list", data := .seq its.toArray n }
  | .tup xs => xs.length ≤ sizeLine ∧ ∃ its : List Value, Vals xs its ∧ IsTup h a its.toArray
  | .dK kvs => kvs.length ≤ sizeLine ∧ (a == sysModules) = false ∧ ∃ vs, KV kvs vs ∧ h.DictOf (mixKind P w) a vs
  | .dT kvs => kvs.length ≤ sizeLine ∧ (a == sysModules) = false ∧ ∃ xs : List (List Key × Addr × Value),
      Paired (fun (p : List Key × V) (q : List Key × Addr × Value) => p.1 = q.1 ∧ H q.2.1 = some (.tup (p.1.map kV)) ∧ RelV p.2 q.2.2) kvs xs ∧
      ∃ o es ep, h.get? a = some o ∧ o.ExactDict ∧ o.data = .dict es ep ∧ es.toList = xs.map (entryOfKey (tupleKind (mixKind P w))) ∧ (xs.map (·.1)).Nodup
  | .set S n => h.SetOf (intKind P w) a S n
  | .ins C dx fs => H dx = some (.own a) ∧ fs.length ≤ 1000 ∧ dx ≠ a ∧ h.get? a = some (PySem.W.instObj C dx) ∧
      ∃ mA, h.Ns1 dx mA ∧ (∀ f, RelO (fs.lookup f) (mA f)) ∧ PySem.Within mA (fs.map (·.1))
  | .own _ => ∃ o, h.get? a = some o
  | .xd fs => ∃ mA, h.Ns1 a mA ∧ ∀ f, RelO (fs.lookup f) (mA f)
  | .rng lo hi => ∃ t u v, h.get? a = some { cls := .type "range", data := .fields #[.int lo t, .int hi u, .int 1 v] }
  | .frz o u => h.get? a = some o ∧ ObjOk H h a u
  | .tbl ps => h.get? a = some { cls := .none, data := .fields ps }
  | .met f x => h.get? a = some (PySem.W.methodObj (.ref f) (.ref x))
  | .ext φ => φ h ∧ (∃ o, h.get? a = some o) ∧ ∀ h1 h2 : Heap, φ h1 → (∀ o, h1.get? a = some o → h2.get? a = some o) → φ h2
/-- the abstract heap is held -/
def HOk (H : Hp) (h : Heap) : Prop := ∀ a o, H a = some o → ObjOk P w H h a o
end
section
variable {P : Program} {w : World} {H H' : Hp} {h h' : Heap} {a : Addr} {o : HO}
theorem ObjOk.lt (x : ObjOk P w H h a o) : a < h.objs.size := by
  cases o with
  | lst xs => obtain ⟨_, _, _, _, e⟩ := x; exact Heap.lt_size e
  | tup xs => obtain ⟨_, _, _, p⟩ := x; exact p.lt
  | dK kvs => obtain ⟨_, _, _, _, o, _, _, e, _⟩ := x; exact Heap.lt_size e
  | dT kvs => obtain ⟨_, _, _, _, o, _, _, e, _⟩ := x; exact Heap.lt_size e
  | set S n => obtain ⟨o, _, _, _, e, _⟩ := x; exact Heap.lt_size e
  | ins C dx fs => obtain ⟨_, _, _, e, _⟩ := x; exact Heap.lt_size e
  | own y => obtain ⟨_, e⟩ := x; exact Heap.lt_size e
  | xd fs => obtain ⟨_, ⟨_, _, _, e, _⟩, _⟩ := x; exact Heap.lt_size e
  | rng lo hi => obtain ⟨_, _, _, e⟩ := x; exact Heap.lt_size e
  | frz ob u => obtain ⟨e, _⟩ := x; exact Heap.lt_size e
  | tbl ps => exact Heap.lt_size (show h.get? a = some _ from x)
  | met f y => exact Heap.lt_size (show h.get? a = some _ from x)
  | ext φ => obtain ⟨_, ⟨_, e⟩, _⟩ := x; exact Heap.lt_size e
theorem Paired.mapP {α β : Type} {F G : α → β → Prop} : ∀ {l₁ : List α} {l₂ : List β}, Paired F l₁ l₂ → (∀ a b, F a b → G a b) → Paired G l₁ l₂
  | _, _, .nil, _ => .nil
  | _, _, .cons r t, f => .cons (f _ _ r) (Paired.mapP t f)
/-- what an object's description leans on: its own object, its own dict, the tuples -/
theorem ObjOk.stay (x : ObjOk P w H h a o) (k : ∀ b u, (b = a ∨ H b = some (.own a)) → h.get? b = some u → h'.get? b = some u)
    (ho : ∀ b, H b = some (.own a) → H' b = some (.own a)) (ht : ∀ b xs, H b = some (.tup xs) → H' b = some (.tup xs)) : ObjOk P w H' h' a o := by
  induction o with
  | lst xs => obtain ⟨z, its, n, r, e⟩ := x; exact ⟨z, its, n, r, k _ _ (.inl rfl) e⟩
  | tup xs => obtain ⟨z, its, r, ob, e, c⟩ := x; exact ⟨z, its, r, ob, k _ _ (.inl rfl) e, c⟩
  | dK kvs => obtain ⟨z, y, vs, r, ob, es, ep, e, c⟩ := x; exact ⟨z, y, vs, r, ob, es, ep, k _ _ (.inl rfl) e, c⟩
  | dT kvs =>
    obtain ⟨z, y, xs, r, ob, es, ep, e, c⟩ := x
    exact ⟨z, y, xs, Paired.mapP r fun p q z => ⟨z.1, ht _ _ z.2.1, z.2.2⟩, ob, es, ep, k _ _ (.inl rfl) e, c⟩
  | set S n => obtain ⟨ob, es, ep, t, e, c⟩ := x; exact ⟨ob, es, ep, t, k _ _ (.inl rfl) e, c⟩
  | ins C dx fs =>
    obtain ⟨d, z, ne, e, mA, ⟨od, es, ep, e2, c⟩, r⟩ := x
    exact ⟨ho _ d, z, ne, k _ _ (.inl rfl) e, mA, ⟨od, es, ep, k _ _ (.inr d) e2, c⟩, r⟩
  | own y => obtain ⟨ob, e⟩ := x; exact ⟨ob, k _ _ (.inl rfl) e⟩
  | xd fs => obtain ⟨mA, ⟨od, es, ep, e, c⟩, r⟩ := x; exact ⟨mA, ⟨od, es, ep, k _ _ (.inl rfl) e, c⟩, r⟩
  | rng lo hi => obtain ⟨t, u, v, e⟩ := x; exact ⟨t, u, v, k _ _ (.inl rfl) e⟩
  | frz ob u ih => obtain ⟨e, q⟩ := x; exact ⟨k _ _ (.inl rfl) e, ih q⟩
  | tbl ps =>
    have e : h.get? a = some { cls := .none, data := .fields ps } := x
    show h'.get? a = some { cls := .none, data := .fields ps }
    exact k a _ (.inl rfl) e
  | met f y =>
    have e : h.get? a = some (PySem.W.methodObj (.ref f) (.ref y)) := x
    show h'.get? a = some (PySem.W.methodObj (.ref f) (.ref y))
    exact k a _ (.inl rfl) e
  | ext φ => obtain ⟨p, ⟨o, e⟩, st⟩ := x; exact ⟨st _ _ p fun o q => k _ _ (.inl rfl) q, ⟨o, k _ _ (.inl rfl) e⟩, st⟩
theorem HOk.lt (x : HOk P w H h) (e : H a = some o) : a < h.objs.size := (x a o e).lt
theorem HOk.fresh (x : HOk P w H h) (e : h.objs.size ≤ a) : H a = none := by
  cases q : H a with
  | none => rfl
  | some u => exact absurd (Nat.lt_of_lt_of_le (x.lt q) e) (Nat.lt_irrefl _)
/-- every object of the heap is kept -/
theorem HOk.kept (x : HOk P w H h) (k : ∀ b u, h.get? b = some u → h'.get? b = some u) : HOk P w H h' := fun a o e =>
  (x a o e).stay (fun b u _ q => k b u q) (fun _ q => q) fun _ _ q => q
/-- a new object is laid and tracked -/
theorem HOk.laid (x : HOk P w H h) (k : ∀ b u, h.get? b = some u → h'.get? b = some u) (hp : h.objs.size ≤ a) (new : ObjOk P w (upd H a o) h' a o) : HOk P w (upd H a o) h' := fun b u e => by
  have hn := x.fresh hp
  by_cases hb : b = a
  · subst hb; rw [upd_same] at e; cases e; exact new
  · rw [upd_ne hb] at e
    exact (x b u e).stay (fun c v _ q => k c v q) (fun c q => by rw [upd_ne (ne_of_none q hn)]; exact q) fun c xs q => by rw [upd_ne (ne_of_none q hn)]; exact q
end
/-- what may be read as u: it is u, or a known u -/
def Rd (H : Hp) (a : Addr) (u : HO) : Prop := H a = some u ∨ ∃ o, H a = some (.frz o u)
theorem Rd.ok {P : Program} {w : World} {H : Hp} {h : Heap} {a : Addr} {u : HO} (r : Rd H a u) (x : HOk P w H h) : ObjOk P w H h a u := by
  rcases r with r | ⟨o, r⟩
  · exact x a u r
  · obtain ⟨_, q⟩ := x a _ r
    exact q
/-- what may be written -/
def Mut : Option HO → Prop
  | some (.lst _) => True
  | some (.dK _) => True
  | some (.dT _) => True
  | some (.set _ _) => True
  | some (.ins _ _ _) => True
  | some (.ext _) => True
  | _ => False
section
variable {P : Program} {w : World} {H : Hp} {h h' : Heap} {x e : Addr} {o' : HO}
/-- the object at e is changed: x itself, or the dict of the instance x -/
theorem HOk.write (ok : HOk P w H h) (mu : Mut (H x)) (he : e = x ∨ H e = some (.own x)) (k : ∀ b u, b ≠ e → h.get? b = some u → h'.get? b = some u) (heo : ∃ u, h'.get? e = some u)
    (new : ObjOk P w (upd H x o') h' x o') : HOk P w (upd H x o') h' := fun b u q => by
  have nown : ∀ c y, H c = some (.own y) → c ≠ x := fun c y r z => by subst z; rw [r] at mu; exact mu
  have ntup : ∀ c xs, H c = some (.tup xs) → c ≠ x := fun c xs r z => by subst z; rw [r] at mu; exact mu
  by_cases hb : b = x
  · subst hb; rw [upd_same] at q; cases q; exact new
  · rw [upd_ne hb] at q
    by_cases hbe : b = e
    · have q' : H b = some (.own x) := by
        rcases he with z | z
        · exact absurd (hbe.trans z) hb
        · rw [hbe]; exact z
      rw [q] at q'; cases q'
      obtain ⟨v, hv⟩ := heo
      exact ⟨v, by rw [hbe]; exact hv⟩
    · refine (ok b u q).stay (fun c v hc r => k c v ?_ r) (fun c r => by rw [upd_ne (nown c b r)]; exact r) fun c xs r => by rw [upd_ne (ntup c xs r)]; exact r
      rcases hc with rfl | hc
      · exact hbe
      · rintro rfl
        rcases he with z | z
        · exact nown c b hc z
        · rw [hc] at z; cases z; exact hb rfl
end
structure Un (fs ex : List Addr) (H H' : Hp) (h h' : Heap) : Prop where
  keep : ∀ b o, h.get? b = some o → H b = none → b ∉ fs → b ∉ ex → h'.get? b = some o
  slot : ∀ b o, h.get? b = some o → H b = none → b ∈ fs → b ∉ ex → ∃ sl, h'.get? b = some { o with slots := sl }
  free : ∀ b o, h.get? b = some o → H b = none → b ∉ ex → H' b = none
  there : ∀ b o, h.get? b = some o → b ∉ ex → ∃ o', h'.get? b = some o'
  tups : ∀ b xs, H b = some (.tup xs) → H' b = some (.tup xs)
  frzs : ∀ b o u, H b = some (.frz o u) → H' b = some (.frz o u)
  tbls : ∀ b ps, H b = some (.tbl ps) → ∃ more, H' b = some (.tbl (ps ++ more))
section
variable {fs fs' ex ex' : List Addr} {H H1 H2 : Hp} {h h1 h2 h' : Heap} {a x e : Addr} {o : HO}
theorem Un.any (u : Un fs ex H H1 h h1) {b : Addr} {ob : Obj} (q : h.get? b = some ob) (n : H b = none) (hx : b ∉ ex) : ∃ sl, h1.get? b = some { ob with slots := sl } := by
  by_cases hb : b ∈ fs
  · exact u.slot b ob q n hb hx
  · exact ⟨ob.slots, u.keep b ob q n hb hx⟩
theorem Un.kept (k : ∀ b u, h.get? b = some u → h'.get? b = some u) : Un fs ex H H h h' :=
  ⟨fun b ob q _ _ _ => k b ob q, fun b ob q _ _ _ => ⟨ob.slots, k b ob q⟩, fun _ _ _ n _ => n, fun b ob q _ => ⟨ob, k b ob q⟩, fun _ _ q => q, fun _ _ _ q => q, fun _ ps q => ⟨#[], by rw [q]; simp⟩⟩
theorem Un.refl : Un fs ex H H h h := Un.kept fun _ _ q => q
theorem Un.laid (k : ∀ b u, h.get? b = some u → h'.get? b = some u) (hp : h.objs.size ≤ a) (hn : H a = none) : Un fs ex H (upd H a o) h h' where
  keep := fun b u q _ _ _ => k b u q
  slot := fun b u q _ _ _ => ⟨u.slots, k b u q⟩
  free := fun b u q n _ => by rw [upd_ne (Nat.ne_of_lt (Nat.lt_of_lt_of_le (Heap.lt_size q) hp))]; exact n
  there := fun b u q _ => ⟨u, k b u q⟩
  tups := fun b xs q => by rw [upd_ne (ne_of_none q hn)]; exact q
  frzs := fun b u xs q => by rw [upd_ne (ne_of_none q hn)]; exact q
  tbls := fun b ps q => ⟨#[], by rw [upd_ne (ne_of_none q hn), q]; simp⟩
theorem Un.write (mu : Mut (H x)) (he : e = x ∨ H e = some (.own x)) (k : ∀ b u, b ≠ e → h.get? b = some u → h'.get? b = some u) (heo : ∃ u, h'.get? e = some u) : Un fs ex H (upd H x o) h h' := by
  have hx : ∀ b, H b = none → b ≠ x := fun b n z => by subst z; rw [n] at mu; exact mu
  have hb : ∀ b, H b = none → b ≠ e := fun b n z => by
    subst z
    rcases he with r | r
    · exact hx b n r
    · rw [n] at r; cases r
  have hm : ∀ b u, H b = some u → ¬ Mut (some u) → b ≠ x := fun b u q nm z => by subst z; rw [q] at mu; exact nm mu
  refine ⟨fun b u q n _ _ => k b u (hb b n) q, fun b u q n _ _ => ⟨u.slots, k b u (hb b n) q⟩, fun b u q n _ => by rw [upd_ne (hx b n)]; exact n, fun b u q _ => ?_,
    fun b xs q => by rw [upd_ne (hm b _ q fun z => z)]; exact q, fun b u xs q => by rw [upd_ne (hm b _ q fun z => z)]; exact q, fun b ps q => ⟨#[], by rw [upd_ne (hm b _ q fun z => z), q]; simp⟩⟩
  by_cases hbe : b = e
  · subst hbe; exact heo
  · exact ⟨u, k b u hbe q⟩
end
def trk (h : Heap) (H : Hp) : List Addr := (List.range h.objs.size).filter fun a => (H a).isSome
def hidT (h : Heap) (H : Hp) : Heap := PySem.W.hideAll h (trk h H)
theorem hidT_size (h : Heap) (H : Hp) : (hidT h H).objs.size = h.objs.size := PySem.W.hideAll_size _ _
theorem hidT_get {h : Heap} {H : Hp} {b : Addr} {o : Obj} (e : h.get? b = some o) (n : H b = none) : (hidT h H).get? b = some o :=
  PySem.W.hideAll_get _ e fun hm => by
    have q : (H b).isSome = true := (List.mem_filter.mp hm).2
    rw [n] at q; simp at q
theorem of_hidT {h : Heap} {H : Hp} {b : Addr} {o : Obj} (e : (hidT h H).get? b = some o) : h.get? b = some o ∧ H b = none := by
  have e' : h.get? b = some o := PySem.W.of_hideAll (trk h H) e
  refine ⟨e', ?_⟩
  cases q : H b with
  | none => rfl
  | some x =>
    have hm : b ∈ trk h H := List.mem_filter.mpr ⟨List.mem_range.mpr (Heap.lt_size e'), by simp [q]⟩
    have z : (hidT h H).get? b = none := PySem.W.hideAll_none (trk h H) hm
    rw [z] at e; cases e
end L2
namespace L2
open PySem PySem.Spec PyProof.Rows
/-- the module's facts, over the base: the heap at the law's entry without what is tracked there -/
structure Mod (K : PySem.W.Frag) (mg : Str → Option Value) (base : Heap) : Prop where
  kin : K.In base
  glob : base.Ns mainGlobals mg
  blt : ∃ mb, base.Ns builtinsNs mb ∧ ∀ x : Str, x ≠ "__name__" → mb x = bootBuiltins x
  nolimit : base.NoLimit
/-- the context: a def's body (or a comprehension's block) running. base: fixed through the whole law; s₀, H₀: the entry; outer: the frames whose slots others may change (a def's callers); stack: all frames that run;
   ex: iterators that were made ahead of the entry and are walked here (a comprehension's); fn: the names whose cells were made at the entry (a def: all; a comprehension's block: its own); calm: not within an except suite; pn: pins that every state bears; xe: what is wanted of an exception that leaves the code -/
structure Cx where
  prog : Program
  w : World
  K : PySem.W.Frag
  mg : Str → Option Value
  base : Heap
  A : Around
  N : List Str
  s_0 : Shared
  H_0 : Hp
  env : Env
  outer : List Env
  stack : List Env
  ex : List Addr
  fn : Str → Bool
  calm : Bool
  pn : List (Addr × Obj)
  xe : Value → Shared → Prop
/-- the callers' frames -/
def frs (l : List Env) : List Addr := l.filterMap (·.frame)
abbrev Cx.fs (X : Cx) : List Addr := frs X.outer
def Vis (sc : Scope) (x : Str) : Prop := sc.names.lookup x = some .local ∨ sc.names.lookup x = some .cell ∨ sc.names.lookup x = some .free
def Loc (sc : Scope) (x : Str) : Prop := sc.names.lookup x = some .local ∨ sc.names.lookup x = some .cell
def Look (env : Env) (h : Heap) (m : Str → Option Value) (x : Str) (u : Value) : Prop :=
  (env.kindOf x = some .local ∧ m x = some u) ∨ ((env.kindOf x = some .cell ∨ env.kindOf x = some .free) ∧ ∃ c, env.cells.lookup x = some c ∧ h.IsCell c (some u))
structure Cx.Ok (X : Cx) : Prop where
  mod : Mod X.K X.mg X.base
  kind : X.env.scope.kind = .function
  glob : X.env.globals = mainGlobals
  blt : X.env.builtins = builtinsNs
  above : X.s_0.heap.objs.size ≤ X.env.locals
  inj : ∀ x y c, X.env.cells.lookup x = some c → X.env.cells.lookup y = some c → x = y
  has : ∀ x, (X.env.kindOf x = some .cell ∨ X.env.kindOf x = some .free) → ∃ c, X.env.cells.lookup x = some c
  cab : ∀ x c, X.fn x = true → X.env.cells.lookup x = some c → X.s_0.heap.objs.size ≤ c
  hd : X.calm = true → X.A.handled = none
  frames : X.A.frames = some X.stack
  stk : X.stack = X.outer ∨ (X.stack = X.env :: X.outer ∧ X.env.frame = some X.env.locals)
  exf : ∀ b ∈ X.ex, b ≠ X.env.locals ∧ ∀ x c, X.env.cells.lookup x = some c → c ≠ b
  bs : ∀ b o, X.base.get? b = some o → X.s_0.heap.get? b = some o ∧ X.H_0 b = none
  bsz : X.base.objs.size ≤ X.s_0.heap.objs.size
  noex : ∀ b o, X.base.get? b = some o → b ∉ X.ex
  exfs : ∀ b ∈ X.ex, b ∉ X.fs
  funs : X.s_0.heap.FunFrames X.base X.outer
  frf : ∀ b ∈ X.fs, X.H_0 b = none
structure Inv (X : Cx) (pins : List (Addr × Obj)) (σ : List (Option V)) (H : Hp) (s : Shared) : Prop where
  ok : X.Ok
  os : s.os = X.s_0.os
  bare : AllBare s.gens
  base : Un X.fs X.ex X.H_0 H X.s_0.heap s.heap
  loc : ∃ m, s.heap.Ns X.env.locals m ∧ ∀ (i : Nat) (x : Str) (v : V), X.N[i]? = some x → σ[i]? = some (some v) → Vis X.env.scope x → ∃ u, RelV v u ∧ Look X.env s.heap m x u
  cell : ∀ x c, X.env.cells.lookup x = some c → ∃ v, s.heap.IsCell c v
  free : H X.env.locals = none
  freeC : ∀ x c, X.env.cells.lookup x = some c → H c = none
  pin : ∀ p ∈ X.pn ++ pins, s.heap.get? p.1 = some p.2 ∧ H p.1 = none ∧ p.1 ≠ X.env.locals ∧ p.1 ∉ X.fs ∧ ∀ v, p.2.data ≠ .cell v
  hok : HOk X.prog X.w H s.heap
  len : σ.length = X.N.length
section
variable {X : Cx} {pins : List (Addr × Obj)} {σ : List (Option V)} {H H' : Hp} {s : Shared} {h' : Heap}
theorem Cx.Ok.nofr (ok : X.Ok) {b : Addr} {o : Obj} (e : X.base.get? b = some o) : b ∉ X.fs := fun hb => by
  have := (ok.funs.mem hb).1
  rw [e] at this; cases this
theorem Inv.bs (I : Inv X pins σ H s) : ∀ b o, X.base.get? b = some o → s.heap.get? b = some o ∧ H b = none := fun b o e =>
  ⟨I.base.keep b o (I.ok.bs b o e).1 (I.ok.bs b o e).2 (I.ok.nofr e) (I.ok.noex b o e), I.base.free b o (I.ok.bs b o e).1 (I.ok.bs b o e).2 (I.ok.noex b o e)⟩
theorem Inv.bk (I : Inv X pins σ H s) : ∀ b o, X.base.get? b = some o → s.heap.get? b = some o := fun b o e => (I.bs b o e).1
theorem Inv.mod (I : Inv X pins σ H s) : Mod X.K X.mg X.base := I.ok.mod
theorem Inv.kIn (I : Inv X pins σ H s) : X.K.In s.heap := I.ok.mod.kin.keeps I.bk
theorem Inv.lt (I : Inv X pins σ H s) : X.env.locals < s.heap.objs.size := let ⟨_, hn, _⟩ := I.loc; hn.lt
theorem Inv.sz (I : Inv X pins σ H s) : X.s_0.heap.objs.size ≤ s.heap.objs.size := Nat.le_trans I.ok.above (Nat.le_of_lt I.lt)
theorem Inv.nofs (I : Inv X pins σ H s) {a : Addr} (h : s.heap.objs.size ≤ a) : a ∉ X.fs := fun hb => by
  obtain ⟨_, o, ho, _⟩ := I.ok.funs.mem hb
  exact absurd (Nat.lt_of_lt_of_le (Heap.lt_size ho) (Nat.le_trans I.sz h)) (Nat.lt_irrefl _)
theorem Inv.cne (I : Inv X pins σ H s) : ∀ x c, X.env.cells.lookup x = some c → c ≠ X.env.locals := fun x c e z => by
  obtain ⟨v, o, ho, hd⟩ := I.cell x c e
  obtain ⟨m, ⟨o', es, ep, ho', hd', _⟩, _⟩ := I.loc
  rw [z, ho'] at ho; cases ho; rw [hd'] at hd; cases hd
theorem Inv.funs (I : Inv X pins σ H s) : s.heap.FunFrames X.base X.outer := by
  have all : ∀ (l : List Env), (∀ b ∈ frs l, b ∈ X.fs) → X.s_0.heap.FunFrames X.base l → s.heap.FunFrames X.base l := by
    intro l
    induction l with
    | nil => intro _ _; trivial
    | cons env r ih =>
      intro hs hl
      obtain ⟨hk, ⟨L, o, hf, hn, ho, hd⟩, hr⟩ := hl
      have hL : L ∈ X.fs := hs L (by unfold frs; rw [List.filterMap_cons, hf]; exact List.mem_cons_self)
      obtain ⟨sl, e⟩ := I.base.slot L o ho (I.ok.frf L hL) hL fun z => I.ok.exfs L z hL
      exact ⟨hk, ⟨L, _, hf, hn, e, hd⟩, ih (fun b hb => hs b (by unfold frs; rw [List.filterMap_cons, hf]; exact List.mem_cons_of_mem _ hb)) hr⟩
  exact all X.outer (fun _ hb => hb) I.ok.funs
/-- the frames that run, for a call -/
theorem Inv.stack (I : Inv X pins σ H s) : s.heap.FunFrames X.base X.stack := by
  rcases I.ok.stk with e | ⟨e, hf⟩
  · rw [e]; exact I.funs
  · rw [e]
    obtain ⟨m, hn, _⟩ := I.loc
    refine .cons (by rw [I.ok.kind]; decide) hf hn ?_ I.funs
    exact Heap.get?_none_of_le (Nat.le_trans I.ok.bsz I.ok.above)
theorem Inv.stkSub (I : Inv X pins σ H s) : ∀ b ∈ frs X.stack, b ∈ X.env.locals :: X.fs := fun b hb => by
  rcases I.ok.stk with e | ⟨e, hf⟩
  · rw [e] at hb; exact List.mem_cons_of_mem _ hb
  · rw [e] at hb
    unfold frs at hb
    rw [List.filterMap_cons, hf] at hb
    exact hb
theorem Inv.stkFree (I : Inv X pins σ H s) : ∀ b ∈ frs X.stack, H b = none := fun b hb => by
  rcases List.mem_cons.mp (I.stkSub b hb) with e | hb
  · rw [e]; exact I.free
  · obtain ⟨_, o, ho, _⟩ := I.ok.funs.mem hb
    exact I.base.free b o ho (I.ok.frf b hb) fun z => I.ok.exfs b z hb
/-- THE STEP: the untracked objects but the frame and the records at ch are kept (the callers' frames up to slots), the frame's map is kept, the new abstract heap is held -/
theorem Inv.step {g' : Array GenState} {t' : Nat} {d' : Drawn} {ch : List Addr} (I : Inv X pins σ H s)
    (hch : ∀ b ∈ ch, (b ∈ X.ex ∨ X.s_0.heap.objs.size ≤ b) ∧ b ≠ X.env.locals ∧ (∀ x c, X.env.cells.lookup x = some c → c ≠ b) ∧ ∀ p ∈ X.pn ++ pins, p.1 ≠ b)
    (keep : ∀ b o, b ≠ X.env.locals → b ∉ X.fs → b ∉ ch → s.heap.get? b = some o → H b = none → h'.get? b = some o)
    (slot : ∀ b o, b ≠ X.env.locals → b ∈ X.fs → b ∉ ch → s.heap.get? b = some o → H b = none → ∃ sl, h'.get? b = some { o with slots := sl }) (free : ∀ b o, b ∉ ch → s.heap.get? b = some o → H b = none → H' b = none)
    (there : ∀ b o, b ∉ ch → s.heap.get? b = some o → ∃ o', h'.get? b = some o')
    (tups : ∀ b xs, H b = some (.tup xs) → H' b = some (.tup xs)) (frzs : ∀ b o u, H b = some (.frz o u) → H' b = some (.frz o u)) (tbls : ∀ b ps, H b = some (.tbl ps) → ∃ more, H' b = some (.tbl (ps ++ more)))
    (ns : ∀ m, s.heap.Ns X.env.locals m → h'.Ns X.env.locals m) (hok : HOk X.prog X.w H' h') (hg : AllBare g') :
    Inv X pins σ H' { s with heap := h', gens := g', drawn := d', toks := t' } := by
  have neL : ∀ b o, X.s_0.heap.get? b = some o → b ≠ X.env.locals := fun b o e => Nat.ne_of_lt (Nat.lt_of_lt_of_le (Heap.lt_size e) I.ok.above)
  have neC : ∀ b o, X.s_0.heap.get? b = some o → b ∉ X.ex → b ∉ ch := fun b o e hx hb => by
    rcases (hch b hb).1 with z | z
    · exact hx z
    · exact absurd (Nat.lt_of_lt_of_le (Heap.lt_size e) z) (Nat.lt_irrefl _)
  have cellK : ∀ x c, X.env.cells.lookup x = some c → ∀ v, s.heap.IsCell c v → h'.IsCell c v := fun x c e v ⟨o, ho, hd⟩ => by
    have nch : c ∉ ch := fun z => (hch c z).2.2.1 x c e rfl
    by_cases hc : c ∈ X.fs
    · obtain ⟨sl, q⟩ := slot c o (I.cne x c e) hc nch ho (I.freeC x c e)
      exact ⟨_, q, hd⟩
    · exact ⟨o, keep c o (I.cne x c e) hc nch ho (I.freeC x c e), hd⟩
  refine ⟨I.ok, I.os, hg, ⟨fun b o e n hb hx => ?_, fun b o e n hb hx => ?_, fun b o e n hx => ?_, fun b o e hx => ?_, fun b xs e => tups b xs (I.base.tups b xs e), fun b o xs e => frzs b o xs (I.base.frzs b o xs e), fun b ps e => ?_⟩, ?_, fun x c e => ?_, ?_, fun x c e => ?_, fun p hp => ?_, hok, I.len⟩
  · exact keep b o (neL b o e) hb (neC b o e hx) (I.base.keep b o e n hb hx) (I.base.free b o e n hx)
  · obtain ⟨sl, e1⟩ := I.base.slot b o e n hb hx
    obtain ⟨sl', e2⟩ := slot b _ (neL b o e) hb (neC b o e hx) e1 (I.base.free b o e n hx)
    exact ⟨sl', e2⟩
  · obtain ⟨o', e1⟩ := I.base.there b o e hx
    exact free b o' (neC b o e hx) e1 (I.base.free b o e n hx)
  · obtain ⟨o', e1⟩ := I.base.there b o e hx
    exact there b o' (neC b o e hx) e1
  · obtain ⟨m1, e1⟩ := I.base.tbls b ps e
    obtain ⟨m2, e2⟩ := tbls b _ e1
    exact ⟨m1 ++ m2, by rw [e2, Array.append_assoc]⟩
  · obtain ⟨m, hn, hl⟩ := I.loc
    refine ⟨m, ns m hn, fun i x v e1 e2 e3 => ?_⟩
    obtain ⟨u, r, l⟩ := hl i x v e1 e2 e3
    refine ⟨u, r, ?_⟩
    rcases l with l | ⟨k, c, e, z⟩
    · exact .inl l
    · exact .inr ⟨k, c, e, cellK x c e _ z⟩
  · obtain ⟨v, z⟩ := I.cell x c e
    exact ⟨v, cellK x c e v z⟩
  · obtain ⟨m, ⟨o, _, _, ho, _⟩, _⟩ := I.loc
    exact free _ o (fun z => (hch _ z).2.1 rfl) ho I.free
  · obtain ⟨v, o, ho, hd⟩ := I.cell x c e
    exact free c o (fun z => (hch c z).2.2.1 x c e rfl) ho (I.freeC x c e)
  · obtain ⟨e, n, ne, nf, d⟩ := I.pin p hp
    have nch : p.1 ∉ ch := fun z => (hch p.1 z).2.2.2 p hp rfl
    exact ⟨keep p.1 p.2 ne nf nch e n, free p.1 p.2 nch e n, ne, nf, d⟩
/-- .. where the frame's own object is kept too -/
theorem Inv.un {t' : Nat} (I : Inv X pins σ H s) (u : Un X.fs [] H H' s.heap h') (hok : HOk X.prog X.w H' h') : Inv X pins σ H' { s with heap := h', toks := t' } := by
  obtain ⟨m, ⟨o, es, ep, ho, r⟩, _⟩ := id I.loc
  obtain ⟨sl, hL⟩ := u.any ho I.free (by simp)
  exact I.step (g' := s.gens) (d' := s.drawn) (ch := []) (fun _ z => nomatch z) (fun b o _ hb _ e n => u.keep b o e n hb (by simp)) (fun b o _ hb _ e n => u.slot b o e n hb (by simp)) (fun b o _ e n => u.free b o e n (by simp)) (fun b o _ e => u.there b o e (by simp)) u.tups u.frzs u.tbls (fun m' hm => by
    obtain ⟨o', es', ep', ho', r'⟩ := hm
    rw [ho] at ho'; cases ho'
    exact ⟨_, es', ep', hL, r'⟩) hok I.bare
/-- behind a call (or a comprehension's block): the slots of this frame may have changed too, the records at ch may have turned -/
theorem Inv.call {g' : Array GenState} {t' : Nat} {d' : Drawn} {ch : List Addr} (I : Inv X pins σ H s) (u : Un (frs X.stack) ch H H' s.heap h') (hok : HOk X.prog X.w H' h') (hg : AllBare g')
    (hch : ∀ b ∈ ch, (b ∈ X.ex ∨ X.s_0.heap.objs.size ≤ b) ∧ b ≠ X.env.locals ∧ (∀ x c, X.env.cells.lookup x = some c → c ≠ b) ∧ ∀ p ∈ X.pn ++ pins, p.1 ≠ b) :
    Inv X pins σ H' { s with heap := h', gens := g', drawn := d', toks := t' } := by
  obtain ⟨m, ⟨o, es, ep, ho, r⟩, _⟩ := id I.loc
  obtain ⟨sl, hL⟩ := u.any ho I.free fun z => (hch _ z).2.1 rfl
  exact I.step (ch := ch) hch (fun b o hL hb hc e n => u.keep b o e n (fun z => (List.mem_cons.mp (I.stkSub b z)).elim hL hb) hc) (fun b o _ _ hc e n => u.any e n hc) (fun b o hc e n => u.free b o e n hc) (fun b o hc e => u.there b o e hc) u.tups u.frzs u.tbls (fun m' hm => by
    obtain ⟨o', es', ep', ho', r'⟩ := hm
    rw [ho] at ho'; cases ho'
    exact ⟨_, es', ep', hL, r'⟩) hok hg
/-- an untracked record of ours (an iterator) has turned -/
theorem Inv.turned {t' : Nat} {it : Addr} (I : Inv X pins σ H s) (k : ∀ b o, b ≠ it → s.heap.get? b = some o → h'.get? b = some o) (hn : H it = none) (hL : it ≠ X.env.locals)
    (h1 : it ∈ X.ex ∨ X.s_0.heap.objs.size ≤ it) (h2 : ∀ x c, X.env.cells.lookup x = some c → c ≠ it) (h3 : ∀ p ∈ X.pn ++ pins, p.1 ≠ it) : Inv X pins σ H { s with heap := h', toks := t' } := by
  have nit : ∀ b u, H b = some u → b ≠ it := fun b u e z => by rw [z, hn] at e; cases e
  refine I.step (g' := s.gens) (d' := s.drawn) (ch := [it]) (fun b hb => ?_) (fun b o _ _ hc e _ => k b o (fun z => hc (by simp [z])) e) (fun b o _ _ hc e _ => ⟨o.slots, k b o (fun z => hc (by simp [z])) e⟩) (fun _ _ _ _ n => n)
    (fun b o hc e => ⟨o, k b o (fun z => hc (by simp [z])) e⟩) (fun _ _ e => e) (fun _ _ _ e => e) (fun b ps e => ⟨#[], by rw [e]; simp⟩) (fun m hm => ?_) (fun b u e => ?_) I.bare
  · have e : b = it := by simpa using hb
    subst e
    exact ⟨h1, hL, h2, h3⟩
  · obtain ⟨o, es, ep, ho, r⟩ := hm
    exact ⟨o, es, ep, k _ o (Ne.symm hL) ho, r⟩
  · refine (I.hok b u e).stay (fun c v hc q => k c v ?_ q) (fun _ q => q) fun _ _ q => q
    rcases hc with z | z
    · rw [z]; exact nit b u e
    · exact nit c _ z
theorem Inv.tok (I : Inv X pins σ H s) (t : Nat) : Inv X pins σ H { s with toks := t } := I.un (h' := s.heap) (t' := t) Un.refl I.hok
/-- all objects kept -/
theorem Inv.kept {t' : Nat} (I : Inv X pins σ H s) (k : ∀ b u, s.heap.get? b = some u → h'.get? b = some u) : Inv X pins σ H { s with heap := h', toks := t' } := I.un (Un.kept k) (I.hok.kept k)
/-- a new object laid and tracked -/
theorem Inv.laid {a : Addr} {o : HO} {t' : Nat} (I : Inv X pins σ H s) (k : ∀ b u, s.heap.get? b = some u → h'.get? b = some u) (hp : s.heap.objs.size ≤ a) (new : ObjOk X.prog X.w (upd H a o) h' a o) :
    Inv X pins σ (upd H a o) { s with heap := h', toks := t' } := I.un (Un.laid k hp (I.hok.fresh hp)) (I.hok.laid k hp new)
/-- an object written -/
theorem Inv.write {x e : Addr} {o : HO} {t' : Nat} (I : Inv X pins σ H s) (mu : Mut (H x)) (he : e = x ∨ H e = some (.own x)) (k : ∀ b u, b ≠ e → s.heap.get? b = some u → h'.get? b = some u) (heo : ∃ u, h'.get? e = some u)
    (new : ObjOk X.prog X.w (upd H x o) h' x o) : Inv X pins σ (upd H x o) { s with heap := h', toks := t' } := I.un (Un.write mu he k heo) (I.hok.write mu he k heo new)
/-- forgetting slots, pins -/
theorem Inv.weak {σ' : List (Option V)} (I : Inv X pins σ H s) (hl : σ'.length = σ.length) (w : ∀ (i : Nat) v, σ'[i]? = some (some v) → σ[i]? = some (some v)) : Inv X pins σ' H s :=
  ⟨I.ok, I.os, I.bare, I.base, let ⟨m, hn, hl'⟩ := I.loc; ⟨m, hn, fun i x v e1 e2 e3 => hl' i x v e1 (w i v e2) e3⟩, I.cell, I.free, I.freeC, I.pin, I.hok, hl.trans I.len⟩
theorem Inv.pins_of {pins' : List (Addr × Obj)} (I : Inv X pins σ H s) (h : ∀ p ∈ pins', s.heap.get? p.1 = some p.2 ∧ H p.1 = none ∧ p.1 ≠ X.env.locals ∧ p.1 ∉ X.fs ∧ ∀ v, p.2.data ≠ .cell v) : Inv X pins' σ H s :=
  ⟨I.ok, I.os, I.bare, I.base, I.loc, I.cell, I.free, I.freeC, fun p hp => (List.mem_append.mp hp).elim (fun z => I.pin p (List.mem_append_left _ z)) (h p), I.hok, I.len⟩
theorem nodup_ix {N : List Str} (hN : N.Nodup) {i j : Nat} {x : Str} (a : N[i]? = some x) (b : N[j]? = some x) : i = j := by
  obtain ⟨h1, e1⟩ := List.getElem?_eq_some_iff.mp a
  obtain ⟨h2, e2⟩ := List.getElem?_eq_some_iff.mp b
  exact (List.getElem_inj hN).mp (e1.trans e2.symm)
/-- a name is stored; what changed -/
theorem store_ok2 {M : Model} {A : Around} {E : Value → Shared → Prop} {i : Nat} {x : Str} {v : V} {u : Value} {Q : Unit → Shared → Prop} (I : Inv X pins σ H s) (hN : X.N.Nodup) (hi : X.N[i]? = some x) (hx : Loc X.env.scope x) (r : RelV v u)
    (h : ∀ s', Inv X pins (σ.set i (some v)) H s' → (∃ a, Heap.SameBut a s.heap s'.heap ∧ (a = X.env.locals ∨ X.env.cells.lookup x = some a)) → Q () s') (hf : X.fn x = true ∨ X.env.scope.names.lookup x = some .local := by first | exact .inl rfl | exact .inr rfl | assumption) : wpAny M A (storeName X.env x u) Q E s := by
  obtain ⟨m, hn, hl⟩ := id I.loc
  have hcls : (X.env.scope.kind == .class || (X.env.scope.kind == .module && X.env.locals != X.env.globals)) = false := by rw [I.ok.kind]; rfl
  have hiσ : i < σ.length := by rw [I.len]; exact (List.getElem?_eq_some_iff.mp hi).1
  have cne := I.cne
  have tracked : ∀ {a : Addr} {h' : Heap}, (∃ o, s.heap.get? a = some o ∧ H a = none) → Heap.SameBut a s.heap h' → HOk X.prog X.w H h' := fun {a h'} ha hs b ob e => by
    obtain ⟨_, _, hfree⟩ := ha
    refine (I.hok b ob e).stay (fun c w' hc q => (hs.2 c ?_).trans q) (fun _ q => q) fun _ _ q => q
    rintro rfl
    rcases hc with rfl | hc
    · rw [hfree] at e; cases e
    · rw [hfree] at hc; cases hc
  rcases hx with hk | hk
  · refine wpAny_storeName_local hk hn (fun h' hn' hs => ?_) hcls
    obtain ⟨oL, _, _, hoL, _⟩ := id hn
    refine h _ ⟨I.ok, I.os, I.bare, ⟨fun b o e n hb hx => ?_, fun b o e n hb hx => ?_, I.base.free, fun b o e hx => ?_, I.base.tups, I.base.frzs, I.base.tbls⟩, ⟨_, hn', fun j y v' e1 e2 e3 => ?_⟩, fun y c e => ?_, I.free, I.freeC, fun p hp => ?_, tracked ⟨oL, hoL, I.free⟩ hs, by simpa using I.len⟩ ⟨_, hs, .inl rfl⟩
    · exact (hs.2 b (Nat.ne_of_lt (Nat.lt_of_lt_of_le (Heap.lt_size e) I.ok.above))).trans (I.base.keep b o e n hb hx)
    · obtain ⟨sl, e1⟩ := I.base.slot b o e n hb hx
      exact ⟨sl, (hs.2 b (Nat.ne_of_lt (Nat.lt_of_lt_of_le (Heap.lt_size e) I.ok.above))).trans e1⟩
    · obtain ⟨o', e1⟩ := I.base.there b o e hx
      exact ⟨o', (hs.2 b (Nat.ne_of_lt (Nat.lt_of_lt_of_le (Heap.lt_size e) I.ok.above))).trans e1⟩
    · by_cases hj : j = i
      · subst hj
        rw [hi] at e1; cases e1
        rw [List.getElem?_set_self hiσ] at e2
        cases e2
        exact ⟨u, r, .inl ⟨hk, by simp⟩⟩
      · rw [List.getElem?_set_ne (Ne.symm hj)] at e2
        obtain ⟨u', r', q⟩ := hl j y v' e1 e2 e3
        refine ⟨u', r', ?_⟩
        rcases q with ⟨k, e⟩ | ⟨k, c, e, z⟩
        · refine .inl ⟨k, ?_⟩
          have : y ≠ x := fun e => hj (nodup_ix hN e1 (e ▸ hi))
          simp [this, e]
        · exact .inr ⟨k, c, e, z.sameBut hs (cne y c e)⟩
    · obtain ⟨w', z⟩ := I.cell y c e
      exact ⟨w', z.sameBut hs (cne y c e)⟩
    · obtain ⟨e, n, ne, nf, d⟩ := I.pin p hp
      exact ⟨(hs.2 p.1 ne).trans e, n, ne, nf, d⟩
  · have hfn : X.fn x = true := by
      rcases hf with z | z
      · exact z
      · rw [z] at hk; cases hk
    obtain ⟨c, hc⟩ := I.ok.has x (.inl hk)
    obtain ⟨w', z⟩ := I.cell x c hc
    refine wpAny_storeName_cell I.ok.kind hk hc z (fun h' hc' hs => ?_)
    obtain ⟨oc, hoc, hocd⟩ := id z
    refine h { s with heap := h' } ⟨I.ok, I.os, I.bare, ⟨fun b o e n hb hx => ?_, fun b o e n hb hx => ?_, I.base.free, fun b o e hx => ?_, I.base.tups, I.base.frzs, I.base.tbls⟩, ⟨m, hn.sameBut hs (Ne.symm (cne x c hc)), fun j y v' e1 e2 e3 => ?_⟩, fun y c' e => ?_, I.free, I.freeC, fun p hp => ?_, tracked ⟨oc, hoc, I.freeC x c hc⟩ hs, by simpa using I.len⟩ ⟨c, hs, .inr hc⟩
    · exact (hs.2 b (Nat.ne_of_lt (Nat.lt_of_lt_of_le (Heap.lt_size e) (I.ok.cab x c hfn hc)))).trans (I.base.keep b o e n hb hx)
    · obtain ⟨sl, e1⟩ := I.base.slot b o e n hb hx
      exact ⟨sl, (hs.2 b (Nat.ne_of_lt (Nat.lt_of_lt_of_le (Heap.lt_size e) (I.ok.cab x c hfn hc)))).trans e1⟩
    · obtain ⟨o', e1⟩ := I.base.there b o e hx
      exact ⟨o', (hs.2 b (Nat.ne_of_lt (Nat.lt_of_lt_of_le (Heap.lt_size e) (I.ok.cab x c hfn hc)))).trans e1⟩
    · by_cases hj : j = i
      · subst hj
        rw [hi] at e1; cases e1
        rw [List.getElem?_set_self hiσ] at e2
        cases e2
        exact ⟨u, r, .inr ⟨.inl hk, c, hc, hc'⟩⟩
      · rw [List.getElem?_set_ne (Ne.symm hj)] at e2
        obtain ⟨u', r', q⟩ := hl j y v' e1 e2 e3
        refine ⟨u', r', ?_⟩
        rcases q with q | ⟨k, c', e, z'⟩
        · exact .inl q
        · refine .inr ⟨k, c', e, z'.sameBut hs ?_⟩
          rintro rfl
          exact hj (nodup_ix hN e1 (I.ok.inj _ _ _ e hc ▸ hi))
    · by_cases hcc : c' = c
      · subst hcc; exact ⟨_, hc'⟩
      · obtain ⟨w2, z2⟩ := I.cell y c' e
        exact ⟨w2, z2.sameBut hs hcc⟩
    · obtain ⟨e, n, ne, nf, d⟩ := I.pin p hp
      refine ⟨(hs.2 p.1 ?_).trans e, n, ne, nf, d⟩
      intro q
      rw [q, hoc] at e
      have q' : oc = p.2 := Option.some.inj e
      exact d w' (by rw [← q']; exact hocd)
theorem store_ok {M : Model} {A : Around} {E : Value → Shared → Prop} {i : Nat} {x : Str} {v : V} {u : Value} {Q : Unit → Shared → Prop} (I : Inv X pins σ H s) (hN : X.N.Nodup) (hi : X.N[i]? = some x) (hx : Loc X.env.scope x) (r : RelV v u)
    (h : ∀ s', Inv X pins (σ.set i (some v)) H s' → Q () s') (hf : X.fn x = true ∨ X.env.scope.names.lookup x = some .local := by first | exact .inl rfl | exact .inr rfl | assumption) : wpAny M A (storeName X.env x u) Q E s :=
  store_ok2 I hN hi hx r (fun s' I' _ => h s' I') hf
/-- behind a call or a block, the state as it is -/
theorem Inv.call' {s' : Shared} {ch : List Addr} (I : Inv X pins σ H s) (ho : s'.os = s.os) (u : Un (frs X.stack) ch H H' s.heap s'.heap) (hok : HOk X.prog X.w H' s'.heap) (hg : AllBare s'.gens)
    (hch : ∀ b ∈ ch, (b ∈ X.ex ∨ X.s_0.heap.objs.size ≤ b) ∧ b ≠ X.env.locals ∧ (∀ x c, X.env.cells.lookup x = some c → c ≠ b) ∧ ∀ p ∈ X.pn ++ pins, p.1 ≠ b) : Inv X pins σ H' s' := by
  obtain ⟨h', g', d', t', o'⟩ := s'
  have e : o' = s.os := ho
  subst e
  exact I.call (g' := g') (t' := t') (d' := d') u hok hg hch
end
/-- an exception: its class, its own dict's address (where it has one), the abstract heap behind it -/
abbrev XK := Value → Option Addr → Hp → Prop
abbrev St := List (Option V)
abbrev VK := V → Hp → Prop
/-- an expression's reading; a test's; an argument list's -/
abbrev TE := St → Hp → VK → Prop
abbrev TT := St → Hp → (Bool → Hp → Prop) → Prop
abbrev TA := St → Hp → (List V → Hp → Prop) → Prop
/-- what is wanted behind a statement -/
structure Ends where
  nx : St → Hp → Prop
  rt : VK
  bk : St → Hp → Prop := fun _ _ => False
  ct : St → Hp → Prop := fun _ _ => False
abbrev TS := Ends → St → Hp → Prop
def EP (X : Cx) (pins : List (Addr × Obj)) (σ : St) (Q : VK) (u : Value) (s' : Shared) : Prop := ∃ v H', Inv X pins σ H' s' ∧ RelV v u ∧ Q v H'
def TP (X : Cx) (pins : List (Addr × Obj)) (σ : St) (Q : Bool → Hp → Prop) (b : Bool) (s' : Shared) : Prop := ∃ H', Inv X pins σ H' s' ∧ Q b H'
def AP (X : Cx) (pins : List (Addr × Obj)) (σ : St) (Q : List V → Hp → Prop) (us : List Value) (s' : Shared) : Prop := ∃ vs H', Inv X pins σ H' s' ∧ Vals vs us ∧ Q vs H'
def SP (X : Cx) (pins : List (Addr × Obj)) (D : Ends) (f : Flow) (s' : Shared) : Prop :=
  match f with
  | .next => ∃ σ' H', Inv X pins σ' H' s' ∧ D.nx σ' H'
  | .brk => ∃ σ' H', Inv X pins σ' H' s' ∧ D.bk σ' H'
  | .cont => ∃ σ' H', Inv X pins σ' H' s' ∧ D.ct σ' H'
  | .ret u => ∃ v σ' H', Inv X pins σ' H' s' ∧ RelV v u ∧ D.rt v H'
def PE (X : Cx) (e : Expr) (t : TE) : Prop :=
  ∀ (pins : List (Addr × Obj)) (s : Shared) (σ : St) (H : Hp) (Q : VK), Inv X pins σ H s → t σ H Q → wpAny (model X.prog X.w) X.A (eval e X.env) (EP X pins σ Q) X.xe s
def PT (X : Cx) (e : Expr) (t : TT) : Prop :=
  ∀ (pins : List (Addr × Obj)) (s : Shared) (σ : St) (H : Hp) (Q : Bool → Hp → Prop), Inv X pins σ H s → t σ H Q → wpAny (model X.prog X.w) X.A (isTrue e X.env (eval e X.env)) (TP X pins σ Q) X.xe s
/-- a test whatever its 'whole' is (and, or) -/
def PW (X : Cx) (e : Expr) (t : TT) : Prop :=
  ∀ (whole : Sem Value) (pins : List (Addr × Obj)) (s : Shared) (σ : St) (H : Hp) (Q : Bool → Hp → Prop), Inv X pins σ H s → t σ H Q → wpAny (model X.prog X.w) X.A (isTrue e X.env whole) (TP X pins σ Q) X.xe s
theorem PW.pt {X : Cx} {e : Expr} {t : TT} (h : PW X e t) : PT X e t := h _
/-- an argument list (no star), from the left -/
def PA (X : Cx) (es : List Expr) (t : TA) : Prop :=
  ∀ (pos : Pos) (pins : List (Addr × Obj)) (s : Shared) (σ : St) (H : Hp) (Q : List V → Hp → Prop), Inv X pins σ H s → t σ H Q → wpAny (model X.prog X.w) X.A (spliced (backTo pos (starEach es X.env))) (AP X pins σ Q) X.xe s
def PS (X : Cx) (st : Stmt) (t : TS) : Prop :=
  ∀ (pins : List (Addr × Obj)) (s : Shared) (σ : St) (H : Hp) (D : Ends), Inv X pins σ H s → t D σ H → wpAny (model X.prog X.w) X.A (exec st X.env) (SP X pins D) X.xe s
def PSs (X : Cx) (st : List Stmt) (t : TS) : Prop :=
  ∀ (pins : List (Addr × Obj)) (s : Shared) (σ : St) (H : Hp) (D : Ends), Inv X pins σ H s → t D σ H → wpAny (model X.prog X.w) X.A (execs st X.env) (SP X pins D) X.xe s
/-- weaken the end -/
theorem thn {α : Type} {t : Sem α} {Q Q' : α → Shared → Prop} {M : Model} {A : Around} {E : Value → Shared → Prop} {s : Shared} (h : wpAny M A t Q E s) (hQ : ∀ a s, Q a s → Q' a s) : wpAny M A t Q' E s := wpAny_mono h hQ fun _ _ x => x
end L2
namespace L2
open PySem PySem.Spec PyProof.Rows
section
variable {X : Cx}
def tVar (i : Nat) : TE := fun σ H Q => ∃ v, σ[i]? = some (some v) ∧ Q v H
def tC (v : V) : TE := fun _ H Q => Q v H
theorem pe_var {i : Nat} {x : Str} {pos : Pos} (hN : X.N[i]? = some x) (hv : Vis X.env.scope x) (hd : (x == ("__debug__" : Str)) = false := by decide) (hcd : (x == ("__classdict__" : Str)) = false := by decide) : PE X (.Name x pos) (tVar i) := by
  intro pins s σ H Q I h
  obtain ⟨v, e, h⟩ := h
  obtain ⟨m, hn, hl⟩ := I.loc
  obtain ⟨u, r, l⟩ := hl i x v hN e hv
  have fin : EP X pins σ Q u s := ⟨v, H, I, r, h⟩
  rcases l with ⟨hk, hm⟩ | ⟨hk, c, hc, hcell⟩
  · exact wpAny_Name (wpAny_loadName_local I.ok.kind hk hn hm fin) hd
  · rcases hk with hk | hk
    · exact wpAny_Name (wpAny_loadName_cell I.ok.kind hk hc hcell fin) hd
    · exact wpAny_Name (wpAny_loadName_free I.ok.kind hk hc hcell fin hcd) hd
theorem pe_int {i j pos} : PE X (.Constant (.int i) j pos) (tC (.int i)) := fun _ _ _ H _ I h => wpAny_Constant_int ⟨.int i, H, I.tok _, ⟨_, rfl⟩, h⟩
theorem pe_bl {b j pos} : PE X (.Constant (.bool b) j pos) (tC (.bl b)) := fun _ _ _ H _ I h => Constant_bool ⟨.bl b, H, I, rfl, h⟩
theorem pe_str {x j pos} : PE X (.Constant (.str x) j pos) (tC (.str x)) := fun _ _ _ H _ I h => Calls.Constant_str ⟨.str x, H, I.tok _, ⟨_, rfl⟩, h⟩
/-- a global name of the def -/
def Gl (X : Cx) (x : Str) : Prop := X.env.kindOf x = some .globalImplicit
theorem ld_glob {E : Value → Shared → Prop} {pins : List (Addr × Obj)} {s : Shared} {σ : St} {H : Hp} {x : Str} {u : Value} {pos : Pos} {Q : Value → Shared → Prop} (I : Inv X pins σ H s) (hg : Gl X x) (hm : X.mg x = some u) (h : Q u s)
    (hd : (x == ("__debug__" : Str)) = false := by decide) : wpAny (model X.prog X.w) X.A (eval (.Name x pos) X.env) Q E s :=
  Calls.Name_function_global I.ok.kind hg (Calls.loadGlobal_global (by rw [I.ok.glob]; exact I.mod.glob.keeps I.bk) hm h) hd
theorem ld_blt {E : Value → Shared → Prop} {pins : List (Addr × Obj)} {s : Shared} {σ : St} {H : Hp} {x : Str} {u : Value} {pos : Pos} {Q : Value → Shared → Prop} (I : Inv X pins σ H s) (hg : Gl X x) (hm : X.mg x = none) (hv : bootBuiltins x = some u) (h : Q u s)
    (hn : x ≠ "__name__" := by decide) (hd : (x == ("__debug__" : Str)) = false := by decide) : wpAny (model X.prog X.w) X.A (eval (.Name x pos) X.env) Q E s := by
  obtain ⟨mb, h1, h2⟩ := I.mod.blt
  exact Calls.Name_function_global I.ok.kind hg (Calls.loadGlobal_builtin (by rw [I.ok.glob]; exact I.mod.glob.keeps I.bk) hm (by rw [I.ok.blt]; exact h1.keeps I.bk) ((h2 x hn).trans hv) h) hd
/-- a module's constant, a class, a function, as a value -/
theorem pe_glob {x : Str} {v : V} {u : Value} {pos : Pos} (hg : Gl X x) (hm : X.mg x = some u) (r : RelV v u) (hd : (x == ("__debug__" : Str)) = false := by decide) : PE X (.Name x pos) (tC v) :=
  fun _ _ _ H _ I h => ld_glob I hg hm ⟨v, H, I, r, h⟩ hd
variable {a b : Expr} {ta tb : TE} {pos : Pos}
def PC (X : Cx) (op : CmpOp) (a b : Expr) (t : TE) : Prop :=
  ∀ (pins : List (Addr × Obj)) (s : Shared) (σ : St) (H : Hp) (Q : VK), Inv X pins σ H s → t σ H Q →
    wpAny (model X.prog X.w) X.A (eval a X.env) (fun v s₁ => wpAny (model X.prog X.w) X.A (eval b X.env) (fun u s₂ => wpAny (model X.prog X.w) X.A (compareOp op v u) (EP X pins σ Q) X.xe s₂) X.xe s₁) X.xe s
/-- a comparison as a value, as a test -/
def tB (t : TE) : TT := fun σ H Q => t σ H fun x H1 => ∃ c, x = .bl c ∧ Q c H1
theorem pe_cmp {op : CmpOp} {t : TE} (h : PC X op a b t) (h1 : behindInMarks op b = false := by first | exact nobehind _ (by decide) (by decide) | rfl) : PE X (.Compare a [op] [b] pos) t := fun pins s σ H Q I hw => wpAny_Compare1 (h pins s σ H Q I hw) h1
theorem pt_cmp {op : CmpOp} {t : TE} (h : PC X op a b t) (h1 : behindInMarks op b = false := by first | exact nobehind _ (by decide) (by decide) | rfl) : PT X (.Compare a [op] [b] pos) (tB t) := by
  intro pins s σ H Q I hw
  refine wpAny_isTrue_Compare1 (thn (h pins s σ H _ I hw) fun v s1 h1 => thn h1 fun u s2 h2 => thn h2 fun c s3 ⟨x, H1, I1, r1, q1⟩ => ?_) h1
  obtain ⟨d, rfl, q⟩ := q1
  cases r1
  exact wpAny_truthy_bool ⟨H1, I1, q⟩
/-- an expression whose value is a bool, as a test -/
theorem pt_val {e : Expr} {t : TE} (h : PE X e t) (he : ∀ whole, isTrue e X.env whole = (do let v ← whole; standAt e.pos; holding [v] (truthy v)) := by intro _; rfl) : PT X e (tB t) := by
  intro pins s σ H Q I hw
  refine isTrue_plain (thn (h pins s σ H _ I hw) fun v s1 ⟨x, H1, I1, r1, q1⟩ => ?_) (he _)
  obtain ⟨d, rfl, q⟩ := q1
  cases r1
  exact wpAny_truthy_bool ⟨H1, I1, q⟩
variable {tA tB' : TT} {rest : List Expr}
def tAnd (t u : TT) : TT := fun σ H Q => t σ H fun c H1 => if c = true then u σ H1 Q else Q false H1
def tOr (t u : TT) : TT := fun σ H Q => t σ H fun c H1 => if c = true then Q true H1 else u σ H1 Q
def tNot (t : TT) : TT := fun σ H Q => t σ H fun c H1 => Q (!c) H1
theorem pw_and1 (ha : PT X a tA) : PW X (.BoolOp .And [a] pos) tA := by
  intro wh pins s σ H Q I h
  refine isTrue_and (thn (ha pins s σ H Q I h) fun c s1 e => ?_)
  cases c with
  | true => exact isTrue_and_nil e
  | false => exact e
theorem pw_or1 (ha : PT X a tA) : PW X (.BoolOp .Or [a] pos) tA := by
  intro wh pins s σ H Q I h
  refine isTrue_or (thn (ha pins s σ H Q I h) fun c s1 e => ?_)
  cases c with
  | false => exact isTrue_or_nil e
  | true => exact e
theorem pw_and (ha : PT X a tA) (hb : PW X (.BoolOp .And (b :: rest) pos) tB') : PW X (.BoolOp .And (a :: b :: rest) pos) (tAnd tA tB') := by
  intro wh pins s σ H Q I h
  refine isTrue_and (thn (ha pins s σ H _ I h) fun c s1 ⟨H1, I1, q1⟩ => ?_)
  cases c with
  | true => exact hb wh pins s1 σ H1 Q I1 q1
  | false => exact ⟨H1, I1, q1⟩
theorem pw_or (ha : PT X a tA) (hb : PW X (.BoolOp .Or (b :: rest) pos) tB') : PW X (.BoolOp .Or (a :: b :: rest) pos) (tOr tA tB') := by
  intro wh pins s σ H Q I h
  refine isTrue_or (thn (ha pins s σ H _ I h) fun c s1 ⟨H1, I1, q1⟩ => ?_)
  cases c with
  | true => exact ⟨H1, I1, q1⟩
  | false => exact hb wh pins s1 σ H1 Q I1 q1
theorem pt_not (ha : PT X a tA) : PT X (.UnaryOp .Not a pos) (tNot tA) := by
  intro pins s σ H Q I h
  exact isTrue_not (ha pins s σ H (fun c H1 => Q (!c) H1) I h)
/-- .. as values (bools) -/
def tAndV (ta tb : TE) : TE := fun σ H Q => ta σ H fun x H1 => ∃ c, x = .bl c ∧ if c = true then tb σ H1 Q else Q (.bl false) H1
def tOrV (ta tb : TE) : TE := fun σ H Q => ta σ H fun x H1 => ∃ c, x = .bl c ∧ if c = true then Q (.bl true) H1 else tb σ H1 Q
def tNotV (ta : TE) : TE := fun σ H Q => ta σ H fun x H1 => ∃ c, x = .bl c ∧ Q (.bl (!c)) H1
theorem pe_one {op} {t : TE} (h : PE X a t) : PE X (.BoolOp op [a] pos) t := fun pins s σ H Q I hw => BoolOp_one (h pins s σ H Q I hw)
theorem pe_and (ha : PE X a ta) (hb : PE X (.BoolOp .And (b :: rest) pos) tb) : PE X (.BoolOp .And (a :: b :: rest) pos) (tAndV ta tb) := by
  intro pins s σ H Q I h
  refine BoolOp_and (thn (ha pins s σ H _ I h) fun v s1 ⟨x, H1, I1, r1, q1⟩ => ?_)
  obtain ⟨c, rfl, q1⟩ := q1
  cases r1
  refine wpAny_truthy_bool ?_
  cases c with
  | true => exact hb pins s1 σ H1 Q I1 q1
  | false => exact ⟨.bl false, H1, I1, rfl, q1⟩
theorem pe_or (ha : PE X a ta) (hb : PE X (.BoolOp .Or (b :: rest) pos) tb) : PE X (.BoolOp .Or (a :: b :: rest) pos) (tOrV ta tb) := by
  intro pins s σ H Q I h
  refine BoolOp_or (thn (ha pins s σ H _ I h) fun v s1 ⟨x, H1, I1, r1, q1⟩ => ?_)
  obtain ⟨c, rfl, q1⟩ := q1
  cases r1
  refine wpAny_truthy_bool ?_
  cases c with
  | false => exact hb pins s1 σ H1 Q I1 q1
  | true => exact ⟨.bl true, H1, I1, rfl, q1⟩
theorem pe_not (ha : PE X a ta) : PE X (.UnaryOp .Not a pos) (tNotV ta) := by
  intro pins s σ H Q I h
  refine UnaryOp_ (thn (ha pins s σ H _ I h) fun v s1 ⟨x, H1, I1, r1, q1⟩ => ?_)
  obtain ⟨c, rfl, q1⟩ := q1
  cases r1
  exact not_of (wpAny_truthy_bool ⟨.bl (!c), H1, I1, rfl, q1⟩)
/-- a if t else b -/
def tIf (t : TT) (ta tb : TE) : TE := fun σ H Q => t σ H fun c H1 => if c = true then ta σ H1 Q else tb σ H1 Q
theorem pe_ifExp {c : Expr} (hc : PT X c tA) (ha : PE X a ta) (hb : PE X b tb) : PE X (.IfExp c a b pos) (tIf tA ta tb) := by
  intro pins s σ H Q I h
  refine wpAny_IfExp (thn (hc pins s σ H _ I h) fun d s1 ⟨H1, I1, q1⟩ => ?_)
  cases d with
  | true => exact ha pins s1 σ H1 Q I1 q1
  | false => exact hb pins s1 σ H1 Q I1 q1
end
end L2
namespace L2
open PySem PySem.Spec PyProof.Rows
def SqL (K : PySem.W.Frag) (H : Hp) (a : Addr) (xs : List V) : Prop :=
  Rd H a (.lst xs) ∨
    ∃ (o : Obj) (its : Array Value) (n : Nat), K.lookup a = some o ∧ o.cls = .type "list" ∧ o.dict = none ∧ o.data = .seq its n ∧ its.size ≤ sizeLine ∧ Vals xs its.toList
def SqT (K : PySem.W.Frag) (H : Hp) (a : Addr) (xs : List V) : Prop :=
  Rd H a (.tup xs) ∨
    ∃ (o : Obj) (its : Array Value) (n : Nat), K.lookup a = some o ∧ o.cls = .type "tuple" ∧ o.data = .seq its n ∧ its.size ≤ sizeLine ∧ Vals xs its.toList
def absV : Value → Option V
  | .none => some .non
  | .bool b => some (.bl b)
  | .int i _ => some (.int i)
  | .str x _ => some (.str x)
  | .bytes b _ => some (.byt b)
  | .float b _ => some (.flt b)
  | .ref a => some (.ref a)
  | .type n => some (.ty n)
  | _ => none
theorem RelV.abs {x : V} {u : Value} (r : RelV x u) : absV u = some x := by
  cases x with
  | non => cases r; rfl
  | bl _ => cases r; rfl
  | int _ => obtain ⟨t, rfl⟩ := r; rfl
  | str _ => obtain ⟨t, rfl⟩ := r; rfl
  | byt _ => obtain ⟨t, rfl⟩ := r; rfl
  | flt _ => obtain ⟨t, rfl⟩ := r; rfl
  | ref _ => cases r; rfl
  | ty _ => cases r; rfl
theorem RelV.inj {x y : V} {u : Value} (r : RelV x u) (q : RelV y u) : x = y := Option.some.inj (r.abs.symm.trans q.abs)
theorem Vals.inj : ∀ {xs ys : List V} {us : List Value}, Vals xs us → Vals ys us → xs = ys
  | _, _, _, .nil, .nil => rfl
  | _, _, _, .cons r t, .cons r' t' => by rw [r.inj r', Vals.inj t t']
section
variable {X : Cx} {pins : List (Addr × Obj)} {σ : St} {H : Hp} {s : Shared} {a : Addr} {xs ys : List V}
theorem SqL.of {K : PySem.W.Frag} (h : H a = some (.lst xs)) : SqL K H a xs := .inl (.inl h)
theorem SqT.of {K : PySem.W.Frag} (h : H a = some (.tup xs)) : SqT K H a xs := .inl (.inl h)
theorem Inv.list (I : Inv X pins σ H s) (h : SqL X.K H a xs) : ∃ its : List Value, Vals xs its ∧ PlainL s.heap a its.toArray ∧ xs.length ≤ sizeLine := by
  rcases h with h | ⟨o, its, n, hk, hc, hd, hs, hz, r⟩
  · obtain ⟨z, its, n, r, e⟩ := h.ok I.hok
    exact ⟨its, r, ⟨_, n, e, rfl, rfl, rfl⟩, z⟩
  · refine ⟨its.toList, r, ⟨o, n, I.kIn a o hk, hc, hd, by simpa using hs⟩, ?_⟩
    have e := r.length
    simp only [Array.length_toList] at e
    omega
theorem Inv.tuple (I : Inv X pins σ H s) (h : SqT X.K H a xs) : ∃ its : List Value, Vals xs its ∧ IsTup s.heap a its.toArray ∧ xs.length ≤ sizeLine := by
  rcases h with h | ⟨o, its, n, hk, hc, hs, hz, r⟩
  · obtain ⟨z, its, r, p⟩ := h.ok I.hok
    exact ⟨its, r, p, z⟩
  · refine ⟨its.toList, r, ⟨o, I.kIn a o hk, hc, n, by simpa using hs⟩, ?_⟩
    have e := r.length
    simp only [Array.length_toList] at e
    omega
theorem Inv.list_inj (I : Inv X pins σ H s) (h : SqL X.K H a xs) (h' : SqL X.K H a ys) : xs = ys := by
  obtain ⟨its, r, ⟨o, n, e, _, _, d⟩, _⟩ := I.list h
  obtain ⟨its', r', ⟨o', n', e', _, _, d'⟩, _⟩ := I.list h'
  rw [e] at e'; cases e'
  rw [d] at d'
  injection d' with d1 _
  have : its = its' := by simpa using congrArg Array.toList d1
  subst this
  exact r.inj r'
end
abbrev Cx.wish (X : Cx) (E : Value → Shared → Prop) : Cx := { X with xe := E }
/-- no exception leaves -/
abbrev Cx.nox (X : Cx) : Cx := X.wish fun _ _ => False
theorem Cx.Ok.wish {X : Cx} (ok : X.Ok) (E : Value → Shared → Prop) : (X.wish E).Ok :=
  ⟨ok.mod, ok.kind, ok.glob, ok.blt, ok.above, ok.inj, ok.has, ok.cab, ok.hd, ok.frames, ok.stk, ok.exf, ok.bs, ok.bsz, ok.noex, ok.exfs, ok.funs, ok.frf⟩
theorem Cx.Ok.unwish {X : Cx} {E : Value → Shared → Prop} (ok : (X.wish E).Ok) : X.Ok :=
  ⟨ok.mod, ok.kind, ok.glob, ok.blt, ok.above, ok.inj, ok.has, ok.cab, ok.hd, ok.frames, ok.stk, ok.exf, ok.bs, ok.bsz, ok.noex, ok.exfs, ok.funs, ok.frf⟩
section
variable {X : Cx} {pins : List (Addr × Obj)} {σ : St} {H : Hp} {s : Shared} {E : Value → Shared → Prop}
theorem Inv.wish (I : Inv X pins σ H s) (E : Value → Shared → Prop) : Inv (X.wish E) pins σ H s := ⟨I.ok.wish E, I.os, I.bare, I.base, I.loc, I.cell, I.free, I.freeC, I.pin, I.hok, I.len⟩
theorem Inv.unwish (I : Inv (X.wish E) pins σ H s) : Inv X pins σ H s := ⟨I.ok.unwish, I.os, I.bare, I.base, I.loc, I.cell, I.free, I.freeC, I.pin, I.hok, I.len⟩
theorem SP.unwish {D : Ends} {f : Flow} {s' : Shared} (h : SP (X.wish E) pins D f s') : SP X pins D f s' := by
  cases f with
  | next => obtain ⟨σ', H', I, q⟩ := h; exact ⟨σ', H', I.unwish, q⟩
  | brk => obtain ⟨σ', H', I, q⟩ := h; exact ⟨σ', H', I.unwish, q⟩
  | cont => obtain ⟨σ', H', I, q⟩ := h; exact ⟨σ', H', I.unwish, q⟩
  | ret u => obtain ⟨v, σ', H', I, r, q⟩ := h; exact ⟨v, σ', H', I.unwish, r, q⟩
theorem PSs.nox {st : List Stmt} {t : TS} (h : PSs X.nox st t) : PSs X st t := fun pins s σ H D I hw =>
  wpAny_mono (h pins s σ H D (I.wish _) hw) (fun _ _ q => q.unwish) fun _ _ z => False.elim z
end
section
variable {X : Cx} {st : Stmt} {rest : List Stmt} {t u : TS} {e : Expr} {te : TE} {pos : Pos}
def tNext : TS := fun D σ H => D.nx σ H
def tSeq (t u : TS) : TS := fun D σ H => t { D with nx := u D } σ H
theorem pss_nil : PSs X [] tNext := fun _ _ σ H _ I h => wpAny_execs_nil ⟨σ, H, I, h⟩
theorem pss_cons (h1 : PS X st t) (h2 : PSs X rest u) : PSs X (st :: rest) (tSeq t u) := by
  intro pins s σ H D I h
  refine wpAny_execs_cons (thn (h1 pins s σ H { D with nx := u D } I h) fun f s1 q => ?_)
  cases f with
  | next =>
    obtain ⟨σ', H', I', q⟩ := q
    exact h2 pins s1 σ' H' D I' q
  | ret v => exact q
  | brk => exact q
  | cont => exact q
theorem pss_one (h1 : PS X st t) : PSs X [st] t := by
  intro pins s σ H D I h
  refine wpAny_execs_cons (thn (h1 pins s σ H D I h) fun f s1 q => ?_)
  cases f with
  | next => exact wpAny_execs_nil q
  | ret v => exact q
  | brk => exact q
  | cont => exact q
/-- in a def's body nothing is shown -/
theorem Inv.quiet {pins : List (Addr × Obj)} {σ : St} {H : Hp} {s : Shared} (I : Inv X pins σ H s) : interactive X.env = false := by simp [interactive, I.ok.kind]
/-- an expression whose value is dropped -/
def tDrop (te : TE) : TS := fun D σ H => te σ H fun _ H1 => D.nx σ H1
theorem ps_expr (he : PE X e te) (hs : swapsWith e none pos.line X.env = pure false := by rfl) : PS X (.Expr e pos) (tDrop te) := by
  intro pins s σ H D I h
  exact wpAny_Expr_any (thn (he pins s σ H _ I h) fun v s1 ⟨x, H1, I1, r1, q1⟩ => ⟨σ, H1, I1, q1⟩) I.quiet hs
def tRet (te : TE) : TS := fun D σ H => te σ H D.rt
theorem ps_ret (he : PE X e te) : PS X (.Return (some e) pos) (tRet te) := by
  intro pins s σ H D I h
  exact wpAny_Return_some (thn (he pins s σ H _ I h) fun v s1 ⟨x, H1, I1, r1, q1⟩ => ⟨x, σ, H1, I1, r1, q1⟩)
def tIfS (c : TT) (t u : TS) : TS := fun D σ H => c σ H fun b H1 => if b = true then t D σ H1 else u D σ H1
theorem ps_if {c : Expr} {a b : List Stmt} {tc : TT} (hc : PT X c tc) (ha : PSs X a t) (hb : PSs X b u) : PS X (.If c a b pos) (tIfS tc t u) := by
  intro pins s σ H D I h
  refine wpAny_If (thn (hc pins s σ H _ I h) fun d s1 ⟨H1, I1, q1⟩ => ?_)
  cases d with
  | true => exact ha pins s1 σ H1 D I1 q1
  | false => exact hb pins s1 σ H1 D I1 q1
end
abbrev TG := V → St → Hp → (St → Hp → Prop) → Prop
abbrev TGs := List V → St → Hp → (St → Hp → Prop) → Prop
def PG (X : Cx) (target : Expr) (t : TG) : Prop :=
  ∀ (pins : List (Addr × Obj)) (s : Shared) (σ : St) (H : Hp) (v : V) (u : Value) (Q : St → Hp → Prop), Inv X pins σ H s → RelV v u → t v σ H Q →
    wpAny (model X.prog X.w) X.A (assign target X.env u) (fun _ s' => ∃ σ' H', Inv X pins σ' H' s' ∧ Q σ' H') X.xe s
/-- several targets, one after another -/
def PGs (X : Cx) (ts : List Expr) (t : TGs) : Prop :=
  ∀ (pins : List (Addr × Obj)) (s : Shared) (σ : St) (H : Hp) (vs : List V) (us : List Value) (Q : St → Hp → Prop), Inv X pins σ H s → Vals vs us → t vs σ H Q →
    wpAny (model X.prog X.w) X.A (assignInOrder ((assignEach ts X.env).map (·.2)) us) (fun _ s' => ∃ σ' H', Inv X pins σ' H' s' ∧ Q σ' H') X.xe s
/-- o[i] = v, by values -/
abbrev TSet := V → V → V → Hp → (Hp → Prop) → Prop
def PSet (X : Cx) (t : TSet) : Prop :=
  ∀ (pins : List (Addr × Obj)) (s : Shared) (σ : St) (H : Hp) (o i v : V) (ov iv u : Value) (Q : Hp → Prop), Inv X pins σ H s → RelV o ov → RelV i iv → RelV v u → t o i v H Q →
    wpAny (model X.prog X.w) X.A (setItem ov iv u) (fun _ s' => ∃ H', Inv X pins σ H' s' ∧ Q H') X.xe s
/-- a op= b, by values -/
abbrev TIp := V → V → Hp → VK → Prop
def PIp (X : Cx) (op : Operator) (t : TIp) : Prop :=
  ∀ (pins : List (Addr × Obj)) (s : Shared) (σ : St) (H : Hp) (x y : V) (v u : Value) (Q : VK), Inv X pins σ H s → RelV x v → RelV y u → t x y H Q →
    wpAny (model X.prog X.w) X.A (inplaceOp op v u) (EP X pins σ Q) X.xe s
section
variable {X : Cx} {pos : Pos}
def gName (i : Nat) : TG := fun v σ H Q => Q (σ.set i (some v)) H
theorem pg_name {i : Nat} {x : Str} (hN : X.N.Nodup) (hi : X.N[i]? = some x) (hx : Loc X.env.scope x) (hf : X.fn x = true ∨ X.env.scope.names.lookup x = some .local := by first | exact .inl rfl | exact .inr rfl | assumption) : PG X (.Name x pos) (gName i) := by
  intro pins s σ H v u Q I r h
  exact wpAny_assign_Name (store_ok I hN hi hx r (fun s' I' => ⟨_, H, I', h⟩) hf)
def gNil : TGs := fun vs σ H Q => vs = [] ∧ Q σ H
def gCons (t : TG) (u : TGs) : TGs := fun vs σ H Q => ∃ v r, vs = v :: r ∧ t v σ H fun σ' H' => u r σ' H' Q
theorem pgs_nil : PGs X [] gNil := by
  intro pins s σ H vs us Q I r h
  obtain ⟨e, h⟩ := h
  subst e
  cases r
  exact assignInOrder_nil ⟨σ, H, I, h⟩
theorem pgs_cons {e : Expr} {es : List Expr} {t : TG} {u : TGs} (h1 : PG X e t) (h2 : PGs X es u)
    (hs : (assignEach (e :: es) X.env).map (·.2) = assign e X.env :: (assignEach es X.env).map (·.2) := by rfl) : PGs X (e :: es) (gCons t u) := by
  intro pins s σ H vs us Q I r h
  obtain ⟨v, vr, e1, h⟩ := h
  subst e1
  cases r with
  | cons r rr =>
    rw [hs]
    refine assignInOrder_cons (thn (h1 pins s σ H _ _ _ I r h) fun _ s1 ⟨σ1, H1, I1, q1⟩ => ?_)
    exact h2 pins s1 σ1 H1 _ _ Q I1 rr q1
/-- (a, b, ..) = a tuple of that length -/
def gTup (K : PySem.W.Frag) (n : Nat) (t : TGs) : TG := fun v σ H Q => ∃ a xs, v = .ref a ∧ SqT K H a xs ∧ xs.length = n ∧ t xs σ H Q
theorem pg_tup {es : List Expr} {k : Nat} {t : TGs} {n : Nat} (hc : X.calm = true) (h : PGs X es t)
    (hn : (assignEach es X.env).length = n := by rfl) (hst : (assignEach es X.env).findIdx? (·.1) = none := by rfl) : PG X (.Tuple es k pos) (gTup X.K n t) := by
  intro pins s σ H v u Q I r hw
  obtain ⟨a, xs, e1, hq, hl, hw⟩ := hw
  subst e1
  cases r
  obtain ⟨its, rv, ht, hz⟩ := I.tuple hq
  refine assign_Tuple_tuple (I.ok.hd hc) ht (by simp [hn, ← hl, rv.length]) hst fun h' hx => ?_
  have I1 : Inv X pins σ H { s with heap := h' } := I.kept (t' := s.toks) fun b o e => hx b o (Nat.ne_of_lt (Heap.lt_size e)) e
  exact h pins _ σ H xs _ Q I1 (by simpa using rv) hw
/-- o[i] = .. -/
def gSub (to ti : TE) (t : TSet) : TG := fun v σ H Q => to σ H fun o H1 => ti σ H1 fun i H2 => t o i v H2 fun H3 => Q σ H3
theorem pg_sub {o i : Expr} {to ti : TE} {t : TSet} (ho : PE X o to) (hi : PE X i ti) (hs : PSet X t)
    (ha : ∀ v, assign (.Subscript o i pos) X.env v = (do
      let ov ← holding [v] (eval o X.env)
      let iv ← holding [v, ov] (eval i X.env)
      standAt pos
      holding [v, ov, iv] (setItem ov iv v)
      release [v, ov, iv] []) := by intro _; rfl) : PG X (.Subscript o i pos) (gSub to ti t) := by
  intro pins s σ H v u Q I r h
  rw [ha]
  refine wpAny_bind (wpAny_holding (thn (ho pins s σ H _ I h) fun ov s1 ⟨x, H1, I1, r1, q1⟩ => ?_))
  refine wpAny_bind (wpAny_holding (thn (hi pins s1 σ H1 _ I1 q1) fun iv s2 ⟨y, H2, I2, r2, q2⟩ => ?_))
  refine wpAny_bind (wpAny_standAt (wpAny_bind (wpAny_holding (thn (hs pins s2 σ H2 x y v ov iv u _ I2 r1 r2 r q2) fun _ s3 ⟨H3, I3, q3⟩ => ?_))))
  exact wpAny_release ⟨σ, H3, I3, q3⟩
/-- target = value -/
def tAsg (te : TE) (g : TG) : TS := fun D σ H => te σ H fun x H1 => g x σ H1 D.nx
theorem ps_asg {tg e : Expr} {te : TE} {g : TG} (he : PE X e te) (hg : PG X tg g) (hs : swapsWithSole [tg] e pos.line X.env = pure false := by rfl) (hw : swappedStores [tg] e X.env = pure none := by rfl)
    (h1 : (assignEach [tg] X.env).map (·.2) = [assign tg X.env] := by rfl) : PS X (.Assign [tg] e pos) (tAsg te g) := by
  intro pins s σ H D I h
  refine wpAny_Assign_stores (thn (he pins s σ H _ I h) fun v s1 ⟨x, H1, I1, r1, q1⟩ => ?_) hs hw
  rw [h1]
  exact thn (hg pins s1 σ H1 x v _ I1 r1 q1) fun _ s2 q => q
/-- name = value -/
theorem ps_set {i : Nat} {x : Str} {e : Expr} {te : TE} {pos' : Pos} (hN : X.N.Nodup) (hi : X.N[i]? = some x) (hx : Loc X.env.scope x) (he : PE X e te) (hs : swapsWith e (some (.Name x pos')) pos.line X.env = pure false := by rfl) (hf : X.fn x = true ∨ X.env.scope.names.lookup x = some .local := by first | exact .inl rfl | exact .inr rfl | assumption) :
    PS X (.Assign [.Name x pos'] e pos) (tAsg te (gName i)) := by
  intro pins s σ H D I h
  refine wpAny_Assign_Name (thn (he pins s σ H _ I h) fun v s1 ⟨y, H1, I1, r1, q1⟩ => ?_) hs
  exact store_ok I1 hN hi hx r1 (fun s2 I2 => ⟨_, H1, I2, q1⟩) hf
/-- name op= e -/
def tAug (i : Nat) (te : TE) (ti : TIp) : TS := fun D σ H => ∃ x, σ[i]? = some (some x) ∧ te σ H fun y H1 => ti x y H1 fun z H2 => D.nx (σ.set i (some z)) H2
theorem ps_aug {i : Nat} {x : Str} {e : Expr} {te : TE} {op : Operator} {ti : TIp} {pos' : Pos} (hN : X.N.Nodup) (hi : X.N[i]? = some x) (hx : Loc X.env.scope x) (he : PE X e te) (ho : PIp X op ti) (hf : X.fn x = true ∨ X.env.scope.names.lookup x = some .local := by first | exact .inl rfl | exact .inr rfl | assumption) :
    PS X (.AugAssign (.Name x pos') op e pos) (tAug i te ti) := by
  intro pins s σ H D I h
  obtain ⟨v, e1, h⟩ := h
  obtain ⟨m, hn, hl⟩ := I.loc
  have vis : Vis X.env.scope x := by rcases hx with k | k; exact .inl k; exact .inr (.inl k)
  obtain ⟨u, r, l⟩ := hl i x v hi e1 vis
  refine wpAny_AugAssign_Name ?_
  have go : wpAny (model X.prog X.w) X.A (eval e X.env) (fun w s₂ => wpAny (model X.prog X.w) X.A (inplaceOp op u w) (fun r s₃ => wpAny (model X.prog X.w) X.A (storeName X.env x r) (fun _ => SP X pins D .next) X.xe s₃) X.xe s₂) X.xe s := by
    refine thn (he pins s σ H _ I h) fun w s1 ⟨y, H1, I1, r1, q1⟩ => ?_
    refine thn (ho pins s1 σ H1 v y u w _ I1 r r1 q1) fun z s2 ⟨zv, H2, I2, r2, q2⟩ => ?_
    exact store_ok I2 hN hi hx r2 (fun s3 I3 => ⟨_, H2, I3, q2⟩) hf
  rcases l with ⟨hk, hm⟩ | ⟨hk, c, hc, hcell⟩
  · exact wpAny_loadName_local I.ok.kind hk hn hm go
  · rcases hk with hk | hk
    · exact wpAny_loadName_cell I.ok.kind hk hc hcell go
    · rcases hx with k | k
      · have : X.env.scope.names.lookup x = some .free := hk
        rw [k] at this; cases this
      · have : X.env.scope.names.lookup x = some .free := hk
        rw [k] at this; cases this
/-- ints -/
def ipI (f : Int → Int → Int) : TIp := fun x y H Q => ∃ i j, x = .int i ∧ y = .int j ∧ Q (.int (f i j)) H
theorem ip_add : PIp X .Add (ipI fun i j => i + j) := by
  intro pins s σ H x y v u Q I r1 r2 h
  obtain ⟨i, j, e1, e2, q⟩ := h
  subst e1; subst e2
  obtain ⟨t, rfl⟩ := r1
  obtain ⟨t', rfl⟩ := r2
  exact iadd_int ⟨.int _, H, I.tok _, ⟨_, rfl⟩, q⟩
end
section
variable {X : Cx} {pos : Pos}
/-- the invariant W with its measure -/
def tWhile (c : TT) (tb : TS) : TS := fun D σ H => ∃ W : Nat → St → Hp → Prop, (∃ m, W m σ H) ∧ ∀ m σ H, W m σ H →
  c σ H fun b H1 => if b = true then ∃ N : St → Hp → Prop, (∀ σ' H', N σ' H' → ∃ m', m' < m ∧ W m' σ' H') ∧ tb { D with nx := N, ct := N, bk := D.nx } σ H1 else D.nx σ H1
theorem ps_while {c : Expr} {body : List Stmt} {tc : TT} {tb : TS} (hp : PassesOwn (model X.prog X.w) X.A X.env X.xe) (hc : PT X c tc) (hb : PSs X body tb) : PS X (.While c body [] pos) (tWhile tc tb) := by
  intro pins s σ H D I h
  obtain ⟨W, ⟨m0, w0⟩, turn⟩ := h
  refine wpAny_While (codeAny_whileLoop (fun n s' => ∃ σ' H', Inv X pins σ' H' s' ∧ W n σ' H') ?_ m0 ⟨σ, H, I, w0⟩)
  rintro n s1 ⟨σ1, H1, I1, w1⟩
  refine wpAny_passesOwn hp (thn (hc pins s1 σ1 H1 _ I1 (turn n σ1 H1 w1)) fun b s2 ⟨H2, I2, q2⟩ => ?_)
  cases b with
  | true =>
    obtain ⟨N, hN, q2⟩ := q2
    rw [if_pos rfl]
    refine wpAny_passesOwn hp (thn (hb pins s2 σ1 H2 _ I2 q2) fun f s3 q3 => ?_)
    cases f with
    | next =>
      obtain ⟨σ3, H3, I3, n3⟩ := q3
      obtain ⟨m', hm, w3⟩ := hN σ3 H3 n3
      exact ⟨m', hm, σ3, H3, I3, w3⟩
    | cont =>
      obtain ⟨σ3, H3, I3, n3⟩ := q3
      obtain ⟨m', hm, w3⟩ := hN σ3 H3 n3
      exact ⟨m', hm, σ3, H3, I3, w3⟩
    | brk => exact q3
    | ret v => exact q3
  | false =>
    rw [if_neg Bool.false_ne_true]
    exact wpAny_execs_nil ⟨σ1, H2, I2, q2⟩
end
/-- at turn i: it yields x (the heap may grow), or it stops -/
structure It where
  go : Nat → Hp → Prop
  yld : Nat → Hp → V → Hp → Prop
  stop : Nat → Hp → Prop
/-- the iterator's own objects may turn: they are not the frame's, not pinned, younger than the entry (or a comprehension's own) -/
def FpOk (X : Cx) (pins : List (Addr × Obj)) (H : Hp) (b : Addr) : Prop :=
  H b = none ∧ b ≠ X.env.locals ∧ b ∉ X.fs ∧ (b ∈ X.ex ∨ X.s_0.heap.objs.size ≤ b) ∧ (∀ x c, X.env.cells.lookup x = some c → c ≠ b) ∧ ∀ p ∈ X.pn ++ pins, p.1 ≠ b
theorem Inv.fpOk {X : Cx} {pins : List (Addr × Obj)} {σ : St} {H H' : Hp} {s : Shared} {b : Addr} (I : Inv X pins σ H s) (hb : s.heap.objs.size ≤ b) (hn : H' b = none) : FpOk X pins H' b := by
  refine ⟨hn, Nat.ne_of_gt (Nat.lt_of_lt_of_le I.lt hb), I.nofs hb, .inr (Nat.le_trans I.sz hb), fun x c e z => ?_, fun p hp z => ?_⟩
  · obtain ⟨v, q⟩ := I.cell x c e
    exact absurd (Nat.lt_of_lt_of_le q.lt (by rw [z]; exact hb)) (Nat.lt_irrefl _)
  · exact absurd (Nat.lt_of_lt_of_le (Heap.lt_size (I.pin p hp).1) (by rw [z]; exact hb)) (Nat.lt_irrefl _)
structure Turn (P : Program) (w : World) (K : PySem.W.Frag) (tg : Expr) (J : It) (fp : List Addr) (it : Addr) (tn : Nat → Heap → Prop) : Prop where
  mem : it ∈ fp
  obj : ∀ i h, tn i h → ∀ b ∈ fp, ∃ o, h.get? b = some o ∧ ∀ v, o.data ≠ .cell v
  keep : ∀ i h h', tn i h → (∀ b ∈ fp, ∀ o, h.get? b = some o → h'.get? b = some o) → tn i h'
  item : ∀ (X : Cx), X.prog = P → X.w = w → X.K = K → X.calm = true → ∀ (i : Nat) (pins : List (Addr × Obj)) (s : Shared) (σ : St) (H : Hp) (E : Value → Shared → Prop), Inv X pins σ H s → (∀ b ∈ fp, FpOk X pins H b) → tn i s.heap → J.go i H →
    wpAny (model P w) X.A (pyNext (.ref it)) (fun r s1 => ∃ u, r = some u ∧
      wpAny (model P w) X.A (letOwnedTupleGo tg (.ref it) u) (fun _ s2 => ∃ x H', Inv X pins σ H' s2 ∧ RelV x u ∧ J.yld i H x H' ∧ tn (i + 1) s2.heap ∧ ∀ b ∈ fp, H' b = none) E s1) E s
  done : ∀ (X : Cx), X.prog = P → X.w = w → X.K = K → X.calm = true → ∀ (i : Nat) (pins : List (Addr × Obj)) (s : Shared) (σ : St) (H : Hp) (E : Value → Shared → Prop), Inv X pins σ H s → (∀ b ∈ fp, FpOk X pins H b) → tn i s.heap → J.stop i H →
    wpAny (model P w) X.A (pyNext (.ref it)) (fun r s1 => r = none ∧ Inv X pins σ H s1) E s
  self : ∀ (A : Around) (i : Nat) (s : Shared) (Q : Value → Shared → Prop) (E : Value → Shared → Prop), tn i s.heap → Q (.ref it) s → wpAny (model P w) A (pyIter (.ref it)) Q E s
abbrev TI := St → Hp → (It → Hp → Prop) → Prop
/-- an iterator has come -/
def PIE (X : Cx) (pins : List (Addr × Obj)) (σ : St) (tg : Expr) (R : It → Hp → Prop) (itv : Value) (s2 : Shared) : Prop :=
  ∃ (it : Addr) (fp : List Addr) (tn : Nat → Heap → Prop) (J : It) (H' : Hp), itv = .ref it ∧ Inv X pins σ H' s2 ∧ Turn X.prog X.w X.K tg J fp it tn ∧ tn 0 s2.heap ∧ (∀ b ∈ fp, FpOk X pins H' b) ∧ R J H'
def PI (X : Cx) (tg iter : Expr) (wi : TI) : Prop :=
  ∀ (pins : List (Addr × Obj)) (s : Shared) (σ : St) (H : Hp) (R : It → Hp → Prop), Inv X pins σ H s → wi σ H R →
    wpAny (model X.prog X.w) X.A (eval iter X.env) (fun v s1 => wpAny (model X.prog X.w) X.A (pyIter v) (PIE X pins σ tg R) X.xe s1) X.xe s
/-- the step ahead of the store is nothing for an iterator that keeps no tuple -/
theorem go_of {M : Model} {A : Around} {E : Value → Shared → Prop} {s : Shared} {tg : Expr} {it : Addr} {u : Value} {o : Obj} {n : String} {vs : Array Value} {Q : Unit → Shared → Prop} (ho : s.heap.get? it = some o) (hc : o.cls = .type n) (hd : o.data = .fields vs)
    (hn : ["enumerate", "zip", "dict_itemiterator", "dict_reverseitemiterator", "odict_iterator", "itertools.zip_longest", "itertools.pairwise"].contains n = false) (hQ : Q () s) : wpAny M A (letOwnedTupleGo tg (.ref it) u) Q E s := by
  unfold letOwnedTupleGo
  cases tg <;> first
    | exact wpAny_pure hQ
    | (cases u <;> first
        | exact wpAny_pure hQ
        | (refine wpAny_bind (wpAny_load ho ?_)
           rw [hc, hd]
           show wpAny M A (if (["enumerate", "zip", "dict_itemiterator", "dict_reverseitemiterator", "odict_iterator", "itertools.zip_longest", "itertools.pairwise"].contains n && vs[0]? == some (rawInt _)) = true then _ else _) Q E s
           rw [if_neg (by intro h; rw [hn, Bool.false_and] at h; cases h)]
           exact wpAny_pure hQ))
/-- the list at a, as it stands at each turn (a loop may append to it) -/
def Itl (K : PySem.W.Frag) (a : Addr) : It :=
  ⟨fun i H => ∃ xs x, SqL K H a xs ∧ xs[i]? = some x, fun i H x H' => H' = H ∧ ∀ xs, SqL K H a xs → xs[i]? = some x, fun i H => ∃ xs, SqL K H a xs ∧ xs.length ≤ i⟩
/-- lo, lo + 1, .. (n of them) -/
def Itr (lo : Int) (n : Nat) : It := ⟨fun i _ => i < n, fun i H x H' => H' = H ∧ x = .int (lo + i), fun i _ => n ≤ i⟩
theorem turn_list {P : Program} {w : World} {K : PySem.W.Frag} {tg : Expr} (a it : Addr) : Turn P w K tg (Itl K a) [it] it (fun i h => h.IsListIter it a i) where
  mem := by simp
  obj := fun i h st b hb => by
    have e : b = it := by simpa using hb
    subst e
    obtain ⟨o, e, c, d⟩ := st
    exact ⟨o, e, fun v z => by rw [d] at z; cases z⟩
  keep := fun i h h' st k => st.at fun o e => k it (by simp) o e
  item := by
    intro X hP hw hK hc i pins s σ H E I hf st hg
    subst hP hw hK
    obtain ⟨xs, x, hq, hx⟩ := hg
    obtain ⟨its, rv, p, hz⟩ := I.list hq
    obtain ⟨u, hu, ru⟩ := rv.get hx
    obtain ⟨f0, f1, f2, f3, f4, f5⟩ := hf it (by simp)
    refine wpAny_pyNext_list_item st p.isList (x := u) (by simpa using hu) fun h' st' sb => ?_
    have I1 : Inv X pins σ H { s with heap := h' } := I.turned (t' := s.toks) (fun b o hb e => (sb.2 b hb).trans e) f0 f1 f3 f4 f5
    obtain ⟨o, e, c, d⟩ := id st'
    exact ⟨u, rfl, go_of (s := { s with heap := h' }) e c d (by decide) ⟨x, H, I1, ru, ⟨rfl, fun ys hy => by rw [I.list_inj hy hq]; exact hx⟩, st', fun b hb => (hf b hb).1⟩⟩
  done := by
    intro X hP hw hK hc i pins s σ H E I hf st hg
    subst hP hw hK
    obtain ⟨xs, hq, hx⟩ := hg
    obtain ⟨its, rv, p, hz⟩ := I.list hq
    obtain ⟨f0, f1, f2, f3, f4, f5⟩ := hf it (by simp)
    have hl := rv.length
    exact wpAny_pyNext_list_end (I.ok.hd hc) st p.isList (by simp; omega) fun h' eb => ⟨rfl, I.turned (t' := s.toks) (fun b o hb e => eb b o hb e) f0 f1 f3 f4 f5⟩
  self := fun _ _ _ _ _ st h => wpAny_pyIter_listiter st h
theorem turn_range {P : Program} {w : World} {K : PySem.W.Frag} {tg : Expr} (it : Addr) (lo : Int) (n : Nat) : Turn P w K tg (Itr lo n) [it] it (fun i h => IsRangeIter h it (lo + (i : Nat) * 1) ((n : Int) - (i : Nat)) 1) where
  mem := by simp
  obj := fun i h st b hb => by
    have e : b = it := by simpa using hb
    subst e
    exact ⟨_, st, fun v z => by
      have z' : Data.fields _ = Data.cell v := z
      cases z'⟩
  keep := fun i h h' st k => k it (by simp) _ st
  item := by
    intro X hP hw hK hc i pins s σ H E I hf st hg
    subst hP hw hK
    obtain ⟨f0, f1, f2, f3, f4, f5⟩ := hf it (by simp)
    have W := Walks.range (prog := X.prog) (w := X.w) (I.ok.hd hc) it lo 1 n
    refine W.item i s _ _ hg st fun v h' tk hv st' kk => ?_
    obtain ⟨t, rfl⟩ := hv
    have I1 : Inv X pins σ H { s with heap := h', toks := tk } := I.turned (fun b o hb e => kk b o (by simpa using hb) e) f0 f1 f3 f4 f5
    refine ⟨_, rfl, go_of (s := { s with heap := h', toks := tk }) (n := "range_iterator") st' rfl rfl (by decide) ⟨.int (lo + i), H, I1, ⟨t, ?_⟩, ⟨rfl, rfl⟩, st', fun b hb => (hf b hb).1⟩⟩
    rw [Int.mul_one]
  done := by
    intro X hP hw hK hc i pins s σ H E I hf st hg
    subst hP hw hK
    obtain ⟨f0, f1, f2, f3, f4, f5⟩ := hf it (by simp)
    exact wpAny_pyNext_range_end (I.ok.hd hc) st (by have : n ≤ i := hg; omega) fun h' eb => ⟨rfl, I.turned (t' := s.toks) (fun b o hb e => eb b o hb e) f0 f1 f3 f4 f5⟩
  self := fun _ _ _ _ _ st h => wpAny_pyIter_rangeiter st h
end L2
namespace L2
open PySem PySem.Spec PyProof.Rows
section
variable {X : Cx} {tg : Expr}
def iList (K : PySem.W.Frag) (tl : TE) : TI := fun σ H R => tl σ H fun x H1 => ∃ a, x = .ref a ∧ (∃ xs, SqL K H1 a xs) ∧ R (Itl K a) H1
theorem pi_list {l : Expr} {tl : TE} (hl : PE X l tl) : PI X tg l (iList X.K tl) := by
  intro pins s σ H R I h
  refine thn (hl pins s σ H _ I h) fun v s1 ⟨x, H1, I1, r1, q1⟩ => ?_
  obtain ⟨a, e, ⟨xs, hq⟩, q⟩ := q1
  subst e
  cases r1
  obtain ⟨its, rv, p, hz⟩ := I1.list hq
  refine wpAny_pyIter_list p.isList ?_
  refine ⟨s1.heap.objs.size, [s1.heap.objs.size], _, _, H1, rfl, I1.kept (t' := s1.toks) fun b o e => Heap.get?_push_of_some _ e, turn_list a _, ⟨_, Heap.get?_push_size _ rfl, rfl, rfl⟩, fun b hb => ?_, q⟩
  have e : b = s1.heap.objs.size := by simpa using hb
  subst e
  exact I1.fpOk (Nat.le_refl _) (I1.hok.fresh (Nat.le_refl _))
/-- a range object just made, walked -/
theorem range_it {pins : List (Addr × Obj)} {σ : St} {H : Hp} {s : Shared} {R : It → Hp → Prop} {E : Value → Shared → Prop} {lo hi : Int} {t u v : Tok} {tk : Nat} (I : Inv X pins σ H s) (h1 : -(2 ^ 62) ≤ lo) (h2 : lo < 2 ^ 62) (h3 : -(2 ^ 62) ≤ hi) (h4 : hi < 2 ^ 62)
    (q : R (Itr lo (hi - lo).toNat) H) : wpAny (model X.prog X.w) X.A (pyIter (.ref s.heap.objs.size)) (PIE X pins σ tg R) E { s with heap := s.heap.push { cls := .type "range", data := .fields #[.int lo t, .int hi u, .int 1 v] }, toks := tk } := by
  refine wpAny_pyIter_range (IsRange.new ..) (small_one h1 h2 h3 h4) ?_
  have I1 : Inv X pins σ H { s with heap := s.heap.push { cls := .type "range", data := .fields #[.int lo t, .int hi u, .int 1 v] }, toks := tk } := I.kept fun b o e => Heap.get?_push_of_some _ e
  refine ⟨(s.heap.push { cls := .type "range", data := .fields #[.int lo t, .int hi u, .int 1 v] }).objs.size, [(s.heap.push { cls := .type "range", data := .fields #[.int lo t, .int hi u, .int 1 v] }).objs.size], _, _, H, rfl,
    I1.kept (t' := tk) fun b o e => Heap.get?_push_of_some _ e, turn_range _ lo (hi - lo).toNat, ?_, fun b hb => ?_, q⟩
  · have e1 : lo + ((0 : Nat) : Int) * 1 = lo := by simp
    have e2 : (((hi - lo).toNat : Nat) : Int) - ((0 : Nat) : Int) = Builtin.Range.rangeSize lo hi 1 := by rw [rangeSize_one]; split <;> omega
    show IsRangeIter _ _ (lo + ((0 : Nat) : Int) * 1) ((((hi - lo).toNat : Nat) : Int) - ((0 : Nat) : Int)) 1
    rw [e1, e2]
    exact Heap.get?_push_size _ rfl
  · have e : b = (s.heap.push { cls := .type "range", data := .fields #[.int lo t, .int hi u, .int 1 v] }).objs.size := by simpa using hb
    subst e
    exact I1.fpOk (Nat.le_refl _) (I1.hok.fresh (Nat.le_refl _))
def iRng1 (ta : TA) : TI := fun σ H R => ta σ H fun vs H1 => ∃ j : Int, vs = [.int j] ∧ -(2 ^ 62) ≤ j ∧ j < 2 ^ 62 ∧ R (Itr 0 j.toNat) H1
theorem pi_range1 {a : Expr} {ta : TA} {p pos : Pos} (hg : Gl X "range") (hm : X.mg "range" = none) (ha : PA X [a] ta) (hs : starEach [a] X.env = [(false, eval a X.env)] := by rfl) : PI X tg (.Call (.Name "range" p) [a] [] pos) (iRng1 ta) := by
  intro pins s σ H R I h
  refine Call_ (ld_blt I hg hm boot_range (PyProof.Rows.callWith_type1 (thn (ha pos pins s σ H _ I h) fun us s1 ⟨vs, H1, I1, r1, q1⟩ => ?_) hs rfl))
  obtain ⟨j, e, q1, q2, q⟩ := q1
  subst e
  cases r1 with
  | cons r rr =>
    cases rr
    obtain ⟨t, rfl⟩ := r
    exact call_range_1 (range_it I1 (by omega) (by omega) q1 q2 (by simpa using q))
/-- W: the invariant by the turn and a measure; N: what the body is to reach -/
def tFor (wi : TI) (g : TG) (tb : TS) : TS := fun D σ H => wi σ H fun J H1 => ∃ W : Nat → Nat → St → Hp → Prop, (∃ m, W 0 m σ H1) ∧ ∀ i m σ H, W i m σ H →
  (J.stop i H ∧ D.nx σ H) ∨ (J.go i H ∧ ∃ N : St → Hp → Prop, (∀ σ' H', N σ' H' → ∃ m', m' < m ∧ W (i + 1) m' σ' H') ∧ ∀ x H', J.yld i H x H' → g x σ H' fun σ2 H2 => tb { D with nx := N, ct := N, bk := D.nx } σ2 H2)
/-- the records at fp as they stand -/
def pinsAt (fp : List Addr) (h : Heap) : List (Addr × Obj) := fp.filterMap fun b => (h.get? b).map fun o => (b, o)
theorem mem_pinsAt {fp : List Addr} {h : Heap} {b : Addr} {o : Obj} (hb : b ∈ fp) (e : h.get? b = some o) : (b, o) ∈ pinsAt fp h := List.mem_filterMap.mpr ⟨b, hb, by rw [e]; rfl⟩
theorem of_pinsAt {fp : List Addr} {h : Heap} {p : Addr × Obj} (hp : p ∈ pinsAt fp h) : p.1 ∈ fp ∧ h.get? p.1 = some p.2 := by
  obtain ⟨b, hb, e⟩ := List.mem_filterMap.mp hp
  cases q : h.get? b with
  | none => rw [q] at e; cases e
  | some o =>
    rw [q] at e
    have e' : (b, o) = p := Option.some.inj e
    subst e'
    exact ⟨hb, q⟩
theorem Inv.pinned {pins : List (Addr × Obj)} {σ : St} {H : Hp} {s : Shared} {fp : List Addr} (I : Inv X pins σ H s) (hf : ∀ b ∈ fp, FpOk X pins H b) (ho : ∀ b ∈ fp, ∃ o, s.heap.get? b = some o ∧ ∀ v, o.data ≠ .cell v) : Inv X (pins ++ pinsAt fp s.heap) σ H s :=
  I.pins_of fun p hp => (List.mem_append.mp hp).elim (fun z => I.pin p (List.mem_append_right _ z)) fun z => by
    obtain ⟨hb, e⟩ := of_pinsAt z
    obtain ⟨f0, f1, f2, _⟩ := hf p.1 hb
    obtain ⟨o, e', d⟩ := ho p.1 hb
    rw [e] at e'; cases e'
    exact ⟨e, f0, f1, f2, d⟩
theorem Inv.unpinned {pins pl : List (Addr × Obj)} {σ : St} {H : Hp} {s : Shared} (I : Inv X (pins ++ pl) σ H s) : Inv X pins σ H s := I.pins_of fun p hp => I.pin p (List.mem_append_right _ (List.mem_append_left _ hp))
theorem ps_for {iter : Expr} {body : List Stmt} {wi : TI} {g : TG} {tb : TS} {pos : Pos} (hp : PassesOwn (model X.prog X.w) X.A X.env X.xe) (hc : X.calm = true) (hi : PI X tg iter wi) (hg : PG X tg g) (hb : PSs X body tb)
    (hs : ∀ x, foldedSetIterable iter X.env x = pure x := by intro _; rfl) : PS X (.For tg iter body [] pos) (tFor wi g tb) := by
  intro pins s σ H D I h
  refine wpAny_For (thn (hi pins s σ H _ I h) fun v s1 h1 => thn h1 fun itv s2 h2 => ?_) hs
  obtain ⟨it, fp, tn, J, H2, e, I2, T, st2, f2, W, ⟨m0, w0⟩, turn⟩ := h2
  subst e
  -- what stays true of the iterator's objects through the loop
  have stat : ∀ {H' : Hp}, (∀ b ∈ fp, H' b = none) → ∀ b ∈ fp, FpOk X pins H' b := fun hn b hb => ⟨hn b hb, (f2 b hb).2⟩
  refine codeAny_forLoop_any (fun n s' => ∃ i σ' H', Inv X pins σ' H' s' ∧ tn i s'.heap ∧ (∀ b ∈ fp, H' b = none) ∧ W i n σ' H') ?_ m0 ⟨0, σ, H2, I2, st2, fun b hb => (f2 b hb).1, w0⟩
  rintro n s3 ⟨i, σ3, H3, I3, st3, fr3, w3⟩
  rcases turn i n σ3 H3 w3 with ⟨stop, qn⟩ | ⟨go, N, hN, step⟩
  · refine wpAny_passesOwn hp (thn (T.done X rfl rfl rfl hc i pins s3 σ3 H3 X.xe I3 (stat fr3) st3 stop) fun r s4 ⟨hr, I4⟩ => ?_)
    subst hr
    exact wpAny_execs_nil ⟨σ3, H3, I4, qn⟩
  · refine wpAny_passesOwn hp (thn (T.item X rfl rfl rfl hc i pins s3 σ3 H3 X.xe I3 (stat fr3) st3 go) fun r s4 ⟨u, hr, h4⟩ => ?_)
    subst hr
    refine wpAny_passesOwn hp (thn h4 fun _ s5 ⟨x, H5, I5, r5, y5, st5, fr5⟩ => ?_)
    have I5' := I5.pinned (stat fr5) (T.obj _ _ st5)
    refine wpAny_passesOwn hp (thn (hg _ s5 σ3 H5 x u _ I5' r5 (step x H5 y5)) fun _ s6 ⟨σ6, H6, I6, q6⟩ => ?_)
    refine wpAny_passesOwn hp (thn (hb _ s6 σ6 H6 _ I6 q6) fun f s7 q7 => ?_)
    have again : ∀ {σ7 : St} {H7 : Hp}, Inv X (pins ++ pinsAt fp s5.heap) σ7 H7 s7 → N σ7 H7 → ∃ m, m < n ∧ ∃ i σ' H', Inv X pins σ' H' s7 ∧ tn i s7.heap ∧ (∀ b ∈ fp, H' b = none) ∧ W i m σ' H' := fun {σ7 H7} I7 n7 => by
      obtain ⟨m', hm, w7⟩ := hN σ7 H7 n7
      refine ⟨m', hm, i + 1, σ7, H7, I7.unpinned, T.keep _ _ _ st5 fun b hb o e => (I7.pin (b, o) (List.mem_append_right _ (List.mem_append_right _ (mem_pinsAt hb e)))).1, fun b hb => ?_, w7⟩
      obtain ⟨o, e, d⟩ := T.obj _ _ st5 b hb
      exact (I7.pin (b, o) (List.mem_append_right _ (List.mem_append_right _ (mem_pinsAt hb e)))).2.1
    cases f with
    | next => obtain ⟨σ7, H7, I7, n7⟩ := q7; exact again I7 n7
    | cont => obtain ⟨σ7, H7, I7, n7⟩ := q7; exact again I7 n7
    | brk => obtain ⟨σ7, H7, I7, q7⟩ := q7; exact ⟨σ7, H7, I7.unpinned, q7⟩
    | ret v => obtain ⟨x7, σ7, H7, I7, r7, q7⟩ := q7; exact ⟨x7, σ7, H7, I7.unpinned, r7, q7⟩
end
/-- over a list that the body leaves as it is -/
theorem for_list {K : PySem.W.Frag} {a : Addr} {xs : List V} {g : TG} {tb : TS} {D : Ends} {σ : St} {H : Hp} (Pv : Nat → St → Hp → Prop) (h0 : Pv 0 σ H) (hl : ∀ i σ H, i ≤ xs.length → Pv i σ H → SqL K H a xs)
    (hs : ∀ i x σ H, xs[i]? = some x → Pv i σ H → g x σ H fun σ2 H2 => tb { D with nx := Pv (i + 1), ct := Pv (i + 1), bk := D.nx } σ2 H2) (hd : ∀ σ H, Pv xs.length σ H → D.nx σ H) :
    ∃ W : Nat → Nat → St → Hp → Prop, (∃ m, W 0 m σ H) ∧ ∀ i m σ H, W i m σ H →
      ((Itl K a).stop i H ∧ D.nx σ H) ∨ ((Itl K a).go i H ∧ ∃ N : St → Hp → Prop, (∀ σ' H', N σ' H' → ∃ m', m' < m ∧ W (i + 1) m' σ' H') ∧ ∀ x H', (Itl K a).yld i H x H' → g x σ H' fun σ2 H2 => tb { D with nx := N, ct := N, bk := D.nx } σ2 H2) := by
  refine ⟨fun i m σ H => m = xs.length - i ∧ i ≤ xs.length ∧ Pv i σ H, ⟨xs.length, by simp, Nat.zero_le _, h0⟩, ?_⟩
  rintro i m σ H ⟨rfl, hi, p⟩
  have q := hl i σ H hi p
  by_cases hlt : i < xs.length
  · refine .inr ⟨⟨xs, xs[i], q, by simp [hlt]⟩, Pv (i + 1), fun σ' H' p' => ⟨xs.length - (i + 1), by omega, rfl, hlt, p'⟩, fun x H' y => ?_⟩
    obtain ⟨e, y⟩ := y
    subst e
    exact hs i x σ _ (y xs q) p
  · have e : i = xs.length := by omega
    subst e
    exact .inl ⟨⟨xs, q, Nat.le_refl _⟩, hd σ H p⟩
theorem for_range {lo : Int} {n : Nat} {g : TG} {tb : TS} {D : Ends} {σ : St} {H : Hp} (Pv : Nat → St → Hp → Prop) (h0 : Pv 0 σ H)
    (hs : ∀ i σ H, i < n → Pv i σ H → g (.int (lo + i)) σ H fun σ2 H2 => tb { D with nx := Pv (i + 1), ct := Pv (i + 1), bk := D.nx } σ2 H2) (hd : ∀ σ H, Pv n σ H → D.nx σ H) :
    ∃ W : Nat → Nat → St → Hp → Prop, (∃ m, W 0 m σ H) ∧ ∀ i m σ H, W i m σ H →
      ((Itr lo n).stop i H ∧ D.nx σ H) ∨ ((Itr lo n).go i H ∧ ∃ N : St → Hp → Prop, (∀ σ' H', N σ' H' → ∃ m', m' < m ∧ W (i + 1) m' σ' H') ∧ ∀ x H', (Itr lo n).yld i H x H' → g x σ H' fun σ2 H2 => tb { D with nx := N, ct := N, bk := D.nx } σ2 H2) := by
  refine ⟨fun i m σ H => m = n - i ∧ i ≤ n ∧ Pv i σ H, ⟨n, by simp, Nat.zero_le _, h0⟩, ?_⟩
  rintro i m σ H ⟨rfl, hi, p⟩
  by_cases hlt : i < n
  · refine .inr ⟨hlt, Pv (i + 1), fun σ' H' p' => ⟨n - (i + 1), by omega, rfl, hlt, p'⟩, fun x H' y => ?_⟩
    obtain ⟨e, y⟩ := y
    subst e y
    exact hs i σ _ hlt p
  · have e : i = n := by omega
    subst e
    exact .inl ⟨Nat.le_refl _, hd σ H p⟩
end L2
namespace L2
open PySem PySem.Spec PyProof.Rows
abbrev R2 := V → V → Hp → VK → Prop
/-- a two-place operation on values: f is binaryOp op, inplaceOp op or compareOp op -/
def OpR (X : Cx) (f : Value → Value → Sem Value) (r : R2) : Prop :=
  ∀ (pins : List (Addr × Obj)) (s : Shared) (σ : St) (H : Hp) (x y : V) (v u : Value) (Q : VK), Inv X pins σ H s → RelV x v → RelV y u → r x y H Q →
    wpAny (model X.prog X.w) X.A (f v u) (EP X pins σ Q) X.xe s
/-- a one-place operation -/
def UnR (X : Cx) (f : Value → Sem Value) (r : V → Hp → VK → Prop) : Prop :=
  ∀ (pins : List (Addr × Obj)) (s : Shared) (σ : St) (H : Hp) (x : V) (v : Value) (Q : VK), Inv X pins σ H s → RelV x v → r x H Q →
    wpAny (model X.prog X.w) X.A (f v) (EP X pins σ Q) X.xe s
/-- a call of a value that is known (a builtin, a type) with values -/
def CallR (X : Cx) (f : Value) (r : List V → Hp → VK → Prop) : Prop :=
  ∀ (pins : List (Addr × Obj)) (s : Shared) (σ : St) (H : Hp) (xs : List V) (us : List Value) (Q : VK), Inv X pins σ H s → Vals xs us → r xs H Q →
    wpAny (model X.prog X.w) X.A (call f us) (EP X pins σ Q) X.xe s
def tOp (r : R2) (ta tb : TE) : TE := fun σ H Q => ta σ H fun x H1 => tb σ H1 fun y H2 => r x y H2 Q
def tUn (r : V → Hp → VK → Prop) (ta : TE) : TE := fun σ H Q => ta σ H fun x H1 => r x H1 Q
/-- ints in, under C, and a value out -/
def rI (C : Int → Int → Prop) (g : Int → Int → V) : R2 := fun x y H Q => ∃ i j, x = .int i ∧ y = .int j ∧ C i j ∧ Q (g i j) H
def rI0 (g : Int → Int → V) : R2 := fun x y H Q => ∃ i j, x = .int i ∧ y = .int j ∧ Q (g i j) H
def rU (g : Int → V) : V → Hp → VK → Prop := fun x H Q => ∃ i, x = .int i ∧ Q (g i) H
section
variable {X : Cx} {a b c : Expr} {ta tb tc : TE} {pos : Pos}
theorem binT (ha : PE X a ta) (hb : PE X b tb) {pins : List (Addr × Obj)} {s : Shared} {σ : St} {H : Hp} {R : V → V → Hp → Prop} (I : Inv X pins σ H s)
    (h : ta σ H fun x H1 => tb σ H1 fun y H2 => R x y H2) {Q : Value → Shared → Prop} {f : Value → Value → Sem Value}
    (hf : ∀ v u s2 x y H2, Inv X pins σ H2 s2 → RelV x v → RelV y u → R x y H2 → wpAny (model X.prog X.w) X.A (f v u) Q X.xe s2) :
    wpAny (model X.prog X.w) X.A (eval a X.env) (fun v s₁ => wpAny (model X.prog X.w) X.A (eval b X.env) (fun u s₂ => wpAny (model X.prog X.w) X.A (f v u) Q X.xe s₂) X.xe s₁) X.xe s := by
  refine thn (ha pins s σ H _ I h) fun v s1 ⟨x, H1, I1, r1, q1⟩ => ?_
  refine thn (hb pins s1 σ H1 _ I1 q1) fun u s2 ⟨y, H2, I2, r2, q2⟩ => ?_
  exact hf v u s2 x y H2 I2 r1 r2 q2
theorem pe_op {op : Operator} {r : R2} (ho : OpR X (binaryOp op) r) (ha : PE X a ta) (hb : PE X b tb) : PE X (.BinOp a op b pos) (tOp r ta tb) := by
  intro pins s σ H Q I h
  exact wpAny_BinOp (binT ha hb I h fun v u s2 x y H2 I2 rx ry q => ho pins s2 σ H2 x y v u Q I2 rx ry q)
theorem pe_un {op : UnaryOp} {r : V → Hp → VK → Prop} (ho : UnR X (unaryOp op) r) (ha : PE X a ta) : PE X (.UnaryOp op a pos) (tUn r ta) := by
  intro pins s σ H Q I h
  exact UnaryOp_ (thn (ha pins s σ H _ I h) fun v s1 ⟨x, H1, I1, r1, q1⟩ => ho pins s1 σ H1 x v Q I1 r1 q1)
theorem opI {f : Value → Value → Sem Value} {C : Int → Int → Prop} {g : Int → Int → Int}
    (rule : ∀ (i j : Int) (t u : Tok) (s : Shared) (Q : Value → Shared → Prop) (E : Value → Shared → Prop), C i j → Q (.int (g i j) s.toks) { s with toks := s.toks + 1 } → wpAny (model X.prog X.w) X.A (f (.int i t) (.int j u)) Q E s) :
    OpR X f (rI C fun i j => .int (g i j)) := by
  intro pins s σ H x y v u Q I rx ry h
  obtain ⟨i, j, rfl, rfl, hc, q⟩ := h
  obtain ⟨t, rfl⟩ := rx
  obtain ⟨t', rfl⟩ := ry
  exact rule i j t t' s _ _ hc ⟨.int (g i j), H, I.tok _, ⟨_, rfl⟩, q⟩
theorem opI0 {f : Value → Value → Sem Value} {g : Int → Int → Int}
    (rule : ∀ (i j : Int) (t u : Tok) (s : Shared) (Q : Value → Shared → Prop) (E : Value → Shared → Prop), Q (.int (g i j) s.toks) { s with toks := s.toks + 1 } → wpAny (model X.prog X.w) X.A (f (.int i t) (.int j u)) Q E s) :
    OpR X f (rI0 fun i j => .int (g i j)) := by
  intro pins s σ H x y v u Q I rx ry h
  obtain ⟨i, j, rfl, rfl, q⟩ := h
  obtain ⟨t, rfl⟩ := rx
  obtain ⟨t', rfl⟩ := ry
  exact rule i j t t' s _ _ ⟨.int (g i j), H, I.tok _, ⟨_, rfl⟩, q⟩
theorem opB0 {f : Value → Value → Sem Value} {g : Int → Int → Bool}
    (rule : ∀ (i j : Int) (t u : Tok) (s : Shared) (Q : Value → Shared → Prop) (E : Value → Shared → Prop), Q (.bool (g i j)) s → wpAny (model X.prog X.w) X.A (f (.int i t) (.int j u)) Q E s) :
    OpR X f (rI0 fun i j => .bl (g i j)) := by
  intro pins s σ H x y v u Q I rx ry h
  obtain ⟨i, j, rfl, rfl, q⟩ := h
  obtain ⟨t, rfl⟩ := rx
  obtain ⟨t', rfl⟩ := ry
  exact rule i j t t' s _ _ ⟨.bl (g i j), H, I, rfl, q⟩
theorem op_add : OpR X (binaryOp .Add) (rI0 fun i j => .int (i + j)) := opI0 fun _ _ _ _ _ _ _ q => add_int q
theorem op_sub : OpR X (binaryOp .Sub) (rI0 fun i j => .int (i - j)) := opI0 fun _ _ _ _ _ _ _ q => sub_int q
/-- % by a positive divisor of any size -/
theorem op_mod : OpR X (binaryOp .Mod) (rI (fun _ j => 0 < j) fun i j => .int (i % j)) := opI fun i j _ _ _ _ _ hc q => by
  have h1 : (0 : Int) < j := hc
  exact mod_int' (by omega) (by rw [Int.fmod_eq_emod_of_nonneg i (by omega)]; exact q)
theorem unI {f : Value → Sem Value} {g : Int → Int}
    (rule : ∀ (i : Int) (t : Tok) (s : Shared) (Q : Value → Shared → Prop) (E : Value → Shared → Prop), Q (.int (g i) s.toks) { s with toks := s.toks + 1 } → wpAny (model X.prog X.w) X.A (f (.int i t)) Q E s) :
    UnR X f (rU fun i => .int (g i)) := by
  intro pins s σ H x v Q I rx h
  obtain ⟨i, rfl, q⟩ := h
  obtain ⟨t, rfl⟩ := rx
  exact rule i t s _ _ ⟨.int (g i), H, I.tok _, ⟨_, rfl⟩, q⟩
theorem un_neg : UnR X (unaryOp .USub) (rU fun i => .int (-i)) := unI fun _ _ _ _ _ q => neg_int q
end
/-- the scalars that == tells apart as data does -/
def scal : V → V → Bool
  | .non, .non => true | .non, .int _ => true | .int _, .non => true | .non, .bl _ => true | .bl _, .non => true | .non, .str _ => true | .str _, .non => true
  | .int _, .int _ => true | .bl _, .bl _ => true | .str _, .str _ => true | .byt _, .byt _ => true
  | .int _, .str _ => true | .str _, .int _ => true | .bl _, .str _ => true | .str _, .bl _ => true
  | _, _ => false
def rEq : R2 := fun x y H Q => scal x y = true ∧ Q (.bl (decide (x = y))) H
def rNe : R2 := fun x y H Q => scal x y = true ∧ Q (.bl (!decide (x = y))) H
theorem dec_int {i j : Int} : decide (V.int i = V.int j) = (i == j) := by
  rw [Bool.eq_iff_iff]
  simp
theorem dec_bl {i j : Bool} : decide (V.bl i = V.bl j) = (i == j) := by
  rw [Bool.eq_iff_iff]
  simp
theorem dec_str {i j : Str} : decide (V.str i = V.str j) = (i == j) := by
  rw [Bool.eq_iff_iff]
  simp
theorem dec_byt {i j : Array UInt8} : decide (V.byt i = V.byt j) = (i.toList == j.toList) := by
  rw [Bool.eq_iff_iff]
  cases i
  cases j
  simp
section
variable {X : Cx} {a b c : Expr} {ta tb tc : TE} {pos : Pos}
theorem fin_bl {pins : List (Addr × Obj)} {σ : St} {H : Hp} {s : Shared} {Q : VK} {k k' : Bool} (I : Inv X pins σ H s) (q : Q (.bl k) H) (e : k = k') : EP X pins σ Q (.bool k') s := by
  subst e
  exact ⟨.bl k, H, I, rfl, q⟩
theorem op_eq : OpR X (compareOp .Eq) rEq := by
  intro pins s σ H x y v u Q I rx ry h
  obtain ⟨hs, q⟩ := h
  cases x with
  | non =>
    cases rx
    cases y with
    | non => cases ry; exact PySem.EqNone.eq_none_none (fin_bl I q (by simp))
    | bl j => cases ry; exact PySem.EqNone.eq_none_bool (fin_bl I q (by simp))
    | int j => obtain ⟨t', rfl⟩ := ry; exact PySem.EqNone.eq_none_int (fin_bl I q (by simp))
    | str j => obtain ⟨t', rfl⟩ := ry; exact PySem.EqNone.eq_none_str (fin_bl I q (by simp))
    | _ => exact absurd (show false = true from hs) Bool.false_ne_true
  | bl i =>
    cases rx
    cases y with
    | non => cases ry; exact PySem.EqNone.eq_bool_none (fin_bl I q (by simp))
    | bl j => cases ry; exact eq_bool (fin_bl I q dec_bl)
    | str j => obtain ⟨t', rfl⟩ := ry; exact PySem.EqMixed.eq_bool_str (fin_bl I q (by simp))
    | _ => exact absurd (show false = true from hs) Bool.false_ne_true
  | int i =>
    obtain ⟨t, rfl⟩ := rx
    cases y with
    | non => cases ry; exact PySem.EqNone.eq_int_none (fin_bl I q (by simp))
    | int j => obtain ⟨t', rfl⟩ := ry; exact eq_int (fin_bl I q dec_int)
    | str j => obtain ⟨t', rfl⟩ := ry; exact PySem.EqMixed.eq_int_str (fin_bl I q (by simp))
    | _ => exact absurd (show false = true from hs) Bool.false_ne_true
  | str i =>
    obtain ⟨t, rfl⟩ := rx
    cases y with
    | non => cases ry; exact PySem.EqNone.eq_str_none (fin_bl I q (by simp))
    | bl j => cases ry; exact PySem.EqMixed.eq_str_bool (fin_bl I q (by simp))
    | int j => obtain ⟨t', rfl⟩ := ry; exact PySem.EqMixed.eq_str_int (fin_bl I q (by simp))
    | str j => obtain ⟨t', rfl⟩ := ry; exact eq_str (fin_bl I q dec_str)
    | _ => exact absurd (show false = true from hs) Bool.false_ne_true
  | byt i =>
    obtain ⟨t, rfl⟩ := rx
    cases y with
    | byt j => obtain ⟨t', rfl⟩ := ry; exact PySem.W.eq_bytes (fin_bl I q dec_byt)
    | _ => exact absurd (show false = true from hs) Bool.false_ne_true
  | _ => cases y <;> exact absurd (show false = true from hs) Bool.false_ne_true
theorem op_ne : OpR X (compareOp .NotEq) rNe := by
  intro pins s σ H x y v u Q I rx ry h
  obtain ⟨hs, q⟩ := h
  cases x with
  | non =>
    cases rx
    cases y with
    | non => cases ry; exact PySem.EqNone.ne_none_none (fin_bl I q (by simp))
    | bl j => cases ry; exact PySem.EqNone.ne_none_bool (fin_bl I q (by simp))
    | int j => obtain ⟨t', rfl⟩ := ry; exact PySem.EqNone.ne_none_int (fin_bl I q (by simp))
    | str j => obtain ⟨t', rfl⟩ := ry; exact PySem.EqNone.ne_none_str (fin_bl I q (by simp))
    | _ => exact absurd (show false = true from hs) Bool.false_ne_true
  | bl i =>
    cases rx
    cases y with
    | non => cases ry; exact PySem.EqNone.ne_bool_none (fin_bl I q (by simp))
    | bl j => cases ry; exact ne_bool (fin_bl I q (congrArg not dec_bl))
    | str j => obtain ⟨t', rfl⟩ := ry; exact PySem.EqMixed.ne_bool_str (fin_bl I q (by simp))
    | _ => exact absurd (show false = true from hs) Bool.false_ne_true
  | int i =>
    obtain ⟨t, rfl⟩ := rx
    cases y with
    | non => cases ry; exact PySem.EqNone.ne_int_none (fin_bl I q (by simp))
    | int j => obtain ⟨t', rfl⟩ := ry; exact ne_int (fin_bl I q (congrArg not dec_int))
    | str j => obtain ⟨t', rfl⟩ := ry; exact PySem.EqMixed.ne_int_str (fin_bl I q (by simp))
    | _ => exact absurd (show false = true from hs) Bool.false_ne_true
  | str i =>
    obtain ⟨t, rfl⟩ := rx
    cases y with
    | non => cases ry; exact PySem.EqNone.ne_str_none (fin_bl I q (by simp))
    | bl j => cases ry; exact PySem.EqMixed.ne_str_bool (fin_bl I q (by simp))
    | int j => obtain ⟨t', rfl⟩ := ry; exact PySem.EqMixed.ne_str_int (fin_bl I q (by simp))
    | str j => obtain ⟨t', rfl⟩ := ry; exact ne_str (fin_bl I q (congrArg not dec_str))
    | _ => exact absurd (show false = true from hs) Bool.false_ne_true
  | byt i =>
    obtain ⟨t, rfl⟩ := rx
    cases y with
    | byt j => obtain ⟨t', rfl⟩ := ry; exact PySem.W.ne_bytes (fin_bl I q (congrArg not dec_byt))
    | _ => exact absurd (show false = true from hs) Bool.false_ne_true
  | _ => cases y <;> exact absurd (show false = true from hs) Bool.false_ne_true
theorem op_lt : OpR X (compareOp .Lt) (rI0 fun i j => .bl (decide (i < j))) := opB0 fun _ _ _ _ _ _ _ q => lt_int q
theorem op_le : OpR X (compareOp .LtE) (rI0 fun i j => .bl (decide (i ≤ j))) := opB0 fun _ _ _ _ _ _ _ q => le_int q
theorem op_gt : OpR X (compareOp .Gt) (rI0 fun i j => .bl (decide (j < i))) := opB0 fun _ _ _ _ _ _ _ q => gt_int q
theorem op_ge : OpR X (compareOp .GtE) (rI0 fun i j => .bl (decide (j ≤ i))) := opB0 fun _ _ _ _ _ _ _ q => ge_int q
theorem nomark (b : Expr) {op : CmpOp} (h : op ≠ .In := by decide) (h2 : op ≠ .NotIn := by decide) : behindInMarks op b = false := by
  have e1 : (op == CmpOp.In) = false := by cases op <;> first | rfl | exact absurd rfl h
  have e2 : (op == CmpOp.NotIn) = false := by cases op <;> first | rfl | exact absurd rfl h2
  cases b <;> simp [behindInMarks, e1, e2]
/-- a comparison as a value; hm: nomark b, or (for in, not in) by with_unfolding_all rfl -/
theorem pe_cmpR {op : CmpOp} {r : R2} (ho : OpR X (compareOp op) r) (ha : PE X a ta) (hb : PE X b tb) (hm : behindInMarks op b = false) : PE X (.Compare a [op] [b] pos) (tOp r ta tb) := by
  intro pins s σ H Q I h
  exact wpAny_Compare1 (binT ha hb I h fun v u s2 x y H2 I2 rx ry q => ho pins s2 σ H2 x y v u Q I2 rx ry q) hm
/-- a reading of a value as a test -/
def tTest (t : TE) : TT := fun σ H Q => t σ H fun x H' => ∃ k, x = .bl k ∧ Q k H'
theorem pt_cmpR {op : CmpOp} {r : R2} (ho : OpR X (compareOp op) r) (ha : PE X a ta) (hb : PE X b tb) (hm : behindInMarks op b = false) : PT X (.Compare a [op] [b] pos) (tTest (tOp r ta tb)) := by
  intro pins s σ H Q I h
  refine wpAny_isTrue_Compare1 (thn (ha pins s σ H _ I h) fun v s1 ⟨x, H1, I1, r1, q1⟩ => thn (hb pins s1 σ H1 _ I1 q1) fun u s2 ⟨y, H2, I2, r2, q2⟩ =>
    thn (ho pins s2 σ H2 x y v u _ I2 r1 r2 q2) fun c s3 ⟨z, H3, I3, r3, k, e, q3⟩ => ?_) hm
  subst e
  cases r3
  exact wpAny_truthy_bool ⟨H3, I3, q3⟩
/-- a op1 b op2 c -/
def tChain (r r' : R2) (ta tb tc : TE) : TE := fun σ H Q => ta σ H fun x H1 => tb σ H1 fun y H2 => r x y H2 fun z H3 => ∃ k, z = .bl k ∧
  (if k = true then tc σ H3 fun w' H4 => r' y w' H4 Q else Q (.bl false) H3)
theorem pe_chain {op op' : CmpOp} {r r' : R2} (ho : OpR X (compareOp op) r) (ho' : OpR X (compareOp op') r') (ha : PE X a ta) (hb : PE X b tb) (hc : PE X c tc)
    (hm : lastMarks [op, op'] [b, c] = false := by with_unfolding_all rfl) : PE X (.Compare a [op, op'] [b, c] pos) (tChain r r' ta tb tc) := by
  intro pins s σ H Q I h
  refine Compare_chain (thn (ha pins s σ H _ I h) fun v s1 ⟨x, H1, I1, r1, q1⟩ => chain_link (thn (hb pins s1 σ H1 _ I1 q1) fun u s2 ⟨y, H2, I2, r2, q2⟩ =>
    thn (ho pins s2 σ H2 x y v u _ I2 r1 r2 q2) fun d s3 ⟨z, H3, I3, r3, k, e, q3⟩ => ?_)) hm
  subst e
  cases r3
  refine wpAny_truthy_bool ?_
  cases k with
  | false => exact ite_ff ⟨.bl false, H3, I3, rfl, q3⟩
  | true => exact ite_tt (chain_last (thn (hc pins s3 σ H3 _ I3 q3) fun w' s4 ⟨z', H4, I4, r4, q4⟩ => ho' pins s4 σ H4 y z' u w' Q I4 r2 r4 q4))
theorem pt_chain {op op' : CmpOp} {r r' : R2} (ho : OpR X (compareOp op) r) (ho' : OpR X (compareOp op') r') (ha : PE X a ta) (hb : PE X b tb) (hc : PE X c tc)
    (hm : lastMarks [op, op'] [b, c] = false := by with_unfolding_all rfl) : PT X (.Compare a [op, op'] [b, c] pos) (tTest (tChain r r' ta tb tc)) := by
  intro pins s σ H Q I h
  refine isTrue_chain (thn (ha pins s σ H _ I h) fun v s1 ⟨x, H1, I1, r1, q1⟩ => test_link (thn (hb pins s1 σ H1 _ I1 q1) fun u s2 ⟨y, H2, I2, r2, q2⟩ =>
    thn (ho pins s2 σ H2 x y v u _ I2 r1 r2 q2) fun d s3 ⟨z, H3, I3, r3, k, e, q3⟩ => ?_)) hm
  subst e
  cases r3
  refine wpAny_truthy_bool ?_
  cases k with
  | false =>
    obtain ⟨k', e', q'⟩ := q3
    cases e'
    exact ite_ff ⟨H3, I3, q'⟩
  | true =>
    refine ite_tt (test_last (thn (hc pins s3 σ H3 _ I3 q3) fun w' s4 ⟨z', H4, I4, r4, q4⟩ => thn (ho' pins s4 σ H4 y z' u w' _ I4 r2 r4 q4) fun d' s5 ⟨z2, H5, I5, r5, k2, e2, q5⟩ => ?_))
    subst e2
    cases r5
    exact wpAny_truthy_bool ⟨H5, I5, q5⟩
theorem line63 : (sizeLine : Nat) < 2 ^ 63 := by rw [sizeLine_eq]; decide
theorem vals1 {x : V} {us : List Value} (r : Vals [x] us) : ∃ u, us = [u] ∧ RelV x u := by
  cases r with
  | cons r1 r2 => cases r2; exact ⟨_, rfl, r1⟩
theorem call_abs : CallR X (.builtin "abs") (fun xs H Q => ∃ i, xs = [.int i] ∧ Q (.int (if i < 0 then -i else i)) H) := by
  intro pins s σ H xs us Q I r h
  obtain ⟨i, rfl, q⟩ := h
  obtain ⟨u, rfl, t, rfl⟩ := vals1 r
  exact call_abs_int fun u tk => ⟨.int (if i < 0 then -i else i), H, I.tok _, ⟨_, rfl⟩, q⟩
theorem call_str_int : CallR X (.type "str") (fun xs H Q => ∃ i, xs = [.int i] ∧ i.natAbs.log2 < 1920 ∧ Q (.str (toString i)) H) := by
  intro pins s σ H xs us Q I r h
  obtain ⟨i, rfl, hz, q⟩ := h
  obtain ⟨u, rfl, t, rfl⟩ := vals1 r
  exact PySem.P.str_of_int hz ⟨.str _, H, I.tok _, ⟨_, rfl⟩, q⟩
theorem call_ord : CallR X (.builtin "ord") (fun xs H Q => ∃ x, xs = [.str x] ∧ x.length = 1 ∧ Q (.int (x.cps.getD 0 0 : Nat)) H) := by
  intro pins s σ H xs us Q I r h
  obtain ⟨x, rfl, hz, q⟩ := h
  obtain ⟨u, rfl, t, rfl⟩ := vals1 r
  exact ord_of_one hz ⟨.int _, H, I.tok _, ⟨_, rfl⟩, q⟩
end
end L2
namespace L2
open PySem PySem.Spec PyProof.Rows
structure ObjM (h : Heap) (x dx C : Addr) (mA : Str → Option Value) : Prop where
  obj : h.get? x = some (PySem.W.instObj C dx)
  ns : h.Ns1 dx mA
  ne : dx ≠ x
theorem lookIn_ns {h : Heap} {dx : Addr} {mA : Str → Option Value} (n : h.Ns1 dx mA) : ∃ od, h.get? dx = some od ∧ ∀ name, PySem.W.lookIn name od = some (mA name) := by
  obtain ⟨o, es, ep, ho, hd, hk, _, hm⟩ := n
  refine ⟨o, ho, fun name => ?_⟩
  have e := hm name
  unfold nsFind findBy at e
  rw [← Array.find?_toList] at e
  unfold PySem.W.lookIn
  rw [hd]
  dsimp only
  split
  · rename_i y q
    rw [q] at e
    exact congrArg some e
  · rename_i q
    rw [q] at e
    have a : es.toList.any (·.refKey) = false := by
      rw [List.any_eq_false]
      intro y hy
      obtain ⟨z, t, hkey⟩ := hk y (Array.mem_toList_iff.mp hy)
      simp [DictEntry.refKey, hkey]
    have a' : ¬ es.toList.any (·.refKey) = true := by rw [a]; exact Bool.false_ne_true
    rw [if_neg a']
    exact congrArg some e
theorem ObjM.look {h : Heap} {x dx C : Addr} {mA : Str → Option Value} (I : ObjM h x dx C mA) : ∃ od, PySem.W.InstAt h x (PySem.W.instObj C dx) C (some od) ∧ ∀ name, PySem.W.lookIn name od = some (mA name) :=
  let ⟨od, ho, hl⟩ := lookIn_ns I.ns
  ⟨od, ⟨I.obj, rfl, rfl, ho⟩, hl⟩
section
variable {prog : Program} {w : World} {A : Around} {E : Value → Shared → Prop} {s : Shared} {K : PySem.W.Frag} {x dx C f : Addr} {mA : Str → Option Value} {name : Str} {v : Value}
theorem get_map {expr : Bool} {Q : Value → Shared → Prop} (X : K.In s.heap) (I : ObjM s.heap x dx C mA) (hg : PySem.W.plainGet K C name = true) (hh : PySem.W.hasDictIn K C = true)
    (ha : PySem.W.findIn K (.ref C) name = some none) (hv : mA name = some v) (hv' : PySem.W.handedIn v = true) (h : Q v { s with toks := s.toks + 1 }) :
    wpAny (model prog w) A (getAttr (.ref x) name expr) Q E s := by
  obtain ⟨od, J, hl⟩ := I.look
  exact PySem.W.get_value X J (PySem.W.plainGet_of hg).1 (PySem.W.findObj_own hh ha rfl (by rw [hl, hv])) hv' h
theorem get_meth {pl : Sem Bool} {Q : Value × List Value → Shared → Prop} (X : K.In s.heap) (I : ObjM s.heap x dx C mA) (hg : PySem.W.plainGet K C name = true)
    (hf : PySem.W.findIn K (.ref C) name = some (some (.ref f))) (ht : PySem.W.isFn K (.ref f) = true) (hv : mA name = none) (h : Q (.ref f, [.ref x]) s) :
    wpAny (model prog w) A (getMethod (.ref x) name pl) Q E s := by
  obtain ⟨od, J, hl⟩ := I.look
  exact PySem.W.method_fn X J (PySem.W.plainGet_of hg).1 (PySem.W.plainGet_of hg).2 hf (beq_iff_eq.mp ht) (by show (PySem.W.lookIn name od).map (·.isSome) = some false; rw [hl, hv]; rfl) h
theorem set_map {ns : List Str} {Q : Unit → Shared → Prop} (X : K.In s.heap) (I : ObjM s.heap x dx C mA)
    (hs : PySem.W.findIn K (.ref C) "__setattr__" = some (some (.builtin "object.__setattr__"))) (hp : PySem.W.plainOver K C = true) (ht : PySem.W.takerIn K C name = some none) (hh : PySem.W.hasDictIn K C = true)
    (hw : PySem.Within mA ns) (hsz : ns.length ≤ sizeLine)
    (h : ∀ h', ObjM h' x dx C (fun y => if y = name then some v else mA y) → Heap.SameBut dx s.heap h' → Q () { s with heap := h', toks := s.toks + 2 }) :
    wpAny (model prog w) A (setAttr (.ref x) name v) Q E s := by
  obtain ⟨od, J, hl⟩ := I.look
  refine PySem.W.set_plain X J hs (PySem.W.osa_open (s := { s with toks := s.toks + 1 }) (r := none) X J hp ht fun b => ?_)
  obtain ⟨cd, hc, hd'⟩ := PySem.W.any_some hh
  have hx : s.heap.get? x = some ⟨.ref C, some dx, .plain, #[]⟩ := I.obj
  refine wpAny_bind (wpAny_pure (wpAny_bind (wpAny_bind (wpAny_loadPart hx (wpAny_bind (PySem.W.Looks.here (s := { s with toks := s.toks + 1 }) (PySem.W.looks_clsIn X hc) ?_))))))
  rw [hd']
  refine wpAny_pure (a := some dx) (wpAny_bind (wpAny_pure (wpAny_bind ?_)))
  refine wpAny_nsSet1 (s := { s with toks := s.toks + 1 }) I.ns fun h' hn2 hs2 => ?_
  obtain ⟨oD, esD, epD, hoD, hdD, hcD⟩ := hn2.count (PySem.Within.cons name v hw)
  refine wpAny_bind (wpAny_lookBehind hoD (by rw [hdD]; exact pastItsLine_dict (Nat.le_trans hcD (by rw [List.length_cons]; omega))) ?_)
  exact wpAny_pure (h _ ⟨(hs2.2 _ (Ne.symm I.ne)).trans I.obj, hn2, I.ne⟩ hs2)
/-- C(..): the dict at the heap's end, the instance behind it; then its __init__ -/
theorem make_map {R : Result → Shared → Prop} {vs : List Value} {kw : List (Str × Value)} (X : K.In s.heap) (hm : PySem.W.makesIn K C = true)
    (hi : PySem.W.findIn K (.ref C) "__init__" = some (some (.ref f))) (hf : PySem.W.typeIn K (.ref f) = some (.type "function"))
    (h : codeAny (model prog w) (A.under (.builtin "type.__call__" ⟨.ref C :: vs, kw⟩)) (.call (.ref f) ⟨.ref (s.heap.objs.size + 1) :: vs, kw⟩) (PySem.W.InitBack (s.heap.objs.size + 1) R)
      { s with heap := (s.heap.push PySem.W.emptyDict).push (PySem.W.instObj C s.heap.objs.size) }) :
    codeAny (model prog w) A (.call (.ref C) ⟨vs, kw⟩) R s := by
  obtain ⟨hh, g, d, t, os⟩ := s
  exact PySem.W.make_core (PySem.W.makes_of X hm) (PySem.W.looks_findIn X hi) (fun self => PySem.W.bind_fn X self hf) (.inl rfl) h
end
def putF (f : Str) (v : V) : List (Str × V) → List (Str × V)
  | [] => [(f, v)]
  | (g, x) :: r => if g = f then (g, v) :: r else (g, x) :: putF f v r
theorem lookup_putF (f g : Str) (v : V) : ∀ fs : List (Str × V), (putF f v fs).lookup g = if g = f then some v else fs.lookup g
  | [] => by
    show List.lookup g [(f, v)] = _
    by_cases h : g = f
    · have hb : (g == f) = true := beq_iff_eq.mpr h
      simp only [List.lookup, hb, if_pos h]
    · have hb : (g == f) = false := beq_eq_false_iff_ne.mpr h
      simp only [List.lookup, hb, if_neg h]
  | (k, x) :: r => by
    have ih := lookup_putF f g v r
    rw [show putF f v ((k, x) :: r) = (if k = f then (k, v) :: r else (k, x) :: putF f v r) from rfl]
    by_cases hk : k = f
    · rw [if_pos hk]
      by_cases h : g = k
      · have hb : (g == k) = true := beq_iff_eq.mpr h
        simp only [List.lookup, hb, if_pos (h.trans hk)]
      · have hb : (g == k) = false := beq_eq_false_iff_ne.mpr h
        simp only [List.lookup, hb, if_neg (fun e : g = f => h (e.trans hk.symm))]
    · rw [if_neg hk]
      by_cases h : g = k
      · have hb : (g == k) = true := beq_iff_eq.mpr h
        simp only [List.lookup, hb, if_neg (fun e : g = f => hk (h.symm.trans e))]
      · have hb : (g == k) = false := beq_eq_false_iff_ne.mpr h
        simp only [List.lookup, hb]
        exact ih
theorem keys_putF (f : Str) (v : V) : ∀ fs : List (Str × V), f ∈ (putF f v fs).map (·.1) ∧ ∀ g, g ∈ fs.map (·.1) → g ∈ (putF f v fs).map (·.1)
  | [] => ⟨by simp [putF], fun g h => by simp at h⟩
  | (k, x) :: r => by
    obtain ⟨i1, i2⟩ := keys_putF f v r
    rw [show putF f v ((k, x) :: r) = (if k = f then (k, v) :: r else (k, x) :: putF f v r) from rfl]
    by_cases hk : k = f
    · rw [if_pos hk]
      subst hk
      exact ⟨by simp, fun g h => by simpa using h⟩
    · rw [if_neg hk]
      refine ⟨?_, fun g h => ?_⟩
      · rw [List.map_cons]
        exact List.mem_cons_of_mem _ i1
      · rw [List.map_cons] at h ⊢
        rcases List.mem_cons.mp h with e | e
        · exact List.mem_cons.mpr (.inl e)
        · exact List.mem_cons_of_mem _ (i2 g e)
theorem length_putF (f : Str) (v : V) : ∀ fs : List (Str × V), (putF f v fs).length ≤ fs.length + 1
  | [] => by simp [putF]
  | (k, x) :: r => by
    have ih := length_putF f v r
    rw [show putF f v ((k, x) :: r) = (if k = f then (k, v) :: r else (k, x) :: putF f v r) from rfl]
    by_cases hk : k = f
    · rw [if_pos hk, List.length_cons, List.length_cons]; omega
    · rw [if_neg hk, List.length_cons, List.length_cons]; omega
theorem RelO.some_of {v : V} {o : Option Value} (r : RelO (some v) o) : ∃ u, o = some u ∧ RelV v u := by
  cases o with
  | none => exact (show False from r).elim
  | some u => exact ⟨u, rfl, r⟩
theorem RelO.none_of {o : Option Value} (r : RelO none o) : o = none := by
  cases o with
  | none => rfl
  | some u => exact (show False from r).elim
theorem handed_of {v : V} {u : Value} (r : RelV v u) : PySem.W.handedIn u = true := by
  cases v with
  | non => cases (show u = Value.none from r); rfl
  | bl b => cases (show u = Value.bool b from r); rfl
  | int i => obtain ⟨t, e⟩ := (show ∃ t, u = Value.int i t from r); cases e; rfl
  | str x => obtain ⟨t, e⟩ := (show ∃ t, u = Value.str x t from r); cases e; rfl
  | byt b => obtain ⟨t, e⟩ := (show ∃ t, u = Value.bytes b t from r); cases e; rfl
  | flt b => obtain ⟨t, e⟩ := (show ∃ t, u = Value.float b t from r); cases e; rfl
  | ref a => cases (show u = Value.ref a from r); rfl
  | ty n => cases (show u = Value.type n from r); rfl
section
variable {P : Program} {w : World} {H H' : Hp} {h h' : Heap} {a C dx : Addr} {fs fs' : List (Str × V)}
theorem ins_get (hok : HOk P w H h) (e : H a = some (.ins C dx fs)) : ∃ mA, ObjM h a dx C mA ∧ (∀ f, RelO (fs.lookup f) (mA f)) ∧ PySem.Within mA (fs.map (·.1)) ∧ fs.length ≤ 1000 ∧ H dx = some (.own a) := by
  obtain ⟨d, z, ne, ob, mA, n, r, q⟩ := (show ObjOk P w H h a (.ins C dx fs) from hok a _ e)
  exact ⟨mA, ⟨ob, n, ne⟩, r, q, z, d⟩
end
structure Cls (K : PySem.W.Frag) (C : Addr) : Prop where
  pg : PySem.W.plainGet K C Str.empty = true
  hd : PySem.W.hasDictIn K C = true
  po : PySem.W.plainOver K C = true
  sa : PySem.W.findIn K (.ref C) "__setattr__" = some (some (.builtin "object.__setattr__"))
theorem Cls.get {K : PySem.W.Frag} {C : Addr} (c : Cls K C) (f : Str) : PySem.W.plainGet K C f = true := c.pg
/-- no class of it has the name -/
def NoAttr (K : PySem.W.Frag) (C : Addr) (f : Str) : Prop := PySem.W.findIn K (.ref C) f = some none
theorem NoAttr.taker {K : PySem.W.Frag} {C : Addr} {f : Str} (n : NoAttr K C f) : PySem.W.takerIn K C f = some none := by
  unfold PySem.W.takerIn
  rw [show PySem.W.findIn K (.ref C) f = some none from n]
  rfl
/-- a method: a plain def of the class or of one above it -/
structure Meth (K : PySem.W.Frag) (C : Addr) (m : Str) (f : Addr) : Prop where
  at_ : PySem.W.findIn K (.ref C) m = some (some (.ref f))
  fn : PySem.W.isFn K (.ref f) = true
  kp : PySem.W.keepIn K (.ref f) = true
section
variable {X : Cx} {pins : List (Addr × Obj)} {σ : St} {H : Hp} {s : Shared} {a C dx : Addr} {fs : List (Str × V)} {f : Str} {v : V} {A : Around} {E : Value → Shared → Prop}
theorem getattr_ok {b : Bool} {Q : Value → Shared → Prop} (I : Inv X pins σ H s) (e : H a = some (.ins C dx fs)) (c : Cls X.K C) (n : NoAttr X.K C f) (l : fs.lookup f = some v)
    (h : ∀ u s', Inv X pins σ H s' → RelV v u → Q u s') : wpAny (model X.prog X.w) A (getAttr (.ref a) f b) Q E s := by
  obtain ⟨mA, O, r, _, _, _⟩ := ins_get I.hok e
  obtain ⟨u, hu, ru⟩ := RelO.some_of (v := v) (o := mA f) (by rw [← l]; exact r f)
  exact get_map I.kIn O (c.get f) c.hd n hu (handed_of ru) (h u _ (I.tok _) ru)
theorem getmeth_ok {m : Str} {g : Addr} {pl : Sem Bool} {Q : Value × List Value → Shared → Prop} (I : Inv X pins σ H s) (e : H a = some (.ins C dx fs)) (c : Cls X.K C) (k : Meth X.K C m g) (l : fs.lookup m = none)
    (h : Q (.ref g, [.ref a]) s) : wpAny (model X.prog X.w) A (getMethod (.ref a) m pl) Q E s := by
  obtain ⟨mA, O, r, _, _, _⟩ := ins_get I.hok e
  have hn : mA m = none := RelO.none_of (by rw [← l]; exact r m)
  exact get_meth I.kIn O (c.get m) k.at_ k.fn hn h
theorem setattr_ok {y : V} {u : Value} {Q : Unit → Shared → Prop} (I : Inv X pins σ H s) (e : H a = some (.ins C dx fs)) (c : Cls X.K C) (n : NoAttr X.K C f) (hl : fs.length < 1000) (ry : RelV y u)
    (h : ∀ s', Inv X pins σ (upd H a (.ins C dx (putF f y fs))) s' → Q () s') : wpAny (model X.prog X.w) A (setAttr (.ref a) f u) Q E s := by
  obtain ⟨mA, O, r, wi, _, ho⟩ := ins_get I.hok e
  have hz : (fs.map (·.1)).length ≤ sizeLine := by rw [List.length_map, sizeLine_eq]; omega
  refine set_map I.kIn O c.sa c.po n.taker c.hd wi hz fun h' O' sb => h _ ?_
  have hd : ∃ o, h'.get? dx = some o := let ⟨o, _, _, e', _⟩ := O'.ns; ⟨o, e'⟩
  refine I.write (x := a) (e := dx) (by rw [e]; exact True.intro) (.inr ho) (fun b q hb z => (sb.2 b hb).trans z) hd ?_
  refine ⟨by rw [upd_ne O.ne]; exact ho, ?_, O.ne, O'.obj, _, O'.ns, fun g => ?_, fun g hg => ?_⟩
  · have := length_putF f y fs; omega
  · show RelO ((putF f y fs).lookup g) (if g = f then some u else mA g)
    rw [lookup_putF]
    by_cases q : g = f
    · rw [if_pos q, if_pos q]; exact ry
    · rw [if_neg q, if_neg q]; exact r g
  · by_cases q : g = f
    · rw [q]; exact (keys_putF f y fs).1
    · refine (keys_putF f y fs).2 g (wi g fun z => hg ?_)
      show (if g = f then some u else mA g) = none
      rw [if_neg q]; exact z
/-- a new instance, tracked, without attributes -/
theorem Inv.made (I : Inv X pins σ H s) : Inv X pins σ (upd (upd H s.heap.objs.size (.own (s.heap.objs.size + 1))) (s.heap.objs.size + 1) (.ins C s.heap.objs.size []))
    { s with heap := (s.heap.push PySem.W.emptyDict).push (PySem.W.instObj C s.heap.objs.size) } := by
  have e1 : (s.heap.push PySem.W.emptyDict).get? s.heap.objs.size = some PySem.W.emptyDict := Heap.get?_push_size s.heap rfl
  have e2 : ((s.heap.push PySem.W.emptyDict).push (PySem.W.instObj C s.heap.objs.size)).get? (s.heap.objs.size + 1) = some (PySem.W.instObj C s.heap.objs.size) := by
    have := Heap.get?_push_size (s.heap.push PySem.W.emptyDict) (o := PySem.W.instObj C s.heap.objs.size) rfl
    rwa [Heap.size_push] at this
  have e3 : (s.heap.push PySem.W.emptyDict).Ns s.heap.objs.size (fun _ => none) := ⟨PySem.W.emptyDict, #[], _, e1, rfl, (fun e he => absurd he (by simp)), fun _ => rfl⟩
  have I1 := I.laid (a := s.heap.objs.size) (o := .own (s.heap.objs.size + 1)) (h' := s.heap.push PySem.W.emptyDict) (t' := s.toks) (fun b u q => Heap.get?_push_of_some _ q) (Nat.le_refl _) ⟨_, e1⟩
  refine I1.laid (a := s.heap.objs.size + 1) (o := .ins C s.heap.objs.size []) (t' := s.toks) (fun b u q => Heap.get?_push_of_some _ q) (Nat.le_of_eq (Heap.size_push _ _)) ?_
  have ne : s.heap.objs.size ≠ s.heap.objs.size + 1 := Nat.ne_of_lt (Nat.lt_succ_self _)
  refine ⟨by rw [upd_ne ne, upd_same], Nat.zero_le _, ne, e2, fun _ => none, (Heap.Ns1.of_empty e3).at fun o q => Heap.get?_push_of_some _ q, fun _ => True.intro, fun y hy => absurd rfl hy⟩
/-- e.f where nothing but the object is asked: through attributeBase (super) and the last hold -/
theorem attr_of {prog : Program} {w : World} {env : Env} {e : Expr} {f : Str} {pos : Pos} {s : Shared} {Q : Value → Shared → Prop} (hb : attributeBase e f env (eval e env) = eval e env)
    (h : wpAny (model prog w) A (eval e env) (fun o s₁ => wpAny (model prog w) A (getAttr o f true) Q E s₁) E s) : wpAny (model prog w) A (eval (.Attribute e f pos) env) Q E s :=
  Attribute_any_ h (by rw [arm_eval_Attribute, hb])
end
/-- e.f, an attribute of the instance -/
def tFld (K : PySem.W.Frag) (ta : TE) (f : Str) : TE := fun σ H Q => ta σ H fun x H1 => ∃ a C dx fs v, x = .ref a ∧ H1 a = some (.ins C dx fs) ∧ Cls K C ∧ NoAttr K C f ∧ fs.lookup f = some v ∧ Q v H1
/-- e.f = value -/
def sFld (K : PySem.W.Frag) (ta tv : TE) (f : Str) : TS := fun D σ H => tv σ H fun y H1 => ta σ H1 fun x H2 => ∃ a C dx fs, x = .ref a ∧ H2 a = some (.ins C dx fs) ∧ Cls K C ∧ NoAttr K C f ∧ fs.length < 1000 ∧
  D.nx σ (upd H2 a (.ins C dx (putF f y fs)))
/-- an augmented operator on two values -/
def InOp (X : Cx) (op : Operator) (rd : V → V → Hp → VK → Prop) : Prop :=
  ∀ (pins : List (Addr × Obj)) (s : Shared) (σ : St) (H : Hp) (x y : V) (u v : Value) (Q : VK), Inv X pins σ H s → RelV x u → RelV y v → rd x y H Q → wpAny (model X.prog X.w) X.A (inplaceOp op u v) (EP X pins σ Q) X.xe s
/-- e.f op= value -/
def sFldAug (K : PySem.W.Frag) (ta tv : TE) (rd : V → V → Hp → VK → Prop) (f : Str) : TS := fun D σ H => ta σ H fun x H1 => ∃ a C dx fs v, x = .ref a ∧ H1 a = some (.ins C dx fs) ∧ Cls K C ∧ NoAttr K C f ∧ fs.lookup f = some v ∧
  tv σ H1 fun y H2 => rd v y H2 fun z H3 => ∃ dx' fs', H3 a = some (.ins C dx' fs') ∧ fs'.length < 1000 ∧ D.nx σ (upd H3 a (.ins C dx' (putF f z fs')))
section
variable {X : Cx} {o e value : Expr} {f : Str} {pos pos' tpos : Pos} {ta tv : TE}
theorem pe_fld (he : PE X e ta) (hb : attributeBase e f X.env (eval e X.env) = eval e X.env) : PE X (.Attribute e f pos) (tFld X.K ta f) := by
  intro pins s σ H Q I h
  refine attr_of hb (thn (he pins s σ H _ I h) fun u s1 ⟨x, H1, I1, rx, a, C, dx, fs, v, ex, ea, c, n, l, q⟩ => ?_)
  subst ex
  obtain rfl : u = Value.ref a := rx
  exact getattr_ok I1 ea c n l fun u' s2 I2 ru => ⟨v, H1, I2, ru, q⟩
theorem ps_fld (ha : PE X o ta) (hv : PE X value tv) (hs : swapsWith value (some (.Attribute o f pos')) pos.line X.env = pure false) : PS X (.Assign [.Attribute o f pos'] value pos) (sFld X.K ta tv f) := by
  intro pins s σ H D I h
  refine plainObj_wpAny_Assign_Attribute (thn (hv pins s σ H _ I h) fun u s1 ⟨y, H1, I1, ry, q⟩ => thn (ha pins s1 σ H1 _ I1 q) fun ov s2 ⟨x, H2, I2, rx, a, C, dx, fs, ex, ea, c, n, l, q2⟩ => ?_) hs
  subst ex
  obtain rfl : ov = Value.ref a := rx
  exact setattr_ok I2 ea c n l ry fun s3 I3 => ⟨σ, _, I3, q2⟩
theorem ps_fldaug {op : Operator} {rd : V → V → Hp → VK → Prop} (ha : PE X o ta) (hv : PE X value tv) (hop : InOp X op rd) : PS X (.AugAssign (.Attribute o f tpos) op value pos) (sFldAug X.K ta tv rd f) := by
  intro pins s σ H D I h
  refine wpAny_AugAssign_AttributeAny (thn (ha pins s σ H _ I h) fun ov s1 ⟨x, H1, I1, rx, a, C, dx, fs, v, ex, ea, c, n, l, q⟩ => ?_)
  subst ex
  obtain rfl : ov = Value.ref a := rx
  refine getattr_ok I1 ea c n l fun u s2 I2 ru => thn (hv pins s2 σ H1 _ I2 q) fun w3 s3 ⟨y, H2, I3, ry, q3⟩ => thn (hop pins s3 σ H2 v y u w3 _ I3 ru ry q3) fun w4 s4 ⟨z, H3, I4, rz, dx', fs', ea', l', q4⟩ => ?_
  exact setattr_ok I4 ea' c n l' rz fun s5 I5 => ⟨σ, _, I5, q4⟩
def rAdd : V → V → Hp → VK → Prop := fun x y H Q => ∃ i j, x = .int i ∧ y = .int j ∧ Q (.int (i + j)) H
theorem in_add : InOp X .Add rAdd := by
  rintro pins s σ H x y u v Q I rx ry ⟨i, j, rfl, rfl, q⟩
  obtain ⟨t, rfl⟩ := (show ∃ t, u = Value.int i t from rx)
  obtain ⟨t', rfl⟩ := (show ∃ t', v = Value.int j t' from ry)
  exact PyProof.Rows.iadd_int ⟨.int (i + j), H, I.tok _, ⟨_, rfl⟩, q⟩
end
end L2
namespace L2
open PySem PySem.Spec PyProof.Rows
structure Room (k : Nat) (A : Around) : Prop where
  hd : A.handled = none
  dp : A.depth + 3 * k + 5 < recursionLimit
  un : A.units + 16 * k + 200 < cLine
theorem Room.mono {j k : Nat} {A : Around} (r : Room k A) (h : j ≤ k) : Room j A := ⟨r.hd, by have := r.dp; omega, by have := r.un; omega⟩
theorem Room.deeper {k : Nat} {A : Around} (r : Room (k + 1) A) (env : Env) : Room k (A.deeper env) :=
  ⟨r.hd, by have := r.dp; show A.depth + 1 + 3 * k + 5 < _; omega, by have := r.un; show A.units + 3 + 16 * k + 200 < _; omega⟩
theorem make_depth {A : Around} {C : Addr} {us : List Value} {kw : List (Str × Value)} : (A.under (.builtin "type.__call__" ⟨.ref C :: us, kw⟩)).depth = A.depth + 1 := by
  first | rfl | simp [Around.under, Code.weight, Code.isCreation, Code.isGuard, Code.isCaller, Code.frames, Code.isFrame, guardIds]
theorem make_units {A : Around} {C : Addr} {us : List Value} {kw : List (Str × Value)} : (A.under (.builtin "type.__call__" ⟨.ref C :: us, kw⟩)).units = A.units + 1 := by
  first | rfl | simp [Around.under, Code.cUnits, Code.frames, Code.isFrame]
theorem Room.make {k : Nat} {A : Around} (r : Room (k + 1) A) (C : Addr) (us : List Value) (kw : List (Str × Value)) : Room k (A.under (.builtin "type.__call__" ⟨.ref C :: us, kw⟩)) :=
  ⟨r.hd, by have := r.dp; rw [make_depth]; omega, by have := r.un; rw [make_units]; omega⟩
theorem Room.depth {k : Nat} {A : Around} (r : Room k A) : A.depth < recursionLimit := by have := r.dp; omega
def tNil : TA := fun _ H Q => Q [] H
def tCons (ta : TE) (tr : TA) : TA := fun σ H Q => ta σ H fun x H1 => tr σ H1 fun xs H2 => Q (x :: xs) H2
section
variable {X : Cx} {e : Expr} {es : List Expr} {te : TE} {t : TA} {pos : Pos}
theorem pa_nil : PA X [] tNil := fun _ _ _ _ H Q I h => Calls.spliced_nil ⟨[], H, I, .nil, h⟩
theorem pa_cons (ha : PE X e te) (hr : PA X es t) (hs : starEach (e :: es) X.env = (false, eval e X.env) :: starEach es X.env := by rfl) : PA X (e :: es) (tCons te t) := by
  intro pos pins s σ H Q I h
  rw [hs]
  show wpAny _ _ (spliced ((false, eval e X.env) :: backTo pos (starEach es X.env))) _ _ s
  refine Calls.spliced_cons (thn (ha pins s σ H _ I h) fun u s1 ⟨x, H1, I1, r1, q1⟩ => ?_)
  exact thn (hr pos pins s1 σ H1 _ I1 q1) fun us s2 ⟨xs, H2, I2, r2, q2⟩ => ⟨x :: xs, H2, I2, .cons r1 r2, q2⟩
def tLst (t : TA) : TE := fun σ H Q => t σ H fun xs H1 => xs.length ≤ sizeLine ∧ ∀ p, H1 p = none → Q (.ref p) (upd H1 p (.lst xs))
theorem pe_lst (h : PA X es t) : PE X (.List es pos) (tLst t) := by
  intro pins s σ H Q I hq
  refine wpAny_List_spliced (thn (h pos pins s σ H _ I hq) fun us s1 ⟨xs, H1, I1, r, z, q⟩ => ⟨by rw [← r.length]; exact z, ?_⟩)
  have hf : H1 s1.heap.objs.size = none := I1.hok.fresh (Nat.le_refl _)
  refine ⟨.ref s1.heap.objs.size, upd H1 s1.heap.objs.size (.lst xs), I1.laid (t' := s1.toks) (fun b u e => Heap.get?_push_of_some _ e) (Nat.le_refl _) ?_, rfl, q _ hf⟩
  exact ⟨z, us, 0, r, Heap.get?_push_size _ rfl⟩
end
/-- a def's promise: the bound arguments in the parameters' order, the heap, the wanted end, the wanted exception -/
abbrev Sp := List V → Hp → VK → XK → Prop
/-- how an exception lies behind a call (file 08 gives it): the callers' frames, abstract heap and state ahead of the call, the wish, the exception, the state -/
abbrev CXT := List Env → Hp → Shared → XK → Value → Shared → Prop
/-- the state at a call -/
structure Env0 (P : Program) (w : World) (K : PySem.W.Frag) (mg : Str → Option Value) (base : Heap) (A : Around) (outer : List Env) (s : Shared) (H : Hp) : Prop where
  frames : A.frames = some outer
  mod : Mod K mg base
  bs : ∀ b o, base.get? b = some o → s.heap.get? b = some o ∧ H b = none
  bsz : base.objs.size ≤ s.heap.objs.size
  funs : s.heap.FunFrames base outer
  frf : ∀ b ∈ frs outer, H b = none
  hok : HOk P w H s.heap
  bare : AllBare s.gens
/-- a call's end -/
def CE (outer : List Env) (P : Program) (w : World) (H : Hp) (s : Shared) (Q : VK) (u : Value) (s' : Shared) : Prop :=
  ∃ v H', s'.os = s.os ∧ AllBare s'.gens ∧ Un (frs outer) [] H H' s.heap s'.heap ∧ HOk P w H' s'.heap ∧ RelV v u ∧ Q v H'
def CR (CX : CXT) (outer : List Env) (P : Program) (w : World) (H : Hp) (s : Shared) (Q : VK) (E : XK) (r : Result) (s' : Shared) : Prop :=
  match r with
  | .ok (.ret u) => CE outer P w H s Q u s'
  | .ok _ => False
  | .error e => CX outer H s E e s'
structure FnOk (P : Program) (w : World) (K : PySem.W.Frag) (mg : Str → Option Value) (base : Heap) (CX : CXT) (k : Nat) (f : Addr) (fd : FuncData) (ps : List Str) (sp : Sp) : Prop where
  len : ∀ vs H Q E, sp vs H Q E → vs.length = ps.length
  run : ∀ (A : Around) (outer : List Env) (s : Shared) (H : Hp) (args : Args) (us : List Value) (vs : List V) (Q : VK) (E : XK), Room k A → Env0 P w K mg base A outer s H → BindsTo s fd args (ps.zip us) → Vals vs us → sp vs H Q E →
    codeAny (model P w) A (.call (.ref f) args) (CR CX outer P w H s Q E) s
theorem FnOk.mono {P : Program} {w : World} {K : PySem.W.Frag} {mg : Str → Option Value} {base : Heap} {CX : CXT} {j k : Nat} {f : Addr} {fd : FuncData} {ps : List Str} {sp : Sp} (F : FnOk P w K mg base CX j f fd ps sp) (h : j ≤ k) :
    FnOk P w K mg base CX k f fd ps sp := ⟨F.len, fun A outer s H args us vs Q E hr => F.run A outer s H args us vs Q E (hr.mono h)⟩
/-- a weaker promise -/
theorem FnOk.imp {P : Program} {w : World} {K : PySem.W.Frag} {mg : Str → Option Value} {base : Heap} {CX : CXT} {k : Nat} {f : Addr} {fd : FuncData} {ps : List Str} {sp sp' : Sp} (F : FnOk P w K mg base CX k f fd ps sp)
    (h : ∀ vs H Q E, sp' vs H Q E → sp vs H Q E) : FnOk P w K mg base CX k f fd ps sp' :=
  ⟨fun vs H Q E q => F.len vs H Q E (h _ _ _ _ q), fun A outer s H args us vs Q E hr he hb hv hs => F.run A outer s H args us vs Q E hr he hb hv (h _ _ _ _ hs)⟩
theorem Env0.make {P : Program} {w : World} {K : PySem.W.Frag} {mg : Str → Option Value} {base : Heap} {A : Around} {outer : List Env} {s : Shared} {H : Hp} (e : Env0 P w K mg base A outer s H) (C : Addr) (us : List Value) (kw : List (Str × Value)) :
    Env0 P w K mg base (A.under (.builtin "type.__call__" ⟨.ref C :: us, kw⟩)) outer s H := ⟨by first | exact e.frames | (simpa [Around.under, Code.envs, Code.isFrame, pushEnvs] using e.frames), e.mod, e.bs, e.bsz, e.funs, e.frf, e.hok, e.bare⟩
section
variable {X : Cx} {pins : List (Addr × Obj)} {σ : St} {H : Hp} {s s' : Shared}
/-- from a body: what a callee wants -/
theorem Inv.env0 (I : Inv X pins σ H s) : Env0 X.prog X.w X.K X.mg X.base X.A X.stack s H :=
  ⟨I.ok.frames, I.ok.mod, I.bs, Nat.le_trans I.ok.bsz I.sz, I.stack, I.stkFree, I.hok, I.bare⟩
/-- behind a call -/
theorem Inv.after {Q : VK} {u : Value} (I : Inv X pins σ H s) (h : CE X.stack X.prog X.w H s Q u s') : EP X pins σ Q u s' := by
  obtain ⟨v, H', os, bare, un, hok, r, q⟩ := h
  obtain ⟨hh, g, d, t, os'⟩ := s'
  obtain rfl : os' = s.os := os
  exact ⟨v, H', I.call (h' := hh) (g' := g) (d' := d) (t' := t) (ch := []) un hok bare (fun b z => absurd z (by simp)), r, q⟩
end
/-- f(..): the written arguments, then the defaults dvs; E: what is wanted of an exception -/
def tCall (sp : Sp) (dvs : List V) (E : XK) (t : TA) : TE := fun σ H Q => t σ H fun vs H1 => sp (vs ++ dvs) H1 Q E
/-- o.m(..) of an instance of the class at C -/
def tMeth (C : Addr) (m : Str) (sp : Sp) (dvs : List V) (E : XK) (ta : TE) (t : TA) : TE := fun σ H Q => ta σ H fun x H1 => ∃ a dx fs, x = .ref a ∧ H1 a = some (.ins C dx fs) ∧ fs.lookup m = none ∧
  t σ H1 fun vs H2 => sp (x :: (vs ++ dvs)) H2 Q E
/-- C(..): a new instance and its dict, then __init__ -/
def tMake (C : Addr) (sp : Sp) (dvs : List V) (E : XK) (t : TA) : TE := fun σ H Q => t σ H fun vs H1 => ∀ x dx, H1 x = none → H1 dx = none → dx ≠ x →
  sp (.ref x :: (vs ++ dvs)) (upd (upd H1 dx (.own x)) x (.ins C dx [])) (fun v H2 => v = .non ∧ Q (.ref x) H2) E
/-- how the parameters are bound: us the positional arguments, kw the keywords' values by name, ds the defaults that fill up -/
def Binds (K : PySem.W.Frag) (fd : FuncData) (ps : List Str) (ds : List Value) : Prop :=
  ∀ (s : Shared) (us : List Value), K.In s.heap → (us ++ ds).length = ps.length → BindsTo s fd ⟨us, []⟩ (ps.zip (us ++ ds))
/-- every parameter is given -/
theorem Binds.all {K : PySem.W.Frag} {fd : FuncData} {ps : List Str} (h : ∀ us : List Value, us.length = ps.length → bindArgs fd ⟨us, []⟩ = pure (ps.zip us)) : Binds K fd ps [] := fun s us _ hl => by
  rw [List.append_nil] at hl ⊢
  exact .of_eq (h us hl)
/-- an exception of a callee reaches what this body wants of exceptions -/
def Passes (CX : CXT) (X : Cx) (E : XK) : Prop := ∀ (pins : List (Addr × Obj)) (σ : St) (H : Hp) (s : Shared) (e : Value) (s' : Shared), Inv X pins σ H s → CX X.stack H s E e s' → X.xe e s'
section
variable {X : Cx} {CX : CXT} {k : Nat} {f C : Addr} {fd : FuncData} {ps : List Str} {sp : Sp} {dvs : List V} {ds : List Value} {E : XK} {x m : Str} {p pos apos : Pos} {e o : Expr} {es : List Expr} {ta : TE} {t : TA}
/-- the callee runs -/
theorem run_fn {pins : List (Addr × Obj)} {σ : St} {H : Hp} {s : Shared} {Q : VK} {us : List Value} {vs : List V} (F : FnOk X.prog X.w X.K X.mg X.base CX k f fd ps sp) (hr : Room k X.A) (hb : Binds X.K fd ps ds) (hd : Vals dvs ds) (hx : Passes CX X E)
    (I : Inv X pins σ H s) (r : Vals vs us) (h : sp (vs ++ dvs) H Q E) : wpAny (model X.prog X.w) X.A (call (.ref f) us) (EP X pins σ Q) X.xe s := by
  have r2 : Vals (vs ++ dvs) (us ++ ds) := r.append hd
  have hl : (us ++ ds).length = ps.length := by rw [← r2.length]; exact F.len _ _ _ _ h
  refine wpAny_call (codeAny_mono (F.run X.A X.stack s H ⟨us, []⟩ (us ++ ds) (vs ++ dvs) Q E hr I.env0 (hb s us I.kIn hl) r2 h) fun r s' hq => ?_)
  cases r with
  | error e => exact hx pins σ H s e s' I hq
  | ok fl =>
    cases fl with
    | ret u => exact I.after hq
    | next => exact False.elim hq
    | brk => exact False.elim hq
    | cont => exact False.elim hq
theorem pe_call (F : FnOk X.prog X.w X.K X.mg X.base CX k f fd ps sp) (hr : Room k X.A) (hg : Gl X x) (hm : X.mg x = some (.ref f)) (hk : PySem.W.keepIn X.K (.ref f) = true) (hb : Binds X.K fd ps ds) (hd : Vals dvs ds) (hx : Passes CX X E)
    (ha : PA X (e :: es) t) (hdb : (x == ("__debug__" : Str)) = false := by decide) (he : starEach (e :: es) X.env = (false, eval e X.env) :: starEach es X.env := by rfl) (hpl : (backTo pos (starEach es X.env)).any (·.1) = false := by rfl) :
    PE X (.Call (.Name x p) (e :: es) [] pos) (tCall sp dvs E t) := by
  intro pins s σ H Q I h
  refine wpAny_Call_Name_kw (ld_glob I hg hm ?_ hdb)
  refine PySem.W.callWith_K (h₀ := X.base) I.ok.mod.kin hk (thn (ha pos pins s σ H _ I h) fun us s1 ⟨vs, H1, I1, r, q⟩ => ⟨I1.kIn, ?_⟩) he hpl
  exact run_fn F hr hb hd hx I1 r q
/-- o.m(e, ..) -/
theorem pe_meth {pl : Sem Bool} (he : PE X o ta) (c : Cls X.K C) (hm : Meth X.K C m f) (F : FnOk X.prog X.w X.K X.mg X.base CX k f fd ps sp) (hr : Room k X.A) (hb : Binds X.K fd ps ds) (hd : Vals dvs ds) (hx : Passes CX X E) (ha : PA X (e :: es) t)
    (hst : starEach (e :: es) X.env = (false, eval e X.env) :: starEach es X.env := by rfl) (hpl : (backTo pos (starEach es X.env)).any (·.1) = false := by rfl)
    (ht : eval (.Call (.Attribute o m apos) (e :: es) [] pos) X.env = (do
      let ov ← eval o X.env
      standAt apos.atName
      let (f, first) ← holding [ov] (getMethod ov m pl)
      callWith pos f first (backTo pos (starEach (e :: es) X.env)) (backToKw pos (keywordEach [] X.env))) := by rfl) :
    PE X (.Call (.Attribute o m apos) (e :: es) [] pos) (tMeth C m sp dvs E ta t) := by
  intro pins s σ H Q I h
  refine PySem.W.methodCall_KW (pl := pl) (thn (he pins s σ H _ I h) fun u s1 ⟨x, H1, I1, rx, a, dx, fs, ex, ea, l, q⟩ => ?_) ht
  subst ex
  obtain rfl : u = Value.ref a := rx
  refine getmeth_ok I1 ea c hm l ?_
  refine PySem.W.callWith_K (first := [.ref a]) (h₀ := X.base) I.ok.mod.kin hm.kp (thn (ha pos pins s1 σ H1 _ I1 q) fun us s2 ⟨vs, H2, I2, r, q2⟩ => ⟨I2.kIn, ?_⟩) hst hpl
  exact run_fn (us := .ref a :: us) (vs := .ref a :: vs) F hr hb hd hx I2 (.cons rfl r) q2
/-- o.m() -/
theorem pe_meth0 {pl : Sem Bool} (he : PE X o ta) (c : Cls X.K C) (hm : Meth X.K C m f) (F : FnOk X.prog X.w X.K X.mg X.base CX k f fd ps sp) (hr : Room k X.A) (hb : Binds X.K fd ps ds) (hd : Vals dvs ds) (hx : Passes CX X E)
    (ht : eval (.Call (.Attribute o m apos) [] [] pos) X.env = (do
      let ov ← eval o X.env
      standAt apos.atName
      let (f, first) ← holding [ov] (getMethod ov m pl)
      callWith pos f first (backTo pos (starEach [] X.env)) (backToKw pos (keywordEach [] X.env))) := by rfl) :
    PE X (.Call (.Attribute o m apos) [] [] pos) (tMeth C m sp dvs E ta tNil) := by
  intro pins s σ H Q I h
  refine PySem.W.methodCall_KW (pl := pl) (thn (he pins s σ H _ I h) fun u s1 ⟨x, H1, I1, rx, a, dx, fs, ex, ea, l, q⟩ => ?_) ht
  subst ex
  obtain rfl : u = Value.ref a := rx
  refine getmeth_ok I1 ea c hm l ?_
  exact PySem.W.callWith_K0 (first := [.ref a]) I1.kIn hm.kp (run_fn (us := [.ref a]) (vs := [.ref a]) F hr hb hd hx I1 (.cons rfl .nil) q)
/-- what a class must have to be made -/
structure Mk (K : PySem.W.Frag) (C f : Addr) : Prop where
  makes : PySem.W.makesIn K C = true
  init : PySem.W.findIn K (.ref C) "__init__" = some (some (.ref f))
  fn : PySem.W.isFn K (.ref f) = true
  kp : PySem.W.keepIn K (.ref C) = true
theorem run_make {pins : List (Addr × Obj)} {σ : St} {H : Hp} {s : Shared} {Q : VK} {us : List Value} {vs : List V} (M : Mk X.K C f) (F : FnOk X.prog X.w X.K X.mg X.base CX k f fd ps sp) (hr : Room (k + 1) X.A) (hb : Binds X.K fd ps ds) (hd : Vals dvs ds)
    (hx : Passes CX X E) (I : Inv X pins σ H s) (r : Vals vs us)
    (h : ∀ x dx, H x = none → H dx = none → dx ≠ x → sp (.ref x :: (vs ++ dvs)) (upd (upd H dx (.own x)) x (.ins C dx [])) (fun v H2 => v = .non ∧ Q (.ref x) H2) E) :
    wpAny (model X.prog X.w) X.A (call (.ref C) us) (EP X pins σ Q) X.xe s := by
  have hq := h (s.heap.objs.size + 1) s.heap.objs.size (I.hok.fresh (Nat.le_succ _)) (I.hok.fresh (Nat.le_refl _)) (Nat.ne_of_lt (Nat.lt_succ_self _))
  have I2 := Inv.made (C := C) I
  have r2 : Vals (V.ref (s.heap.objs.size + 1) :: (vs ++ dvs)) (Value.ref (s.heap.objs.size + 1) :: (us ++ ds)) := .cons rfl (r.append hd)
  have hl : (Value.ref (s.heap.objs.size + 1) :: us ++ ds).length = ps.length := by
    have e := r2.length
    rw [F.len _ _ _ _ hq] at e
    exact e.symm
  refine wpAny_call (make_map (f := f) I.kIn M.makes M.init (beq_iff_eq.mp M.fn) (codeAny_mono (F.run _ X.stack _ _ ⟨Value.ref (s.heap.objs.size + 1) :: us, []⟩ (Value.ref (s.heap.objs.size + 1) :: (us ++ ds)) _ _ E (hr.make C us [])
    (I2.env0.make C us []) (hb _ (Value.ref (s.heap.objs.size + 1) :: us) I2.kIn hl) r2 hq) fun r s' hq' => ?_))
  cases r with
  | error e => exact hx pins σ _ _ e s' I2 hq'
  | ok fl =>
    cases fl with
    | ret u =>
      obtain ⟨v, H', I3, rv, ev, q3⟩ := I2.after hq'
      subst ev
      exact ⟨rv, ⟨V.ref (s.heap.objs.size + 1), H', I3, rfl, q3⟩⟩
    | next => exact False.elim hq'
    | brk => exact False.elim hq'
    | cont => exact False.elim hq'
theorem pe_make (M : Mk X.K C f) (F : FnOk X.prog X.w X.K X.mg X.base CX k f fd ps sp) (hr : Room (k + 1) X.A) (hg : Gl X x) (hm : X.mg x = some (.ref C)) (hb : Binds X.K fd ps ds) (hd : Vals dvs ds) (hx : Passes CX X E)
    (ha : PA X (e :: es) t) (hdb : (x == ("__debug__" : Str)) = false := by decide) (he : starEach (e :: es) X.env = (false, eval e X.env) :: starEach es X.env := by rfl) (hpl : (backTo pos (starEach es X.env)).any (·.1) = false := by rfl) :
    PE X (.Call (.Name x p) (e :: es) [] pos) (tMake C sp dvs E t) := by
  intro pins s σ H Q I h
  refine wpAny_Call_Name_kw (ld_glob I hg hm ?_ hdb)
  refine PySem.W.callWith_K (h₀ := X.base) I.ok.mod.kin M.kp (thn (ha pos pins s σ H _ I h) fun us s1 ⟨vs, H1, I1, r, q⟩ => ⟨I1.kIn, ?_⟩) he hpl
  exact run_make M F hr hb hd hx I1 r q
theorem pe_make0 (M : Mk X.K C f) (F : FnOk X.prog X.w X.K X.mg X.base CX k f fd ps sp) (hr : Room (k + 1) X.A) (hg : Gl X x) (hm : X.mg x = some (.ref C)) (hb : Binds X.K fd ps ds) (hd : Vals dvs ds) (hx : Passes CX X E)
    (hdb : (x == ("__debug__" : Str)) = false := by decide) : PE X (.Call (.Name x p) [] [] pos) (tMake C sp dvs E tNil) := by
  intro pins s σ H Q I h
  refine wpAny_Call_Name_kw (ld_glob I hg hm ?_ hdb)
  exact PySem.W.callWith_K0 I.kIn M.kp (run_make (us := []) M F hr hb hd hx I .nil h)
end
/-- names: the parameters first -/
structure FnScope (N P : List Str) (sc : Scope) : Prop where
  kind : sc.kind = .function
  co : sc.isCoroutine = false
  gen : sc.isGenerator = false
  nd : N.Nodup
  pre : N.take P.length = P
  par : ∀ x ∈ P, sc.names.lookup x = some .local ∨ sc.names.lookup x = some .cell
  nofree : ∀ y ∈ sc.names, y.2 ≠ .free
theorem bindL_out {kindOf : Str → Option NameKind} {x : Str} : ∀ {binds : List (Str × Value)} {m : Str → Option Value}, (∀ v, (x, v) ∉ binds) → bindL kindOf binds m x = m x
  | [], _, _ => rfl
  | (n, v) :: r, m, h => by
    unfold bindL
    rw [bindL_out fun w hw => h w (List.mem_cons_of_mem _ hw)]
    split
    · have : x ≠ n := by rintro rfl; exact h v List.mem_cons_self
      simp [this]
    · rfl
theorem bindC_out {kindOf : Str → Option NameKind} {x : Str} : ∀ {binds : List (Str × Value)} {m : Str → Option Value}, (∀ v, (x, v) ∉ binds) → bindC kindOf binds m x = m x
  | [], _, _ => rfl
  | (n, v) :: r, m, h => by
    unfold bindC
    rw [bindC_out fun w hw => h w (List.mem_cons_of_mem _ hw)]
    split
    · rfl
    · have : x ≠ n := by rintro rfl; exact h v List.mem_cons_self
      simp [this]
theorem bindL_get {kindOf : Str → Option NameKind} {x : Str} {v : Value} : ∀ {P : List Str} {vs : List Value} {i : Nat} {m : Str → Option Value}, P.Nodup → P[i]? = some x → vs[i]? = some v → kindOf x = some .local →
    bindL kindOf (P.zip vs) m x = some v
  | [], _, _, _, _, h, _, _ => by simp at h
  | _ :: _, [], _, _, _, _, h, _ => by simp at h
  | p :: P, w :: vs, 0, m, nd, h1, h2, hk => by
    simp at h1 h2; subst h1; subst h2
    show bindL kindOf ((p, w) :: P.zip vs) m p = _
    unfold bindL
    rw [bindL_out fun v hv => (List.nodup_cons.mp nd).1 (List.of_mem_zip hv).1, if_pos hk]
    simp
  | p :: P, w :: vs, i + 1, m, nd, h1, h2, hk => by
    show bindL kindOf ((p, w) :: P.zip vs) m x = _
    unfold bindL
    exact bindL_get (i := i) (List.nodup_cons.mp nd).2 (by simpa using h1) (by simpa using h2) hk
theorem bindC_get {kindOf : Str → Option NameKind} {x : Str} {v : Value} : ∀ {P : List Str} {vs : List Value} {i : Nat} {m : Str → Option Value}, P.Nodup → P[i]? = some x → vs[i]? = some v → kindOf x ≠ some .local →
    bindC kindOf (P.zip vs) m x = some v
  | [], _, _, _, _, h, _, _ => by simp at h
  | _ :: _, [], _, _, _, _, h, _ => by simp at h
  | p :: P, w :: vs, 0, m, nd, h1, h2, hk => by
    simp at h1 h2; subst h1; subst h2
    show bindC kindOf ((p, w) :: P.zip vs) m p = _
    unfold bindC
    rw [bindC_out fun v hv => (List.nodup_cons.mp nd).1 (List.of_mem_zip hv).1, if_neg hk]
    simp
  | p :: P, w :: vs, i + 1, m, nd, h1, h2, hk => by
    show bindC kindOf ((p, w) :: P.zip vs) m x = _
    unfold bindC
    exact bindC_get (i := i) (List.nodup_cons.mp nd).2 (by simpa using h1) (by simpa using h2) hk
/-- the names' values at the entry -/
def start (N : List Str) (vs : List V) : St := vs.map some ++ List.replicate (N.length - vs.length) none
/-- the context of a def's body, at its entry; an exception leaves the frame, then lies as CX says -/
def cxOf (CX : CXT) (P : Program) (w : World) (K : PySem.W.Frag) (mg : Str → Option Value) (base : Heap) (N : List Str) (qual : Str) (scope : Scope) (f : Addr) (cd : Value) (A : Around) (outer : List Env) (s : Shared) (H : Hp) (E : XK) : Cx where
  prog := P
  w := w
  K := K
  mg := mg
  base := base
  A := A.deeper (envOfC qual scope s.heap.objs.size f cd)
  N := N
  s_0 := s
  H_0 := H
  env := envOfC qual scope s.heap.objs.size f cd
  outer := outer
  stack := envOfC qual scope s.heap.objs.size f cd :: outer
  ex := []
  calm := true
  fn := fun _ => true
  pn := []
  xe := fun e s' => wpAny (model P w) (A.deeper (envOfC qual scope s.heap.objs.size f cd)) (leaving (envOfC qual scope s.heap.objs.size f cd) e) (fun _ s'' => CX outer H s E e s'') (fun e' s'' => CX outer H s E e' s'') s'
theorem cell_has {sc : Scope} {n : Nat} {x : Str} (h : sc.names.lookup x = some .cell) : ∃ c, (cellsFrom n sc.names []).lookup x = some c := by
  have q := PySem.W.cellsFrom_some sc.names n [] (.inl h)
  exact Option.isSome_iff_exists.mp q
theorem inv_start {CX : CXT} {P : Program} {w : World} {K : PySem.W.Frag} {mg : Str → Option Value} {base : Heap} {N ps : List Str} {qual : Str} {scope : Scope} {f : Addr} {cd : Value} {A : Around} {outer : List Env} {s s1 : Shared} {H : Hp} {E : XK} {us : List Value} {vs : List V}
    (S : FnScope N ps scope) (hd : A.handled = none) (e0 : Env0 P w K mg base A outer s H) (hl : vs.length = ps.length) (r : Vals vs us)
    (x : InCallC s s.heap.objs.size (bindL (envOfC qual scope s.heap.objs.size f cd).kindOf (ps.zip us) fun _ => none) (cellsFrom (s.heap.objs.size + 1) scope.names []) (bindC (envOfC qual scope s.heap.objs.size f cd).kindOf (ps.zip us) fun _ => none) s1) :
    Inv (cxOf CX P w K mg base N qual scope f cd A outer s H E) [] (start N vs) H s1 := by
  have hpl : ps.length ≤ N.length := by have := congrArg List.length S.pre; rw [List.length_take] at this; omega
  obtain ⟨h1, tk, rfl, hk⟩ := x.done
  have noA : ∀ b : Addr, b ∉ (cxOf CX P w K mg base N qual scope f cd A outer s H E).ex := fun b z => absurd (show b ∈ ([] : List Addr) from z) (by simp)
  refine ⟨⟨e0.mod, S.kind, rfl, rfl, Nat.le_refl _, fun y z c h1 h2 => ?_, fun y hy => ?_, fun y c _ h => ?_, fun _ => hd, Around.frames_deeper e0.frames, .inr ⟨rfl, rfl⟩, fun b z => absurd z (noA b), e0.bs, e0.bsz, fun b _ _ => noA b, fun b z => absurd z (noA b), e0.funs, e0.frf⟩,
    rfl, e0.bare, Un.kept hk, ⟨_, x.toInCall.ns, fun i y v h1 h2 h3 => ?_⟩, fun y c h => ⟨_, x.cell y c h⟩, e0.hok.fresh (Nat.le_refl _), fun y c h => ?_, fun p hp => absurd (show p ∈ ([] : List (Addr × Obj)) from hp) (by simp), e0.hok.kept hk, ?_⟩
  · exact name_of_addr x.apart (PySem.mem_of_lookup h1) (PySem.mem_of_lookup h2)
  · have hy : scope.names.lookup y = some .cell ∨ scope.names.lookup y = some .free := hy
    rcases hy with hy | hy
    · exact cell_has hy
    · exact absurd rfl (S.nofree _ (PySem.mem_of_lookup hy))
  · exact Nat.le_of_lt (x.above y c (PySem.mem_of_lookup h))
  · have hi : i < vs.length := by
      unfold start at h2
      by_cases hi : i < vs.length
      · exact hi
      · rw [List.getElem?_append_right (by simpa using hi)] at h2
        rw [List.getElem?_replicate] at h2
        split at h2 <;> cases h2
    have ha : vs[i]? = some v := by
      unfold start at h2
      rw [List.getElem?_append_left (by simpa using hi), List.getElem?_map] at h2
      cases e : vs[i]? with
      | none => rw [e] at h2; cases h2
      | some a => rw [e] at h2; cases h2; rfl
    obtain ⟨u, hu, rv⟩ := r.get ha
    have hp : ps[i]? = some y := by
      rw [← S.pre, List.getElem?_take_of_lt (by omega)]; exact h1
    have ndP : ps.Nodup := by rw [← S.pre]; exact S.nd.sublist (List.take_sublist _ _)
    refine ⟨u, rv, ?_⟩
    rcases S.par y (List.mem_of_getElem? hp) with k | k
    · exact .inl ⟨k, bindL_get ndP hp hu k⟩
    · obtain ⟨c, e⟩ := cell_has (n := s.heap.objs.size + 1) k
      refine .inr ⟨.inl k, c, e, ?_⟩
      have q := x.cell y c e
      rw [bindC_get ndP hp hu (by show scope.names.lookup y ≠ _; rw [k]; decide)] at q
      exact q
  · exact e0.hok.fresh (Nat.le_of_lt (x.above y c (PySem.mem_of_lookup h)))
  · unfold start
    show _ = N.length
    rw [List.length_append, List.length_map, List.length_replicate]
    omega
/-- THE RULE: a def (or a method) of the text, by its body. The body's reading t is chosen for each entry; it is run at the parameters' values -/
theorem fn_of {CX : CXT} {P : Program} {w : World} {K : PySem.W.Frag} {mg : Str → Option Value} {base : Heap} {k : Nat} {f : Addr} {name qual : Str} {params : Arguments} {body : List Stmt} {scope : Scope} {dV kV doc pm cdv ct oc : Value} {an od : Option Addr}
    {osl : Array (Option Value)} {N ps : List Str} {sp : Sp} (lk : K.lookup f = some ⟨oc, od, .func (PySem.W.fnOf name qual params body scope dV kV doc pm an cdv ct), osl⟩) (hcd : PySem.W.codeIn K cdv qual = true) (S : FnScope N ps scope)
    (len : ∀ vs H Q E, sp vs H Q E → vs.length = ps.length)
    (hbody : ∀ (A : Around) (outer : List Env) (s : Shared) (H : Hp) (vs : List V) (Q : VK) (E : XK), Room k (A.deeper (envOfC qual scope s.heap.objs.size f cdv)) → sp vs H Q E →
      ∃ t, PSs (cxOf CX P w K mg base N qual scope f cdv A outer s H E) body t ∧ t { nx := fun _ H' => Q .non H', rt := Q } (start N vs) H) :
    FnOk P w K mg base CX (k + 1) f (PySem.W.fnOf name qual params body scope dV kV doc pm an cdv ct) ps sp := by
  refine ⟨len, fun A outer s H args us vs Q E hr e0 hb r hsp => ?_⟩
  have hl := len _ _ _ _ hsp
  have KX : K.In s.heap := e0.mod.kin.keeps fun b o e => (e0.bs b o e).1
  have lim : s.heap.NoLimit := e0.mod.nolimit.keeps fun b o e => (e0.bs b o e).1
  have hkind : ∀ y ∈ ps.zip us, scope.names.lookup y.1 = some .local ∨ (scope.names.lookup y.1 = some .cell ∧ ((cellsFrom (s.heap.objs.size + 1) scope.names []).lookup y.1).isSome = true) := fun ⟨n, v⟩ hy => by
    rcases S.par n (List.of_mem_zip hy).1 with q | q
    · exact .inl q
    · exact .inr ⟨q, PySem.W.cellsFrom_some _ _ _ (.inl q)⟩
  refine codeAny_call_function hr.depth (KX _ _ lk) rfl S.co S.gen rfl (PySem.W.codeRec_of KX hcd) (hb _ _ _ _ ?_)
  refine wpAny_newFunctionEnv_cells S.kind hkind fun env he s1 x => ?_
  subst he
  refine ⟨lim.keeps x.toInCall.keep, codeAny_func ?_⟩
  obtain ⟨t, ht, hq⟩ := hbody A outer s H vs Q E (hr.deeper _) hsp
  have I : Inv (cxOf CX P w K mg base N qual scope f cdv A outer s H E) [] (start N vs) H s1 := inv_start S hr.hd e0 hl r x
  refine wpAny_mono (ht [] s1 (start N vs) H _ I hq) (fun fl s' hs => ?_) fun e s' hs => hs
  have fin : ∀ {σ' : St} {H' : Hp} {v : V} {u : Value}, Inv (cxOf CX P w K mg base N qual scope f cdv A outer s H E) [] σ' H' s' → RelV v u → Q v H' → CE outer P w H s Q u s' :=
    fun {σ' H' v u} J rv q => ⟨v, H', J.os, J.bare, J.base, J.hok, rv, q⟩
  cases fl with
  | ret u =>
    obtain ⟨v, σ', H', J, rv, q⟩ := hs
    exact fin J rv q
  | next =>
    obtain ⟨σ', H', J, q⟩ := hs
    exact fin (v := V.non) (u := Value.none) J rfl q
  | brk =>
    obtain ⟨_, _, _, q⟩ := hs
    exact False.elim q
  | cont =>
    obtain ⟨_, _, _, q⟩ := hs
    exact False.elim q
end L2
namespace L2
open PySem PySem.Spec PyProof.Rows
section
variable {X : Cx} {x : Str} {p pos : Pos} {e : Expr} {es : List Expr} {t : TA} {id T : String} {r : List V → Hp → VK → Prop}
def tCB (r : List V → Hp → VK → Prop) (t : TA) : TE := fun σ H Q => t σ H fun vs H1 => r vs H1 Q
/-- f(e, ..), f a built-in function -/
theorem pe_callB (hc : CallR X (.builtin id) r) (hg : Gl X x) (hm : X.mg x = none) (hv : bootBuiltins x = some (.builtin id)) (ha : PA X (e :: es) t) (hn : x ≠ "__name__" := by decide) (hdb : (x == ("__debug__" : Str)) = false := by decide)
    (he : starEach (e :: es) X.env = (false, eval e X.env) :: starEach es X.env := by rfl) (hpl : (backTo pos (starEach es X.env)).any (·.1) = false := by rfl) : PE X (.Call (.Name x p) (e :: es) [] pos) (tCB r t) := by
  intro pins s σ H Q I h
  refine wpAny_Call_Name_kw (ld_blt I hg hm hv ?_ hn hdb)
  exact PyProof.Rows.callWith_builtin1 (thn (ha pos pins s σ H _ I h) fun us s1 ⟨vs, H1, I1, r1, q1⟩ => hc pins s1 σ H1 vs us Q I1 r1 q1) he hpl
/-- T(e, ..), T a built-in type -/
theorem pe_callTy (hc : CallR X (.type T) r) (hg : Gl X x) (hm : X.mg x = none) (hv : bootBuiltins x = some (.type T)) (ha : PA X (e :: es) t) (hn : x ≠ "__name__" := by decide) (hdb : (x == ("__debug__" : Str)) = false := by decide)
    (he : starEach (e :: es) X.env = (false, eval e X.env) :: starEach es X.env := by rfl) (hpl : (backTo pos (starEach es X.env)).any (·.1) = false := by rfl) : PE X (.Call (.Name x p) (e :: es) [] pos) (tCB r t) := by
  intro pins s σ H Q I h
  refine wpAny_Call_Name_kw (ld_blt I hg hm hv ?_ hn hdb)
  exact PyProof.Rows.callWith_type1 (thn (ha pos pins s σ H _ I h) fun us s1 ⟨vs, H1, I1, r1, q1⟩ => hc pins s1 σ H1 vs us Q I1 r1 q1) he hpl
end
end L2
namespace HT
open PySem PyProof.Rows
section
open PySem.SeqAt
open PySem.AutoSeq1 (wpAny_loadPart')
open PySem.MeetsSeq PySem.MeetsSeq2 PySem.MeetsSeq3
end
section
variable {prog : Program} {w : World} {A : Around} {E : Value → Shared → Prop} {s : Shared}
/-- a slice's bound as a place among n (d where it is left out) -/
def sIx (n d : Nat) : Option Int → Nat
  | none => d
  | some v => if v < 0 then (v + (n : Int)).toNat else min v.toNat n
theorem sIx_nat (n d k : Nat) : sIx n d (some (k : Int)) = min k n := by
  show (if (k : Int) < 0 then ((k : Int) + (n : Int)).toNat else min (k : Int).toNat n) = min k n
  rw [if_neg (by omega), Int.toNat_natCast]
end
end HT
namespace L2
open PySem PySem.Spec PyProof.Rows
abbrev TO := St → Hp → (Option Int → Hp → Prop) → Prop
/-- a slice's part (left out, or an int) -/
def PO (X : Cx) (e : Option Expr) (t : TO) : Prop :=
  ∀ (pins : List (Addr × Obj)) (s : Shared) (σ : St) (H : Hp) (Q : Option Int → Hp → Prop), Inv X pins σ H s → t σ H Q →
    wpAny (model X.prog X.w) X.A (evalPart e X.env) (fun u s' => ∃ o H', Inv X pins σ H' s' ∧ IsPart u o ∧ Q o H') X.xe s
def tNoPart : TO := fun _ H Q => Q none H
def tPart (t : TE) : TO := fun σ H Q => t σ H fun x H1 => ∃ i, x = .int i ∧ Q (some i) H1
section
variable {X : Cx} {e : Expr} {te : TE} {lo hi : Option Expr} {tl th : TO} {pos p2 : Pos}
theorem po_none : PO X none tNoPart := by
  intro pins s σ H Q I h
  rw [evalPart_none]
  exact wpAny_pure ⟨none, H, I, .none, h⟩
theorem po_some (h : PE X e te) : PO X (some e) (tPart te) := by
  intro pins s σ H Q I hw
  rw [evalPart_some]
  refine thn (h pins s σ H _ I hw) fun u s1 ⟨x, H1, I1, r1, q1⟩ => ?_
  obtain ⟨i, rfl, q⟩ := q1
  obtain ⟨t, rfl⟩ := r1
  exact ⟨some i, H1, I1, .int i t, q⟩
/-- what a slice of a value is, by values: the slice object stands at sl -/
def SlR (X : Cx) (r : V → Option Int → Option Int → Hp → VK → Prop) : Prop :=
  ∀ (pins : List (Addr × Obj)) (s : Shared) (σ : St) (H : Hp) (x : V) (v vl vu : Value) (lo hi : Option Int) (sl : Addr) (Q : VK), Inv X pins σ H s → RelV x v → s.heap.IsSliceOf sl vl vu .none → IsPart vl lo → IsPart vu hi → r x lo hi H Q →
    ∃ T id, typeLookup (.type T) "__getitem__" = pure (some (.builtin id)) ∧ s.TypeIs v T ∧ wpAny (model X.prog X.w) X.A (getItem v (.ref sl)) (EP X pins σ Q) X.xe s
def tSl (r : V → Option Int → Option Int → Hp → VK → Prop) (te : TE) (tl th : TO) : TE := fun σ H Q => te σ H fun x H1 => tl σ H1 fun l H2 => th σ H2 fun u H3 => r x l u H3 Q
/-- a[lo:hi], any a -/
theorem pe_slice {r : V → Option Int → Option Int → Hp → VK → Prop} (hr : SlR X r) (he : PE X e te) (hl : PO X lo tl) (hu : PO X hi th) : PE X (.Subscript e (.Slice lo hi none p2) pos) (tSl r te tl th) := by
  intro pins s σ H Q I h
  refine Subscript_ (thn (he pins s σ H _ I h) fun v s1 ⟨x, H1, I1, r1, q1⟩ => ?_)
  refine wpAny_Slice (thn (hl pins s1 σ H1 _ I1 q1) fun vl s2 ⟨l, H2, I2, pl, q2⟩ => thn (hu pins s2 σ H2 _ I2 q2) fun vu s3 ⟨u, H3, I3, pu, q3⟩ => ?_)
  rw [evalPart_none]
  refine wpAny_pure ?_
  have I4 : Inv X pins σ H3 { s3 with heap := s3.heap.push { cls := .type "slice", data := .fields #[vl, vu, .none] } } := I3.kept (t' := s3.toks) fun b ob q => Heap.get?_push_of_some _ q
  obtain ⟨T, id, hT, ht, hg⟩ := hr pins { s3 with heap := s3.heap.push { cls := .type "slice", data := .fields #[vl, vu, .none] } } σ H3 x v vl vu l u s3.heap.objs.size Q I4 r1 (Heap.IsSliceOf.new ..) pl pu q3
  show wpAny (model X.prog X.w) X.A (subscriptTail e (.Slice lo hi none p2) v (.ref s3.heap.objs.size)) (EP X pins σ Q) X.xe { s3 with heap := s3.heap.push { cls := .type "slice", data := .fields #[vl, vu, .none] } }
  exact tail_any (ops := [.ref s3.heap.objs.size, v]) ht hT hg (by with_unfolding_all rfl)
/-- the items of xs[lo:hi] -/
def cutV (xs : List V) (lo hi : Option Int) : List V := (xs.drop (HT.sIx xs.length 0 lo)).take (HT.sIx xs.length xs.length hi - HT.sIx xs.length 0 lo)
theorem cutV_length (xs : List V) (lo hi : Option Int) : (cutV xs lo hi).length ≤ xs.length := by
  unfold cutV
  rw [List.length_take, List.length_drop]
  omega
end
end L2
namespace L2
open PySem PySem.Spec PyProof.Rows
/-- the place that an index of any sign means -/
def ixN (n : Nat) (i : Int) : Option Nat := if 0 ≤ i then (if i < n then some i.toNat else none) else if -(n : Int) ≤ i then some (i + n).toNat else none
def atI {α : Type} (xs : List α) (i : Int) : Option α := (ixN xs.length i).bind fun j => xs[j]?
theorem ixN_seq {n : Nat} {i : Int} {j : Nat} (h : ixN n i = some j) : seqIndex? i n = some j ∧ j < n ∧ -(n : Int) ≤ i ∧ i < n := by
  unfold ixN at h
  by_cases h0 : 0 ≤ i
  · rw [if_pos h0] at h
    by_cases h1 : i < n
    · rw [if_pos h1] at h
      have e : i.toNat = j := Option.some.inj h
      exact ⟨by rw [seqIndex_of h0 h1, e], by omega, by omega, h1⟩
    · rw [if_neg h1] at h; cases h
  · rw [if_neg h0] at h
    by_cases h1 : -(n : Int) ≤ i
    · rw [if_pos h1] at h
      have e : (i + n).toNat = j := Option.some.inj h
      exact ⟨by rw [seqIndex_neg (by omega) h1, e], by omega, h1, by omega⟩
    · rw [if_neg h1] at h; cases h
theorem atI_get {α : Type} {xs : List α} {i : Int} {v : α} (h : atI xs i = some v) : ∃ j, seqIndex? i xs.length = some j ∧ xs[j]? = some v ∧ j < xs.length ∧ -(xs.length : Int) ≤ i ∧ i < xs.length := by
  unfold atI at h
  cases e : ixN xs.length i with
  | none => rw [e] at h; cases h
  | some j =>
    rw [e] at h
    obtain ⟨h1, h2, h3, h4⟩ := ixN_seq e
    exact ⟨j, h1, h, h2, h3, h4⟩
theorem atI_nat {α : Type} {xs : List α} {j : Nat} {v : α} (h : xs[j]? = some v) : atI xs (j : Int) = some v := by
  have hj : j < xs.length := (List.getElem?_eq_some_iff.mp h).1
  have e : ixN xs.length (j : Int) = some j := by
    unfold ixN
    rw [if_pos (by omega), if_pos (by omega)]; simp
  unfold atI; rw [e]; exact h
/-- what stands as an index of a plain subscript -/
def PlainIx (b : Expr) : Prop := ∀ o i, subscripted b false o i = operate [o, i] (getItem o i)
/-- a subscript by values -/
def IxR (X : Cx) (r : R2) : Prop :=
  ∀ (value slice : Expr) (pins : List (Addr × Obj)) (s : Shared) (σ : St) (H : Hp) (x y : V) (v u : Value) (Q : VK), Inv X pins σ H s → RelV x v → RelV y u → r x y H Q →
    subscripted slice false v u = operate [v, u] (getItem v u) → wpAny (model X.prog X.w) X.A (subscriptTail value slice v u) (EP X pins σ Q) X.xe s
/-- a call of a builtin's method by values: the receiver, the arguments -/
def MtR (X : Cx) (id : String) (r : V → List V → Hp → VK → Prop) : Prop :=
  ∀ (pins : List (Addr × Obj)) (s : Shared) (σ : St) (H : Hp) (x : V) (xs : List V) (v : Value) (us : List Value) (Q : VK), Inv X pins σ H s → RelV x v → Vals xs us → r x xs H Q →
    wpAny (model X.prog X.w) X.A (call (.builtin id) (v :: us)) (EP X pins σ Q) X.xe s
section
variable {X : Cx} {a b : Expr} {ta tb : TE} {pos : Pos}
/-- a[b] -/
theorem pe_ix {r : R2} (hr : IxR X r) (ha : PE X a ta) (hb : PE X b tb) (hs : PlainIx b) : PE X (.Subscript a b pos) (tOp r ta tb) := by
  intro pins s σ H Q I h
  exact Subscript_ (binT ha hb I h fun v u s2 x y H2 I2 rx ry q => hr a b pins s2 σ H2 x y v u Q I2 rx ry q (hs _ _))
def rIxL (K : PySem.W.Frag) : R2 := fun x y H Q => ∃ p xs i v, x = .ref p ∧ y = .int i ∧ SqL K H p xs ∧ atI xs i = some v ∧ Q v H
theorem ix_list : IxR X (rIxL X.K) := by
  intro value slice pins s σ H x y v u Q I rx ry h hs
  obtain ⟨p, xs, i, z, rfl, rfl, hq, he, q⟩ := h
  cases rx
  obtain ⟨t, rfl⟩ := ry
  obtain ⟨its, r, pl, hz⟩ := I.list hq
  obtain ⟨j, h1, h2, h3, h4, h5⟩ := atI_get he
  obtain ⟨w, ew, rw'⟩ := r.get h2
  have hl := r.length
  have hn := line63
  have fin : EP X pins σ Q w s := ⟨z, H, I, rw', q⟩
  by_cases h0 : 0 ≤ i
  · have hj : i.toNat = j := by
      rw [seqIndex_of h0 h5] at h1
      exact Option.some.inj h1
    exact item_listR pl.isList h0 (by omega) (by rw [hj]; simpa using ew) fin hs
  · have hj : (i + (its.toArray.size : Int)).toNat = j := by
      rw [seqIndex_neg (by omega) h4] at h1
      rw [List.size_toArray, ← hl]
      exact Option.some.inj h1
    exact subscriptTail_builtinR (x := w) pl.isList.typeIs slot_list_getitem.lookup
      (wpAny_getItem_list_neg (Q := fun r s' => r = w ∧ EP X pins σ Q r s') pl.isList (by omega) (by rw [List.size_toArray] <;> omega) (by omega) (by rw [hj]; simpa using ew) ⟨rfl, fin⟩) hs
/-- the list's object behind a store -/
theorem mapSeq_set (its : List Value) (n j : Nat) (u : Value) : Obj.mapSeq (·.setIfInBounds j u) { cls := .type "list", data := .seq its.toArray n } = { cls := .type "list", data := .seq (its.set j u).toArray n } := by
  simp [Obj.mapSeq]
theorem Inv.lst {pins : List (Addr × Obj)} {σ : St} {H : Hp} {s : Shared} {p : Addr} {xs : List V} (I : Inv X pins σ H s) (h : H p = some (.lst xs)) :
    ∃ (its : List Value) (n : Nat), Vals xs its ∧ s.heap.get? p = some { cls := .type "list", data := .seq its.toArray n } ∧ xs.length ≤ sizeLine := by
  obtain ⟨z, its, n, r, e⟩ := I.hok p _ h
  exact ⟨its, n, r, e, z⟩
/-- the list at p is written by an update of its object -/
theorem Inv.lstUpd {pins : List (Addr × Obj)} {σ : St} {H : Hp} {s : Shared} {p : Addr} {xs ys : List V} {its its' : List Value} {n n' : Nat} {f : Obj → Obj} (I : Inv X pins σ H s) (h : H p = some (.lst xs))
    (ho : s.heap.get? p = some { cls := .type "list", data := .seq its.toArray n }) (hf : f { cls := .type "list", data := .seq its.toArray n } = { cls := .type "list", data := .seq its'.toArray n' }) (r : Vals ys its') (hz : ys.length ≤ sizeLine) (t : Nat) :
    Inv X pins σ (upd H p (.lst ys)) { s with heap := s.heap.update p f, toks := t } := by
  have e : (s.heap.update p f).get? p = some { cls := .type "list", data := .seq its'.toArray n' } := by
    rw [Heap.get?_update_self f ho (by rw [hf] <;> rfl), hf]
  refine I.write (x := p) (e := p) (by rw [h]; trivial) (.inl rfl) (fun b u hb q => (Heap.get?_update_other _ _ (Ne.symm hb)).trans q) ⟨_, e⟩ ?_
  exact ⟨hz, its', n', r, e⟩
def rSetL : V → V → V → Hp → (Hp → Prop) → Prop := fun o i v H Q => ∃ p xs k j, o = .ref p ∧ i = .int k ∧ H p = some (.lst xs) ∧ ixN xs.length k = some j ∧ Q (upd H p (.lst (xs.set j v)))
theorem set_list : PSet X rSetL := by
  intro pins s σ H o i v ov iv u Q I ro ri rv h
  obtain ⟨p, xs, k, j, rfl, rfl, hp, hj, q⟩ := h
  cases ro
  obtain ⟨t, rfl⟩ := ri
  obtain ⟨its, n, r, ho, hz⟩ := I.lst hp
  obtain ⟨h1, h2, h3, h4⟩ := ixN_seq hj
  have hl := r.length
  have hn := line63
  have I' : Inv X pins σ (upd H p (.lst (xs.set j v))) { s with heap := s.heap.update p (Obj.mapSeq (·.setIfInBounds j u)) } :=
    I.lstUpd hp ho (mapSeq_set its n j u) (r.set rv j) (by rw [List.length_set]; exact hz) s.toks
  by_cases h0 : 0 ≤ k
  · have hk : k.toNat = j := by
      rw [seqIndex_of h0 h4] at h1
      exact Option.some.inj h1
    exact PySem.W.ki_setAt ho h0 (by omega) (by rw [List.size_toArray, ← hl]; exact h4) (by rw [hk]; exact ⟨_, I', q⟩)
  · have hk : (k + (its.toArray.size : Int)).toNat = j := by
      rw [seqIndex_neg (by omega) h3] at h1
      rw [List.size_toArray, ← hl]
      exact Option.some.inj h1
    exact PySem.W.ki_setBack ho (by omega) (by rw [List.size_toArray, ← hl]; exact h3) (by omega) (by rw [hk]; exact ⟨_, I', q⟩)
theorem slice_bounds (lo hi : Option Int) (n : Nat) : (sliceBounds lo hi none n).1 = ((HT.sIx n 0 lo : Nat) : Int) ∧ (sliceBounds lo hi none n).2.1 = ((HT.sIx n n hi : Nat) : Int) ∧ (sliceBounds lo hi none n).2.2 = 1 := by
  refine ⟨?_, ?_, rfl⟩
  · cases lo with
    | none => simp [sliceBounds, HT.sIx]
    | some i =>
      simp only [sliceBounds, HT.sIx, Option.getD_none, show (1 : Int) > 0 by decide, if_true]
      by_cases h : i < 0
      · simp only [h, if_true] <;> omega
      · simp only [h, if_false] <;> omega
  · cases hi with
    | none => simp [sliceBounds, HT.sIx]
    | some i =>
      simp only [sliceBounds, HT.sIx, Option.getD_none, show (1 : Int) > 0 by decide, if_true]
      by_cases h : i < 0
      · simp only [h, if_true] <;> omega
      · simp only [h, if_false] <;> omega
theorem slicePick_cut (its : List Value) (lo hi : Option Int) : slicePick its.toArray lo hi none = ((its.drop (HT.sIx its.length 0 lo)).take (HT.sIx its.length its.length hi - HT.sIx its.length 0 lo)).toArray := by
  obtain ⟨h1, h2, h3⟩ := slice_bounds lo hi its.toArray.size
  unfold slicePick
  rw [h1, h2, h3]
  simp only [sliceRange_one, pick_run, List.size_toArray] <;> rfl
/-- xs[lo:hi] of a list: a new list -/
def rSlL (K : PySem.W.Frag) : V → Option Int → Option Int → Hp → VK → Prop := fun x lo hi H Q => ∃ a xs, x = .ref a ∧ SqL K H a xs ∧ ∀ p, H p = none → Q (.ref p) (upd H p (.lst (cutV xs lo hi)))
theorem sl_list : SlR X (rSlL X.K) := by
  intro pins s σ H x v vl vu lo hi sl Q I rx hs pl pu h
  obtain ⟨a, xs, rfl, hx, q⟩ := h
  cases rx
  obtain ⟨its, r, ht, hz⟩ := I.list hx
  have hlen := r.length
  refine ⟨"list", _, slot_list_getitem.lookup, ht.isList.typeIs, ?_⟩
  refine wpAny_getItem_list_slice ht.isList hs pl pu .none (by simp) ?_ (by rw [List.size_toArray] <;> omega)
  rw [slicePick_cut, ← hlen]
  refine ⟨.ref s.heap.objs.size, _, I.laid (t' := s.toks) (o := .lst (cutV xs lo hi)) (fun b ob q => Heap.get?_push_of_some _ q) (Nat.le_refl _) ?_, rfl, q _ (I.hok.fresh (Nat.le_refl _))⟩
  exact ⟨Nat.le_trans (cutV_length xs lo hi) hz, _, 0, (r.drop (HT.sIx xs.length 0 lo)).take (HT.sIx xs.length xs.length hi - HT.sIx xs.length 0 lo), Heap.get?_push_size _ rfl⟩
def flatV : V → Bool
  | .non => true
  | .bl _ => true
  | .int _ => true
  | .str _ => true
  | _ => false
/-- == of flat values -/
def eqV : V → V → Bool
  | .non, .non => true
  | .bl a, .bl b => a == b
  | .bl a, .int b => (if a then 1 else 0) == b
  | .int a, .bl b => a == (if b then 1 else 0)
  | .int a, .int b => a == b
  | .str a, .str b => a == b
  | _, _ => false
theorem eqAt_V {A : Around} {s : Shared} {y x : V} {u v : Value} (ry : RelV y u) (rx : RelV x v) (fy : flatV y = true) (fx : flatV x = true) : SeqAt.EqAt A s u v (eqV y x) := by
  cases y with
  | non =>
    cases ry
    cases x with
    | non => cases rx; exact SeqAt.EqAt.same _
    | bl b => cases rx; exact SeqAt.EqAt.none_bool b
    | int b => obtain ⟨t, rfl⟩ := rx; exact SeqAt.EqAt.none_int b t
    | str b => obtain ⟨t, rfl⟩ := rx; exact SeqAt.EqAt.none_str b t
    | _ => exact absurd (show false = true from fx) Bool.false_ne_true
  | bl a =>
    cases ry
    cases x with
    | non => cases rx; exact SeqAt.EqAt.bool_none a
    | bl b => cases rx; exact SeqAt.EqAt.bool_bool a b
    | int b => obtain ⟨t, rfl⟩ := rx; exact SeqAt.EqAt.bool_int a b t
    | str b => obtain ⟨t, rfl⟩ := rx; exact SeqAt.EqAt.bool_str a b t
    | _ => exact absurd (show false = true from fx) Bool.false_ne_true
  | int a =>
    obtain ⟨t', rfl⟩ := ry
    cases x with
    | non => cases rx; exact SeqAt.EqAt.int_none a t'
    | bl b => cases rx; exact SeqAt.EqAt.int_bool a t' b
    | int b => obtain ⟨t, rfl⟩ := rx; exact SeqAt.EqAt.int_int a t' b t
    | str b => obtain ⟨t, rfl⟩ := rx; exact SeqAt.EqAt.int_str a t' b t
    | _ => exact absurd (show false = true from fx) Bool.false_ne_true
  | str a =>
    obtain ⟨t', rfl⟩ := ry
    cases x with
    | non => cases rx; exact SeqAt.EqAt.str_none a t'
    | bl b => cases rx; exact SeqAt.EqAt.str_bool a t' b
    | int b => obtain ⟨t, rfl⟩ := rx; exact SeqAt.EqAt.str_int a t' b t
    | str b => obtain ⟨t, rfl⟩ := rx; exact SeqAt.EqAt.str_str a t' b t
    | _ => exact absurd (show false = true from fx) Bool.false_ne_true
  | _ => exact absurd (show false = true from fy) Bool.false_ne_true
/-- the items' answers, read off the values (a value's own answer does not lean on its token) -/
def eqU (x : V) (u : Value) : Bool := match u with
  | .none => eqV .non x
  | .bool b => eqV (.bl b) x
  | .int i _ => eqV (.int i) x
  | .str z _ => eqV (.str z) x
  | _ => false
theorem eqU_of {x y : V} {u : Value} (r : RelV y u) (f : flatV y = true) : eqU x u = eqV y x := by
  cases y with
  | non => cases r; rfl
  | bl b => cases r; rfl
  | int i => obtain ⟨t, rfl⟩ := r; rfl
  | str z => obtain ⟨t, rfl⟩ := r; rfl
  | _ => exact absurd (show false = true from f) Bool.false_ne_true
theorem any_eqU {x : V} : ∀ {xs : List V} {us : List Value}, Vals xs us → xs.all flatV = true → us.any (eqU x) = xs.any fun y => eqV y x
  | _, _, .nil, _ => rfl
  | y :: xs, u :: us, .cons r t, f => by
    rw [List.all_cons, Bool.and_eq_true] at f
    rw [List.any_cons, List.any_cons, eqU_of r f.1, any_eqU t f.2]
theorem mem_eqAt {A : Around} {s : Shared} {x : V} {v : Value} (rx : RelV x v) (fx : flatV x = true) : ∀ {xs : List V} {us : List Value}, Vals xs us → xs.all flatV = true → ∀ u ∈ us, SeqAt.EqAt A s u v (eqU x u)
  | _, _, .nil, _ => fun u hu => by cases hu
  | y :: xs, u :: us, .cons r t, f => fun u' hu => by
    rw [List.all_cons, Bool.and_eq_true] at f
    rcases List.mem_cons.mp hu with rfl | hu
    · rw [eqU_of r f.1]; exact eqAt_V r rx f.1 fx
    · exact mem_eqAt rx fx t f.2 u' hu
def inV (x : V) (xs : List V) : Bool := xs.any fun y => eqV y x
/-- x in a list or tuple of flat items -/
def rIn (K : PySem.W.Frag) (neg : Bool) : R2 := fun x y H Q => ∃ p xs, y = .ref p ∧ (SqL K H p xs ∨ SqT K H p xs) ∧ flatV x = true ∧ xs.all flatV = true ∧ Q (.bl (if neg then !inV x xs else inV x xs)) H
theorem op_in_seq : OpR X (compareOp .In) (rIn X.K false) := by
  intro pins s σ H x y v u Q I rx ry h
  obtain ⟨p, xs, rfl, hq, fx, fs, q⟩ := h
  cases ry
  rcases hq with hq | hq
  · obtain ⟨its, r, pl, hz⟩ := I.list hq
    refine SeqAt.in_listAt (eqU x) pl.isList (fun w hw => mem_eqAt rx fx r fs w (by simpa using hw)) ⟨.bl _, H, I, rfl, ?_⟩
    rw [show its.toArray.any (eqU x) = its.any (eqU x) by simp, any_eqU r fs]
    exact q
  · obtain ⟨its, r, pl, hz⟩ := I.tuple hq
    refine SeqAt.in_tupleAt (eqU x) pl (fun w hw => mem_eqAt rx fx r fs w (by simpa using hw)) ⟨.bl _, H, I, rfl, ?_⟩
    rw [show its.toArray.any (eqU x) = its.any (eqU x) by simp, any_eqU r fs]
    exact q
theorem call_len_seq : CallR X (.builtin "len") (fun xs H Q => ∃ p ys, xs = [.ref p] ∧ (SqL X.K H p ys ∨ SqT X.K H p ys) ∧ Q (.int ys.length) H) := by
  intro pins s σ H xs us Q I r h
  obtain ⟨p, ys, rfl, hq, q⟩ := h
  obtain ⟨u, rfl, rx⟩ := vals1 r
  cases rx
  have hn := line63
  rcases hq with hq | hq
  · obtain ⟨its, r', pl, hz⟩ := I.list hq
    have hlen := r'.length
    exact Calls.call_len_list pl.isList (by simp only [List.size_toArray] <;> omega) ⟨.int ys.length, H, I.tok _, ⟨s.toks + 1, by rw [List.size_toArray, hlen]⟩, q⟩
  · obtain ⟨its, r', pl, hz⟩ := I.tuple hq
    have hlen := r'.length
    exact len_tuple pl (by simp only [List.size_toArray] <;> omega) ⟨.int ys.length, H, I.tok _, ⟨s.toks + 1, by rw [List.size_toArray, hlen]⟩, q⟩
/-- the value is of that builtin type -/
def tyV (K : PySem.W.Frag) (T : String) (x : V) (H : Hp) : Prop := match x with
  | .str _ => T = "str"
  | .int _ => T = "int"
  | .ref p => (T = "list" ∧ ∃ xs, SqL K H p xs) ∨ (T = "tuple" ∧ ∃ o, K.lookup p = some o ∧ o.cls = .type "tuple" ∧ o.dict = none) ∨
      (T = "dict" ∧ ((∃ kvs, H p = some (.dK kvs)) ∨ ∃ kvs, H p = some (.dT kvs))) ∨ (T = "set" ∧ ∃ S n, H p = some (.set S n))
  | _ => False
theorem tyV_is {pins : List (Addr × Obj)} {σ : St} {H : Hp} {s : Shared} {T : String} {x : V} {v : Value} (I : Inv X pins σ H s) (r : RelV x v) (ty : tyV X.K T x H) :
    s.TypeIs v T ∧ ∀ a, v = .ref a → ∃ ob, s.heap.get? a = some ob ∧ ob.dict = none := by
  cases x with
  | str z =>
    obtain ⟨t, rfl⟩ := r
    cases (show T = "str" from ty)
    exact ⟨typeIs_str s z t, fun _ e => nomatch e⟩
  | int i =>
    obtain ⟨t, rfl⟩ := r
    cases (show T = "int" from ty)
    exact ⟨typeIs_int s i t, fun _ e => nomatch e⟩
  | ref p =>
    cases r
    rcases ty with ⟨rfl, xs, hq⟩ | ⟨rfl, o, hk, hc, hd⟩ | ⟨rfl, hk⟩ | ⟨rfl, S, n, hk⟩
    · obtain ⟨its, _, pl, _⟩ := I.list hq
      refine ⟨pl.isList.typeIs, fun a e => ?_⟩
      cases e
      obtain ⟨o, n, e, c, hd, _⟩ := pl
      exact ⟨o, e, hd⟩
    · refine ⟨⟨o, I.kIn p o hk, hc⟩, fun a e => ?_⟩
      cases e
      exact ⟨o, I.kIn _ o hk, hd⟩
    · have z : ∃ o, s.heap.get? p = some o ∧ o.ExactDict := by
        rcases hk with ⟨kvs, hk⟩ | ⟨kvs, hk⟩
        · obtain ⟨_, _, _, _, o, _, _, e, ex, _⟩ := I.hok p _ hk
          exact ⟨o, e, ex⟩
        · obtain ⟨_, _, _, _, o, _, _, e, ex, _⟩ := I.hok p _ hk
          exact ⟨o, e, ex⟩
      obtain ⟨o, e, ex⟩ := z
      refine ⟨⟨o, e, ex.1⟩, fun a e2 => ?_⟩
      cases e2
      exact ⟨o, e, ex.2.1⟩
    · obtain ⟨o, _, _, _, e, ex, _⟩ := I.hok p _ hk
      refine ⟨⟨o, e, ex.1⟩, fun a e2 => ?_⟩
      cases e2
      exact ⟨o, e, ex.2.1⟩
  | _ => exact False.elim ty
def tBM (K : PySem.W.Frag) (T : String) (r : V → List V → Hp → VK → Prop) (to : TE) (t : TA) : TE := fun σ H Q => to σ H fun x H1 => tyV K T x H1 ∧ t σ H1 fun xs H2 => r x xs H2 Q
variable {o e : Expr} {es : List Expr} {to : TE} {t : TA} {name : Str} {apos cpos : Pos} {T id : String} {r : V → List V → Hp → VK → Prop}
theorem pe_bm (pa : PlainAttrs T) (slot : Slot T name id) (hty : typeOf (.builtin id) = pure (.type "method_descriptor")) (hm : MtR X id r) (ho : PE X o to) (ha : PA X (e :: es) t)
    (hbase : attributeBase o name X.env (eval o X.env) = eval o X.env := by rfl)
    (hfew : ((backTo cpos (starEach (e :: es) X.env)).all (fun x => !x.1) && (backToKw cpos (keywordEach [] X.env)).all (fun x => x.1.isSome)
      && decide ((e :: es).length + ([] : List Keyword).length + (if ([] : List Keyword).isEmpty then 0 else 1) < 30)) = true := by rfl)
    (hline : (apos.endLine == cpos.line) = true := by rfl) (hs : starEach (e :: es) X.env = (false, eval e X.env) :: starEach es X.env := by rfl) (hplain : (backTo cpos (starEach es X.env)).any (·.1) = false := by rfl) :
    PE X (.Call (.Attribute o name apos) (e :: es) [] cpos) (tBM X.K T r to t) := by
  intro pins s σ H Q I h
  refine wpAny_Call_method_late hbase hfew hline rfl (thn (ho pins s σ H _ I h) fun v s1 ⟨x, H1, I1, r1, ty, q1⟩ => ?_)
  obtain ⟨h1, h2⟩ := tyV_is I1 r1 ty
  refine ⟨T, id, pa, slot, hty, h1, h2, ?_⟩
  have hA := ha cpos pins s1 σ H1 _ I1 q1
  rw [hs] at hA ⊢
  refine Calls.callWith_builtin (by show (false || (backTo cpos (starEach es X.env)).any (·.1)) = false; rw [hplain] <;> rfl) (Calls.evalArgs_plain ?_)
  exact thn hA fun us s2 ⟨vs, H2, I2, r2, q2⟩ => hm pins s2 σ H2 x vs v us Q I2 r1 r2 q2
/- xs.append(e), list.index on a module's tuple .. are MtR facts of 06m -/
end
end L2
namespace L2
open PySem PySem.Spec PyProof.Rows
def MtM (X : Cx) (id : String) (r : V → List V → Hp → VK → Prop) : Prop :=
  ∀ (pins : List (Addr × Obj)) (s : Shared) (σ : St) (H : Hp) (x : V) (xs : List V) (v : Value) (us : List Value) (Q : VK), Inv X pins σ H s → RelV x v → Vals xs us → r x xs H Q →
    wpAny (model X.prog X.w) X.A (call (.builtin id) (v :: us)) (EP X pins σ Q) X.xe s
theorem Vals.one : ∀ {x : V} {us : List Value}, Vals [x] us → ∃ u, us = [u] ∧ RelV x u
  | _, _, .cons r .nil => ⟨_, rfl, r⟩
theorem Vals.rep {xs : List V} {us : List Value} (h : Vals xs us) : ∀ k : Nat, Vals (List.replicate k xs).flatten (List.replicate k us).flatten
  | 0 => .nil
  | k + 1 => by
    rw [List.replicate_succ, List.replicate_succ, List.flatten_cons, List.flatten_cons]
    exact Vals.append h (Vals.rep h k)
theorem foldl_rep (its : List Value) : ∀ (k : Nat) (acc : List Value),
    List.foldl (fun x1 x2 => x1 ++ x2) acc.toArray (List.replicate k its.toArray) = (acc ++ (List.replicate k its).flatten).toArray
  | 0, acc => by simp
  | k + 1, acc => by
    have e : acc.toArray ++ its.toArray = (acc ++ its).toArray := by simp
    have e2 : (acc ++ its) ++ (List.replicate k its).flatten = acc ++ (List.replicate (k + 1) its).flatten := by
      rw [List.replicate_succ, List.flatten_cons, List.append_assoc]
    rw [← e2, ← foldl_rep its k (acc ++ its), ← e, List.replicate_succ, List.foldl_cons]
section
variable {X : Cx} {pins : List (Addr × Obj)} {σ : St} {H : Hp} {s : Shared} {l b : Addr} {xs ys zs : List V}
theorem Inv.lset {its its' : List Value} {n : Nat} {f : Array Value → Array Value} {t' : Nat} (I : Inv X pins σ H s) (hH : H l = some (.lst xs))
    (e : s.heap.get? l = some { cls := .type "list", data := .seq its.toArray n }) (hf : f its.toArray = its'.toArray) (hv : Vals ys its') (hz : ys.length ≤ sizeLine) :
    Inv X pins σ (upd H l (.lst ys)) { s with heap := s.heap.update l (Obj.mapSeq f), toks := t' } := by
  have q := PySem.IsL.update e f
  rw [hf] at q
  refine I.write (x := l) (e := l) (by rw [hH]; exact trivial) (.inl rfl) (fun b' u hb hu => (Heap.get?_update_other s.heap (Obj.mapSeq f) (Ne.symm hb)).trans hu) ⟨_, q⟩ ?_
  exact ⟨hz, its', _, hv, q⟩
theorem Inv.lnew {its : List Value} {t' : Nat} (I : Inv X pins σ H s) (hv : Vals ys its) (hz : ys.length ≤ sizeLine) :
    Inv X pins σ (upd H s.heap.objs.size (.lst ys)) { s with heap := s.heap.push { cls := .type "list", data := .seq its.toArray }, toks := t' } :=
  I.laid (fun _ _ q => Heap.get?_push_of_some _ q) (Nat.le_refl _) ⟨hz, its, 0, hv, Heap.get?_push_size _ rfl⟩
theorem Inv.fresh (I : Inv X pins σ H s) : H s.heap.objs.size = none := I.hok.fresh (Nat.le_refl _)
theorem Inv.lstM (I : Inv X pins σ H s) (hH : H l = some (.lst xs)) : xs.length ≤ sizeLine ∧ ∃ (its : List Value) (n : Nat), Vals xs its ∧ xs.length = its.length ∧ s.heap.get? l = some { cls := .type "list", data := .seq its.toArray n } := by
  obtain ⟨z, its, n, r, e⟩ := I.hok l _ hH
  exact ⟨z, its, n, r, r.length, e⟩
theorem notLongL {n : Nat} (h : n ≤ sizeLine) : Builtin.List.listTooLong n = false := by
  unfold Builtin.List.listTooLong
  exact decide_eq_false (by omega)
end
section
variable {X : Cx}
def rAppend : V → List V → Hp → VK → Prop := fun x vs H Q => ∃ l xs y, x = .ref l ∧ vs = [y] ∧ H l = some (.lst xs) ∧ xs.length < sizeLine ∧ Q .non (upd H l (.lst (xs ++ [y])))
theorem mt_append : MtM X "list.append" rAppend := by
  intro pins s σ H x vs v us Q I rx rv h
  obtain ⟨l, xs, y, rfl, rfl, hH, hz, q⟩ := h
  cases rx
  obtain ⟨u, rfl, ru⟩ := rv.one
  obtain ⟨z, its, n, r, hl, e⟩ := I.lstM hH
  refine call_meets F.slot_list_append ⟨_, e, rfl⟩ F.entry_list_append (F.args_list_append_2 _ _) (PySem.list_append l its.toArray n u (by rw [List.size_toArray]; omega)) ⟨e, ?_⟩
  refine ⟨.non, _, I.lset (its' := its ++ [u]) hH e (by simp) (r.append (.cons ru .nil)) ?_, rfl, q⟩
  rw [List.length_append, List.length_singleton]
  omega
def rExtend : V → List V → Hp → VK → Prop := fun x vs H Q => ∃ l b xs zs, x = .ref l ∧ vs = [.ref b] ∧ H l = some (.lst xs) ∧ H b = some (.lst zs) ∧ xs.length + zs.length ≤ sizeLine ∧ Q .non (upd H l (.lst (xs ++ zs)))
theorem mt_extend : MtM X "list.extend" rExtend := by
  intro pins s σ H x vs v us Q I rx rv h
  obtain ⟨l, b, xs, zs, rfl, rfl, hH, hB, hz, q⟩ := h
  cases rx
  obtain ⟨u, rfl, ru⟩ := rv.one
  cases ru
  obtain ⟨z, its, n, r, hl, e⟩ := I.lstM hH
  obtain ⟨z2, its2, n2, r2, hl2, e2⟩ := I.lstM hB
  have hsz : its.toArray.size + its2.toArray.size ≤ sizeLine := by rw [List.size_toArray, List.size_toArray]; omega
  have hlong : ¬ (!its.toArray.isEmpty && Builtin.List.listTooLong (its.toArray.size + its2.toArray.size)) = true := by
    rw [notLongL hsz, Bool.and_false]
    exact Bool.false_ne_true
  refine call_meets F.slot_list_extend ⟨_, e, rfl⟩ F.entry_list_extend (F.args_list_extend_2 _ _)
    (AutoSeq1.list_extend_list_list_0 l its.toArray n b its2.toArray n2 hlong (by rw [List.size_toArray]; omega) (by omega)) ⟨e, e2, ?_⟩
  refine ⟨.non, _, I.lset (its' := its ++ its2) hH e (by simp) (r.append r2) ?_, rfl, q⟩
  rw [List.length_append]
  omega
def rCat : R2 := fun x y H Q => ∃ l b xs zs, x = .ref l ∧ y = .ref b ∧ H l = some (.lst xs) ∧ H b = some (.lst zs) ∧ xs.length + zs.length ≤ sizeLine ∧ ∀ p, H p = none → Q (.ref p) (upd H p (.lst (xs ++ zs)))
theorem op_cat : OpR X (binaryOp .Add) rCat := by
  intro pins s σ H x y v u Q I rx ry h
  obtain ⟨l, b, xs, zs, rfl, rfl, hH, hB, hz, q⟩ := h
  cases rx
  cases ry
  obtain ⟨z, its, n, r, hl, e⟩ := I.lstM hH
  obtain ⟨z2, its2, n2, r2, hl2, e2⟩ := I.lstM hB
  refine PySem.P.add_list e e2 ?_ (by rw [List.size_toArray, List.size_toArray]; omega)
  have ea : its.toArray ++ its2.toArray = (its ++ its2).toArray := by simp
  rw [ea]
  exact ⟨.ref _, _, I.lnew (t' := s.toks) (r.append r2) (by rw [List.length_append]; omega), rfl, q _ I.fresh⟩
/-- a list times an int (a negative one is nothing) -/
def rRep : R2 := fun x y H Q => ∃ l k xs, x = .ref l ∧ y = .int k ∧ H l = some (.lst xs) ∧ -(2 ^ 63) ≤ k ∧ k < 2 ^ 63 ∧ xs.length * k.toNat ≤ sizeLine ∧
  ∀ p, H p = none → Q (.ref p) (upd H p (.lst (List.replicate k.toNat xs).flatten))
theorem len_rep {α : Type} (xs : List α) (k : Nat) : (List.replicate k xs).flatten.length = k * xs.length := by
  induction k with
  | zero => simp
  | succ k ih => rw [List.replicate_succ, List.flatten_cons, List.length_append, ih, Nat.succ_mul, Nat.add_comm]
theorem op_rep : OpR X (binaryOp .Mult) rRep := by
  intro pins s σ H x y v u Q I rx ry h
  obtain ⟨l, k, xs, rfl, rfl, hH, h1, h2, hz, q⟩ := h
  cases rx
  obtain ⟨t, rfl⟩ := ry
  obtain ⟨z, its, n, r, hl, e⟩ := I.lstM hH
  have hlen : its.toArray.size * k.toNat ≤ sizeLine := by rw [List.size_toArray, ← hl]; exact hz
  have hcap : ¬ its.toArray.size * k.toNat > (2 ^ 63 - 1) / 8 := by
    have : (sizeLine : Nat) ≤ (2 ^ 63 - 1) / 8 := by decide
    omega
  have hfit : ¬ (!Builtin.List.listFitsIndex k) = true := by
    rw [fitsIndex_both h1 h2]
    exact Bool.false_ne_true
  have hlong : ¬ Builtin.List.listTooLong (its.toArray.size * k.toNat) = true := by
    rw [notLongL hlen]
    exact Bool.false_ne_true
  have hnew : List.foldl (fun x1 x2 => x1 ++ x2) #[] (List.replicate (if its.toArray.isEmpty = true then 0 else k.toNat) its.toArray) = (List.replicate k.toNat its).flatten.toArray := by
    have f0 : ∀ m : Nat, List.foldl (fun x1 x2 => x1 ++ x2) #[] (List.replicate m its.toArray) = (List.replicate m its).flatten.toArray := fun m => by
      have := foldl_rep its m []
      rw [List.nil_append] at this
      exact this
    rw [f0]
    cases its with
    | nil => simp
    | cons a r' => rw [if_neg (by simp)]
  refine wpAny_binaryOp_repeat_ref (T := "list") (U := "int") (by decide) ⟨_, e, rfl⟩ (fun s' => typeIs_int s' k t) noFill_list_mul F.fills_int_mul F.slot_int_rmul repeat_list F.slot_int_index.lookup
    (call_meets F.slot_int_rmul (typeIs_int s k t) F.entry_int_rmul (F.args_int_rmul_2 _ _) (int___rmul___int_list k t l its.toArray n)
      ⟨e, rfl, ⟨_, e, rfl⟩, call_meets F.slot_list_mul ⟨_, e, rfl⟩ F.entry_list_mul (F.args_list_mul_2 _ _) (AutoListH.list___mul___list_int_3 l its.toArray n k t hfit hcap hlong) ⟨e, ?_⟩⟩)
  rw [hnew]
  exact ⟨.ref _, _, I.lnew (t' := s.toks) (r.rep k.toNat) (by rw [len_rep, Nat.mul_comm]; exact hz), rfl, q _ I.fresh⟩
end
end L2
namespace L2
open PySem PySem.Spec PyProof.Rows
theorem Vals.bls : ∀ {bs : List Bool} {us : List Value}, Vals (bs.map V.bl) us → us = bs.map Value.bool
  | [], us, h => by
    rw [List.map_nil] at h
    cases h
    rfl
  | b :: bs, us, h => by
    rw [List.map_cons] at h
    cases h with
    | cons r t =>
      cases r
      rw [Vals.bls t, List.map_cons]
theorem Vals.ref1 {a : Addr} {us : List Value} (r : Vals [V.ref a] us) : us = [Value.ref a] := by
  cases r with
  | cons r t =>
    cases t
    cases r
    rfl
theorem iter_any {prog : Program} {w : World} {A : Around} {E : Value → Shared → Prop} {s : Shared} {l : Addr} {items : Array Value} {Q : Value → Shared → Prop} (hl : s.heap.IsList l items)
    (h : ∀ s₂ : Shared, s₂ = { s with heap := s.heap.push { cls := .type "list_iterator", data := .fields #[.ref l, .int 0 0] } } →
      (s₂.heap.IsListIter s.heap.objs.size l 0 ∧ s₂.heap.IsList l items) → l ≠ s.heap.objs.size → Q (.ref s.heap.objs.size) s₂) : wpAny (model prog w) A (pyIter (.ref l)) Q E s := by
  have hlt : l < s.heap.objs.size := by obtain ⟨_, e, _⟩ := hl; exact Heap.lt_size e
  exact wpAny_pyIter_list hl (h _ rfl ⟨⟨_, Heap.get?_push_size _ rfl, rfl, rfl⟩, hl.push _⟩ (Nat.ne_of_lt hlt))
theorem truth_bools {prog : Program} {w : World} {A : Around} {bs : List Bool} {its : List Value} (e : its = bs.map Value.bool) :
    TruthOf prog w A (fun i v => its.toArray[i]? = some v) (fun i => bs.getD i false) := fun i v s Q E hv hq => by
  have hv' : its[i]? = some v := by simpa using hv
  rw [e, List.getElem?_map] at hv'
  obtain ⟨b, hb, rfl⟩ := Option.map_eq_some_iff.mp hv'
  have hg : bs.getD i false = b := by rw [List.getD_eq_getElem?_getD, hb] <;> rfl
  have hq' : Q (bs.getD i false) s := hq
  rw [hg] at hq'
  exact wpAny_truthy_bool hq'
theorem all_range : ∀ bs : List Bool, (List.range bs.length).all (fun i => bs.getD i false) = bs.all id
  | [] => rfl
  | b :: bs => by
    rw [List.length_cons, List.range_succ_eq_map, List.all_cons, List.all_map, List.all_cons, ← all_range bs]
    all_goals rfl
section
variable {X : Cx}
def rAll (K : PySem.W.Frag) : List V → Hp → VK → Prop := fun vs H Q => ∃ (a : Addr) (bs : List Bool), vs = [V.ref a] ∧ SqL K H a (bs.map V.bl) ∧ Q (.bl (bs.all id)) H
theorem cr_all (hc : X.calm = true) : CallR X (.builtin "all") (rAll X.K) := by
  intro pins s σ H vs us Q I r h
  obtain ⟨a, bs, rfl, hs, q⟩ := h
  obtain ⟨its, rv, hl, _⟩ := I.list hs
  rw [Vals.ref1 r]
  have hb := rv.bls
  refine call_all_walk (iter_any hl.isList fun s₂ e2 st hne => ?_)
  subst e2
  refine ⟨_, _, _, _, _, _, _, rfl, Walks.list (A := X.A.in1) (I.ok.hd hc) _ a hne its.toArray, st, truth_bools hb, fun h' tk hk => ?_⟩
  refine ⟨.bl _, H, I.kept fun b o eo => hk b o (fun hmem => ?_) (Heap.get?_push_of_some _ eo), ?_, q⟩
  · rcases List.mem_cons.mp hmem with e1 | hmem
    · exact absurd (e1 ▸ Heap.lt_size eo) (Nat.lt_irrefl _)
    · cases hmem
  · show Value.bool _ = Value.bool _
    rw [← all_range, hb, List.size_toArray, List.length_map]
end
end L2
namespace L2
open PySem PySem.Spec PyProof.Rows
abbrev CellAt (h : Heap) (c : Addr) (v : Option Value) : Prop := h.IsCell c v
def relS (scope sc : Scope) : Scope :=
  { scope with names := scope.names.map fun (n, k) => if (k == .free && sc.kind == .function && sc.names.lookup n == some .cell) then (n, .cell) else (n, k) }
def cloFrom (cells : List (Str × Addr)) : List (Str × NameKind) → List (Str × Addr) → List (Str × Addr)
  | [], acc => acc
  | (n, k) :: r, acc => if k == .free then cloFrom cells r ((n, (cells.lookup n).getD 0) :: acc) else cloFrom cells r acc
theorem closure_loop (env : Env) (f : Str × NameKind → List (Str × Addr) → Sem (ForInStep (List (Str × Addr))))
    (hf : ∀ n k c, f (n, k) c = if k == .free then (do let a ← cellOf env n; pure (.yield ((n, a) :: c))) else pure (.yield c)) :
    ∀ (names : List (Str × NameKind)) (acc : List (Str × Addr)), (∀ y ∈ names, y.2 = .free → ∃ c, env.cells.lookup y.1 = some c) → forIn names acc f = pure (cloFrom env.cells names acc)
  | [], acc, _ => by rw [List.forIn_nil]; rfl
  | (n, k) :: r, acc, h => by
    rw [List.forIn_cons, hf]
    have ih := fun acc => closure_loop env f hf r acc fun y hy => h y (List.mem_cons_of_mem _ hy)
    unfold cloFrom
    by_cases hk : (k == NameKind.free) = true
    · rw [if_pos hk, if_pos hk]
      obtain ⟨c, hc⟩ := h (n, k) List.mem_cons_self (by simpa using hk)
      have e : cellOf env n = pure c := by unfold cellOf; rw [hc]
      rw [e]
      have e2 : (env.cells.lookup n).getD 0 = c := by rw [hc]; rfl
      rw [e2]
      exact ih _
    · rw [if_neg hk, if_neg hk]
      exact ih _
theorem closure_ok {scope : Scope} {env : Env} (h : ∀ y ∈ scope.names, y.2 = .free → ∃ c, env.cells.lookup y.1 = some c) : closureFor scope env = pure (cloFrom env.cells scope.names []) := by
  simp only [closureFor]
  rw [closure_loop env _ (fun n k c => rfl) scope.names [] h]
  rfl
theorem mem_lookup {α : Type} : ∀ {l : List (Str × α)} {n : Str} {c : α}, (n, c) ∈ l → ∃ c', l.lookup n = some c'
  | (k, v) :: r, n, c, h => by
    rw [List.lookup_cons]
    cases hb : n == k with
    | true => exact ⟨_, rfl⟩
    | false =>
      rcases List.mem_cons.mp h with e | h
      · cases e; simp at hb
      · exact mem_lookup h
theorem cloFrom_mem {cells : List (Str × Addr)} : ∀ {names : List (Str × NameKind)} {acc : List (Str × Addr)} {n : Str} {c : Addr}, (n, c) ∈ cloFrom cells names acc → (n, c) ∈ acc ∨ ((n, .free) ∈ names ∧ c = (cells.lookup n).getD 0)
  | [], _, _, _, h => .inl h
  | (m, k) :: r, acc, n, c, h => by
    unfold cloFrom at h
    split at h
    · rename_i hk
      have hk : k = .free := by simpa using hk
      rcases cloFrom_mem h with h | ⟨h1, h2⟩
      · rcases List.mem_cons.mp h with e | h
        · cases e; exact .inr ⟨hk ▸ List.mem_cons_self, rfl⟩
        · exact .inl h
      · exact .inr ⟨List.mem_cons_of_mem _ h1, h2⟩
    · rcases cloFrom_mem h with h | ⟨h1, h2⟩
      · exact .inl h
      · exact .inr ⟨List.mem_cons_of_mem _ h1, h2⟩
theorem cloFrom_acc {cells : List (Str × Addr)} : ∀ {names : List (Str × NameKind)} {acc : List (Str × Addr)} {p : Str × Addr}, p ∈ acc → p ∈ cloFrom cells names acc
  | [], _, _, h => h
  | (m, k) :: r, acc, p, h => by
    unfold cloFrom
    split
    · exact cloFrom_acc (List.mem_cons_of_mem _ h)
    · exact cloFrom_acc h
theorem cloFrom_has {cells : List (Str × Addr)} : ∀ {names : List (Str × NameKind)} {acc : List (Str × Addr)} {n : Str}, (n, .free) ∈ names → (n, (cells.lookup n).getD 0) ∈ cloFrom cells names acc
  | (m, k) :: r, acc, n, h => by
    unfold cloFrom
    rcases List.mem_cons.mp h with e | h
    · cases e
      exact cloFrom_acc List.mem_cons_self
    · split
      · exact cloFrom_has h
      · exact cloFrom_has h
theorem cells_mem : ∀ {names : List (Str × NameKind)} {h : Heap} {acc : List (Str × Addr)} {x : Str} {c : Addr}, (x, c) ∈ cellsFrom h.objs.size names acc →
    (x, c) ∈ acc ∨ ((x, .cell) ∈ names ∧ h.objs.size ≤ c ∧ CellAt (pushCells h names) c none)
  | [], _, _, _, _, h => .inl h
  | (n, k) :: r, h, acc, x, c, hm => by
    unfold cellsFrom at hm
    unfold pushCells
    split at hm
    · rename_i hk
      rw [if_pos hk]
      have hk : k = .cell := by simpa using hk
      rw [← Heap.size_push h { cls := .type "cell", data := .cell none }] at hm
      rcases cells_mem hm with hm | ⟨h1, h2, h3⟩
      · rcases List.mem_cons.mp hm with e | hm
        · cases e
          exact .inr ⟨hk ▸ List.mem_cons_self, Nat.le_refl _, _, pushCells_keeps r _ _ _ (Heap.get?_push_size _ rfl), rfl⟩
        · exact .inl hm
      · rw [Heap.size_push] at h2
        exact .inr ⟨List.mem_cons_of_mem _ h1, Nat.le_of_succ_le h2, h3⟩
    · rename_i hk
      rw [if_neg hk]
      rcases cells_mem hm with hm | ⟨h1, h2, h3⟩
      · exact .inl hm
      · exact .inr ⟨List.mem_cons_of_mem _ h1, h2, h3⟩
theorem cells_acc : ∀ {names : List (Str × NameKind)} {n : Nat} {acc : List (Str × Addr)} {p : Str × Addr}, p ∈ acc → p ∈ cellsFrom n names acc
  | [], _, _, _, h => h
  | (m, k) :: r, n, acc, p, h => by
    unfold cellsFrom
    split
    · exact cells_acc (List.mem_cons_of_mem _ h)
    · exact cells_acc h
theorem cells_has : ∀ {names : List (Str × NameKind)} {n : Nat} {acc : List (Str × Addr)} {x : Str}, (x, .cell) ∈ names → ∃ c, (x, c) ∈ cellsFrom n names acc
  | (m, k) :: r, n, acc, x, h => by
    unfold cellsFrom
    rcases List.mem_cons.mp h with e | h
    · cases e
      exact ⟨n, cells_acc List.mem_cons_self⟩
    · split
      · exact cells_has h
      · exact cells_has h
theorem cells_inj : ∀ {names : List (Str × NameKind)} {h : Heap} {acc : List (Str × Addr)} {x y : Str} {c : Addr}, (∀ p ∈ acc, p.2 < h.objs.size) → (∀ x y c, (x, c) ∈ acc → (y, c) ∈ acc → x = y) →
    (x, c) ∈ cellsFrom h.objs.size names acc → (y, c) ∈ cellsFrom h.objs.size names acc → x = y
  | [], _, _, _, _, _, _, hi, h1, h2 => hi _ _ _ h1 h2
  | (n, k) :: r, h, acc, x, y, c, hl, hi, h1, h2 => by
    unfold cellsFrom at h1 h2
    split at h1
    · rename_i hk
      rw [if_pos hk] at h2
      rw [← Heap.size_push h { cls := .type "cell", data := .cell none }] at h1 h2
      refine cells_inj (h := h.push _) (fun p hp => ?_) (fun x y c a b => ?_) h1 h2
      · rw [Heap.size_push]
        rcases List.mem_cons.mp hp with rfl | hp
        · exact Nat.lt_succ_self _
        · exact Nat.lt_succ_of_lt (hl p hp)
      · rcases List.mem_cons.mp a with e | a <;> rcases List.mem_cons.mp b with e' | b
        · cases e; cases e'; rfl
        · cases e; exact absurd (hl _ b) (Nat.lt_irrefl _)
        · cases e'; exact absurd (hl _ a) (Nat.lt_irrefl _)
        · exact hi _ _ _ a b
    · rename_i hk
      rw [if_neg hk] at h2
      exact cells_inj hl hi h1 h2
theorem newEnv_comp {M : Model} {A : Around} {E : Value → Shared → Prop} {s : Shared} {scope : Scope} {globals : Addr} {closure : List (Str × Addr)} {qual : Str} {func : Option Addr} {code : Value} {around : Env} {builtins : Addr} {Q : Env → Shared → Prop}
    (h : Q (newEnv scope s.heap.objs.size globals (cellsFrom (s.heap.objs.size + 1) scope.names closure) qual func code (some around) builtins)
      { s with heap := pushCells (s.heap.push { cls := .type "dict", data := .dict #[] }) scope.names }) :
    wpAny M A (newFunctionEnv scope globals closure [] qual func code (some around) builtins) Q E s := by
  simp only [newFunctionEnv, Option.isSome_some, if_true]
  refine wpAny_bind (wpAny_alloc ?_)
  refine wpAny_bind (wpAny_layCells _ (fun n k c => rfl) scope.names closure _ _ ?_)
  rw [show ({ s with heap := s.heap.push { cls := .type "dict", data := .dict #[] } } : Shared).heap.objs.size = s.heap.objs.size + 1 from Heap.size_push ..]
  rw [List.forIn_nil]
  exact wpAny_bind (wpAny_pure (wpAny_pure h))
/-- every name of the written scope, in the scope that runs -/
theorem lookup_relS {sc : Scope} : ∀ {names : List (Str × NameKind)} {x : Str} {k : NameKind},
    (names.map fun (n, k) => if (k == NameKind.free && sc.kind == .function && sc.names.lookup n == some .cell) then (n, NameKind.cell) else (n, k)).lookup x = some k →
    ∃ k', names.lookup x = some k' ∧ (k = k' ∨ (k' = .free ∧ k = .cell))
  | [], _, _, h => by simp at h
  | (n, k₀) :: r, x, k, h => by
    have ih := @lookup_relS sc r x k
    have h' : List.lookup x ((if (k₀ == NameKind.free && sc.kind == .function && sc.names.lookup n == some .cell) = true then (n, NameKind.cell) else (n, k₀)) :: (r.map _)) = some k := h
    cases hx : x == n with
    | true =>
      simp only [List.lookup_cons, hx]
      by_cases hc : (k₀ == NameKind.free && sc.kind == .function && sc.names.lookup n == some .cell) = true
      · rw [if_pos hc] at h'
        simp only [List.lookup_cons, hx] at h'
        cases h'
        simp only [Bool.and_eq_true, beq_iff_eq] at hc
        exact ⟨k₀, rfl, .inr ⟨hc.1.1, rfl⟩⟩
      · rw [if_neg hc] at h'
        simp only [List.lookup_cons, hx] at h'
        cases h'
        exact ⟨_, rfl, .inl rfl⟩
    | false =>
      simp only [List.lookup_cons, hx]
      by_cases hc : (k₀ == NameKind.free && sc.kind == .function && sc.names.lookup n == some .cell) = true
      · rw [if_pos hc] at h'
        simp only [List.lookup_cons, hx] at h'
        exact ih h'
      · rw [if_neg hc] at h'
        simp only [List.lookup_cons, hx] at h'
        exact ih h'
/-- the names of a comprehension's block: its own (with their places in N), or captured -/
structure BlkOk (N : List Str) (sc scope : Scope) (own : List (Str × Nat)) : Prop where
  kind : scope.kind = .function
  uniq : ∀ y ∈ scope.names, scope.names.lookup y.1 = some y.2
  ix : ∀ p ∈ own, N[p.2]? = some p.1
  free : ∀ y ∈ scope.names, y.2 = .free → sc.names.lookup y.1 = some .cell ∨ sc.names.lookup y.1 = some .free
  own : ∀ y ∈ scope.names, y.2 = .local ∨ y.2 = .cell → y.1 ∈ own.map (·.1) ∨ y.1 ∉ N
/-- the slots of the block's own names forgotten -/
def wipe (σ : St) : List Nat → St
  | [] => σ
  | v :: vs => (wipe σ vs).set v none
theorem wipe_length (σ : St) : ∀ vs : List Nat, (wipe σ vs).length = σ.length
  | [] => rfl
  | v :: vs => by unfold wipe; rw [List.length_set, wipe_length σ vs]
theorem wipe_some {σ : St} {i : Nat} {x : V} : ∀ {vs : List Nat}, (wipe σ vs)[i]? = some (some x) → σ[i]? = some (some x) ∧ i ∉ vs
  | [], h => ⟨h, by simp⟩
  | v :: vs, h => by
    unfold wipe at h
    by_cases hi : v = i
    · subst hi
      by_cases hv : v < (wipe σ vs).length
      · rw [List.getElem?_set_self hv] at h; cases h
      · rw [List.getElem?_eq_none (by simpa using hv)] at h; cases h
    · rw [List.getElem?_set_ne hi] at h
      obtain ⟨h1, h2⟩ := wipe_some h
      exact ⟨h1, by simp only [List.mem_cons, not_or]; exact ⟨fun e => hi e.symm, h2⟩⟩
/-- the context of a block that starts at s, its iterator's objects at fp -/
abbrev Cx.blk (X : Cx) (s : Shared) (H : Hp) (scope : Scope) (cenv : Env) (fp : List Addr) : Cx := { X with s_0 := s, H_0 := H, env := cenv, outer := X.stack, ex := fp, fn := fun x => scope.names.lookup x == some .cell, pn := [], xe := fun _ _ => False }
section
variable {X : Cx} {pins : List (Addr × Obj)} {σ : St} {H : Hp} {s : Shared}
theorem block_start {scope : Scope} {own : List (Str × Nat)} {fp : List Addr} (I : Inv X pins σ H s) (ok : BlkOk X.N X.env.scope scope own) (hN : X.N.Nodup) (hfp : ∀ b ∈ fp, FpOk X pins H b ∧ b < s.heap.objs.size) :
    Inv (X.blk s H scope (compEnvC scope (cellsFrom (s.heap.objs.size + 1) scope.names (cloFrom X.env.cells scope.names [])) s.heap.objs.size X.env) fp) [] (wipe σ (own.map (·.2))) H { s with heap := pushCells (s.heap.push { cls := .type "dict", data := .dict #[] }) scope.names } := by
  have hfree : ∀ y ∈ scope.names, y.2 = .free → ∃ c, X.env.cells.lookup y.1 = some c := fun y hy e => by
    rcases ok.free y hy e with k | k
    · exact I.ok.has _ (.inl k)
    · exact I.ok.has _ (.inr k)
  generalize hcenv : compEnvC scope (cellsFrom (s.heap.objs.size + 1) scope.names (cloFrom X.env.cells scope.names [])) s.heap.objs.size X.env = cenv
  have kp : ∀ b o, s.heap.get? b = some o → (pushCells (s.heap.push { cls := .type "dict", data := .dict #[] }) scope.names).get? b = some o := fun b o e => pushCells_keeps _ _ _ _ (Heap.get?_push_of_some _ e)
  have hL : cenv.locals = s.heap.objs.size := by rw [← hcenv]; rfl
  have hcl : cenv.cells = cellsFrom (s.heap.objs.size + 1) scope.names (cloFrom X.env.cells scope.names []) := by rw [← hcenv]; rfl
  have hsc : cenv.scope = relS scope X.env.scope := by rw [← hcenv]; rfl
  rw [← Heap.size_push s.heap { cls := .type "dict", data := .dict #[] }] at hcl
  have cm : ∀ {y c}, (y, c) ∈ cloFrom X.env.cells scope.names [] → X.env.cells.lookup y = some c ∧ c < s.heap.objs.size := fun {y c} hm => by
    rcases cloFrom_mem hm with hm | ⟨h1, rfl⟩
    · cases hm
    · obtain ⟨c, hc⟩ := hfree _ h1 rfl
      rw [hc]
      obtain ⟨w, z⟩ := I.cell _ _ hc
      exact ⟨rfl, z.lt⟩
  have mem : ∀ {y c}, cenv.cells.lookup y = some c → (X.env.cells.lookup y = some c ∧ c < s.heap.objs.size) ∨ (s.heap.objs.size + 1 ≤ c ∧ CellAt (pushCells (s.heap.push { cls := .type "dict", data := .dict #[] }) scope.names) c none) := fun {y c} e => by
    rw [hcl] at e
    rcases cells_mem (PySem.mem_of_lookup e) with hm | ⟨_, h2, h3⟩
    · exact .inl (cm hm)
    · rw [Heap.size_push] at h2; exact .inr ⟨h2, h3⟩
  have look : ∀ {y}, scope.names.lookup y = some .free → ∃ c, cenv.cells.lookup y = some c ∧ X.env.cells.lookup y = some c := fun {y} hl => by
    have hy : (y, NameKind.free) ∈ scope.names := PySem.mem_of_lookup hl
    obtain ⟨c', e'⟩ := mem_lookup (cells_acc (names := scope.names) (n := (s.heap.push { cls := .type "dict", data := .dict #[] }).objs.size) (cloFrom_has (cells := X.env.cells) (acc := []) hy))
    rw [← hcl] at e'
    refine ⟨c', e', ?_⟩
    rw [hcl] at e'
    rcases cells_mem (PySem.mem_of_lookup e') with hm | ⟨h1, _, _⟩
    · exact (cm hm).1
    · have := ok.uniq _ h1
      rw [hl] at this; cases this
  have okB : (X.blk s H scope cenv fp).Ok := by
    refine ⟨I.ok.mod, by show cenv.scope.kind = _; rw [hsc]; exact ok.kind, by show cenv.globals = _; rw [← hcenv]; exact I.ok.glob, by show cenv.builtins = _; rw [← hcenv]; exact I.ok.blt, by show s.heap.objs.size ≤ cenv.locals; rw [hL]; exact Nat.le_refl _,
      fun y z c e1 e2 => ?_, fun y hy => ?_, fun y c z e => ?_, I.ok.hd, I.ok.frames, .inl rfl, fun b hb => ⟨?_, fun y c e z => ?_⟩, I.bs, Nat.le_trans I.ok.bsz I.sz, fun b o e hb => ?_, fun b hb z => ?_, I.stack, I.stkFree⟩
    · have e1 : cenv.cells.lookup y = some c := e1
      have e2 : cenv.cells.lookup z = some c := e2
      rw [hcl] at e1 e2
      refine cells_inj (fun p hp => ?_) (fun y z c a b => I.ok.inj y z c (cm a).1 (cm b).1) (PySem.mem_of_lookup e1) (PySem.mem_of_lookup e2)
      rw [Heap.size_push]
      exact Nat.lt_succ_of_lt (cm (y := p.1) (c := p.2) hp).2
    · show ∃ c, cenv.cells.lookup y = some c
      have key : ∀ k, cenv.kindOf y = some k → (k = .cell ∨ k = .free) → ∃ c, cenv.cells.lookup y = some c := fun k hk hk' => by
        unfold Env.kindOf at hk
        rw [hsc] at hk
        obtain ⟨k', e, r⟩ := lookup_relS hk
        have : k' = .cell ∨ k' = .free := by
          rcases r with rfl | ⟨rfl, _⟩
          · exact hk'
          · exact .inr rfl
        rcases this with rfl | rfl
        · obtain ⟨c, hm⟩ := cells_has (n := (s.heap.push { cls := .type "dict", data := .dict #[] }).objs.size) (acc := cloFrom X.env.cells scope.names []) (PySem.mem_of_lookup e)
          obtain ⟨c', e'⟩ := mem_lookup hm
          exact ⟨c', by rw [hcl]; exact e'⟩
        · obtain ⟨c, h1, _⟩ := look e
          exact ⟨c, h1⟩
      rcases hy with hy | hy
      · exact key _ hy (.inl rfl)
      · exact key _ hy (.inr rfl)
    · have z : (scope.names.lookup y == some NameKind.cell) = true := z
      have z : scope.names.lookup y = some .cell := by simpa using z
      have e : cenv.cells.lookup y = some c := e
      rw [hcl] at e
      rcases cells_mem (PySem.mem_of_lookup e) with hm | ⟨_, h2, _⟩
      · rcases cloFrom_mem hm with hm | ⟨h1, _⟩
        · cases hm
        · have q := ok.uniq _ h1
          rw [z] at q; cases q
      · rw [Heap.size_push] at h2
        exact Nat.le_of_succ_le h2
    · show b ≠ cenv.locals
      rw [hL]; exact Nat.ne_of_lt (hfp b hb).2
    · have e : cenv.cells.lookup y = some c := e
      rcases mem e with ⟨h1, _⟩ | ⟨h1, _⟩
      · exact (hfp b hb).1.2.2.2.2.1 y c h1 z
      · have h2 : s.heap.objs.size + 1 ≤ b := by rw [← z]; exact h1
        exact absurd (Nat.lt_of_lt_of_le (hfp b hb).2 (Nat.le_of_succ_le h2)) (Nat.lt_irrefl _)
    · rcases (hfp b hb).1.2.2.2.1 with z | z
      · exact I.ok.noex b o e z
      · exact absurd (Nat.lt_of_lt_of_le (Heap.lt_size e) (Nat.le_trans I.ok.bsz z)) (Nat.lt_irrefl _)
    · rcases List.mem_cons.mp (I.stkSub b z) with z | z
      · exact (hfp b hb).1.2.1 z
      · exact (hfp b hb).1.2.2.1 z
  refine ⟨okB, rfl, I.bare, Un.kept kp, ⟨fun _ => none, ?_, fun i y av e1 e2 e3 => ?_⟩, fun y c e => ?_, ?_, fun y c e => ?_, fun p hp => ?_, I.hok.kept kp, by rw [wipe_length]; exact I.len⟩
  · show Heap.Ns _ cenv.locals _
    rw [hL]
    exact Heap.Ns.keeps (Heap.Ns.new ..) fun b o e => pushCells_keeps _ _ _ _ e
  · obtain ⟨e2, hne⟩ := wipe_some e2
    have hfr : scope.names.lookup y = some .free ∧ (cenv.kindOf y = some .cell ∨ cenv.kindOf y = some .free) := by
      have key : ∀ k, cenv.scope.names.lookup y = some k → k = .local ∨ k = .cell ∨ k = .free → scope.names.lookup y = some .free ∧ (cenv.kindOf y = some .cell ∨ cenv.kindOf y = some .free) := fun k hk hk' => by
        have hk0 := hk
        rw [hsc] at hk
        obtain ⟨k', e, r⟩ := lookup_relS hk
        have no : ¬ (k' = .local ∨ k' = .cell) := fun hh => by
          rcases ok.own _ (PySem.mem_of_lookup e) hh with e' | e'
          · obtain ⟨p, hp, hpy⟩ := List.mem_map.mp e'
            have e3 := ok.ix p hp
            have : p.1 = y := hpy
            rw [this] at e3
            exact hne (List.mem_map.mpr ⟨p, hp, nodup_ix hN e3 e1⟩)
          · exact e' (List.mem_of_getElem? e1)
        rcases r with rfl | ⟨rfl, rfl⟩
        · rcases hk' with rfl | rfl | rfl
          · exact absurd (.inl rfl) no
          · exact absurd (.inr rfl) no
          · exact ⟨e, .inr hk0⟩
        · exact ⟨e, .inl hk0⟩
      have e3 : Vis cenv.scope y := e3
      rcases e3 with e3 | e3 | e3
      · exact key _ e3 (.inl rfl)
      · exact key _ e3 (.inr (.inl rfl))
      · exact key _ e3 (.inr (.inr rfl))
    obtain ⟨m, hn, hl⟩ := I.loc
    have hvis : Vis X.env.scope y := (ok.free _ (PySem.mem_of_lookup hfr.1) rfl).elim (fun k => .inr (.inl k)) (fun k => .inr (.inr k))
    obtain ⟨w, r, q⟩ := hl i y av e1 e2 hvis
    refine ⟨w, r, .inr ⟨hfr.2, ?_⟩⟩
    obtain ⟨c, h1, h2⟩ := look hfr.1
    rcases q with ⟨k, _⟩ | ⟨_, c', e', z⟩
    · have k : X.env.scope.names.lookup y = some .local := k
      rcases ok.free _ (PySem.mem_of_lookup hfr.1) rfl with k' | k' <;> rw [show X.env.scope.names.lookup y = _ from k'] at k <;> cases k
    · rw [h2] at e'; cases e'
      exact ⟨c, h1, z.keeps kp⟩
  · have e : cenv.cells.lookup y = some c := e
    rcases mem e with ⟨h1, _⟩ | ⟨_, z⟩
    · obtain ⟨w, z⟩ := I.cell y c h1
      exact ⟨w, z.keeps kp⟩
    · exact ⟨_, z⟩
  · show H cenv.locals = none
    rw [hL]; exact I.hok.fresh (Nat.le_refl _)
  · have e : cenv.cells.lookup y = some c := e
    rcases mem e with ⟨h1, _⟩ | ⟨h1, _⟩
    · exact I.freeC y c h1
    · exact I.hok.fresh (Nat.le_of_succ_le h1)
  · exact absurd (show p ∈ ([] : List (Addr × Obj)) ++ [] from hp) (by simp)
/-- an item appended to a tracked list -/
theorem app_ok {E : Value → Shared → Prop} {D : Addr} {xs : List V} {y : V} {v : Value} {Q : Value → Shared → Prop} (I : Inv X pins σ H s) (hD : H D = some (.lst xs)) (hz : xs.length < sizeLine) (r : RelV y v)
    (h : ∀ s', Inv X pins σ (upd H D (.lst (xs ++ [y]))) s' → Q .none s') : wpAny (model X.prog X.w) X.A (call (.builtin "list.append") [.ref D, v]) Q E s := by
  obtain ⟨hz', its, n, ri, e⟩ := I.hok D _ hD
  have hl := ri.length
  refine append_at (hsz := by rw [List.size_toArray]; omega) e fun h' sb ho' => ?_
  refine h { s with heap := h' } (I.write (t' := s.toks) (by rw [hD]; trivial) (.inl rfl) (fun b u hb q => (sb.2 b hb).trans q) ⟨_, ho'⟩ ⟨by rw [List.length_append]; exact hz, its ++ [v], n + 1, ri.append (.cons r .nil), ?_⟩)
  rw [ho']
  simp
/-- a clause's tests -/
def PTs (X : Cx) (ifs : List Expr) (t : TT) : Prop :=
  ∀ (pins : List (Addr × Obj)) (s : Shared) (σ : St) (H : Hp) (Q : Bool → Hp → Prop), Inv X pins σ H s → t σ H Q →
    wpAny (model X.prog X.w) X.A (forIn ifs true fun c r => if r = true then do let ok ← isTrue c X.env (eval c X.env); pure (ForInStep.yield ok) else pure (ForInStep.yield r)) (TP X pins σ Q) X.xe s
def tYes : TT := fun _ H Q => Q true H
theorem pts_nil : PTs X [] tYes := fun _ _ _ H _ I h => wpAny_tests_nil ⟨H, I, h⟩
end
theorem thnF {α : Type} {t : Sem α} {Q Q' : α → Shared → Prop} {M : Model} {A : Around} {E : Value → Shared → Prop} {s : Shared} (h : wpAny M A t Q (fun _ _ => False) s) (hQ : ∀ a s, Q a s → Q' a s) : wpAny M A t Q' E s := wpAny_mono h hQ fun _ _ z => False.elim z
/-- the loop of a list comprehension's block, the target of any form (codeAny_compLoop_tests asks a target that no tuple goes to; statement and proof follow it, PyProof/CompMap.lean:41-61, with the step letOwnedTupleGo kept) -/
theorem compLoop_any {prog : Program} {w : World} {A : Around} {R : Result → Shared → Prop} {s : Shared} {elt target iter : Expr} {ifs : List Expr} {scope : Scope} {pos : Pos} {it acc : Value} {env : Env} (I : Nat → Shared → Prop)
    (turn : ∀ n s, I n s → wpAny (model prog w) A (pyNext it) (fun r s₁ => match r with
      | none => R (.ok .next) s₁
      | some v => wpAny (model prog w) A (letOwnedTupleGo target it v) (fun _ s₁' => wpAny (model prog w) A (assign target env v) (fun _ s₂ =>
          wpAny (model prog w) A (forIn ifs true fun c r => if r = true then do let ok ← isTrue c env (eval c env); pure (ForInStep.yield ok) else pure (ForInStep.yield r)) (fun ok s₃ =>
            if ok = true then wpAny (model prog w) A (eval elt env) (fun x s₄ =>
              wpAny (model prog w) A (call (.builtin "list.append") [acc, x]) (fun _ s₅ => ∃ m, m < n ∧ I m s₅) (notedBy (model prog w) A env fun e s' => R (.error e) s') s₄) (notedBy (model prog w) A env fun e s' => R (.error e) s') s₃
            else ∃ m, m < n ∧ I m s₃) (notedBy (model prog w) A env fun e s' => R (.error e) s') s₂) (notedBy (model prog w) A env fun e s' => R (.error e) s') s₁') (notedBy (model prog w) A env fun e s' => R (.error e) s') s₁) (notedBy (model prog w) A env fun e s' => R (.error e) s') s)
    (n : Nat) (h : I n s) :
    codeAny (model prog w) A (.compLoop (.ListComp elt [⟨target, iter, ifs, 0⟩] scope pos) 0 it acc env) R s := by
  refine codeAny_loop rfl I (fun n s hI => ?_) n h
  show wpAny _ A ((compTurn (.ListComp elt [⟨target, iter, ifs, 0⟩] scope pos) 0 it acc env).onRaise (fun x => do noteFrame x env; theTreesLotGoes x)) _ _ s
  refine wpAny_noted ?_
  rw [compTurn_list]
  refine wpAny_bind (wpAny_standAt (wpAny_bind (wpAny_mono (turn n s hI) (fun r s₁ h₁ => ?_) fun _ _ h' => h')))
  cases r with
  | none => exact wpAny_pure h₁
  | some v =>
    refine wpAny_bind (wpAny_mono h₁ (fun _ s₁' h₁' => ?_) fun _ _ h' => h')
    refine wpAny_bind (wpAny_mono h₁' (fun _ s₂ h₂ => wpAny_bind (wpAny_mono h₂ (fun ok s₃ h₃ => ?_) fun _ _ h' => h')) fun _ _ h' => h')
    cases ok with
    | false => exact wpAny_pure ⟨rfl, h₃⟩
    | true =>
      exact wpAny_bind (wpAny_bind (wpAny_mono h₃ (fun x s₄ h₄ => wpAny_bind (wpAny_mono h₄ (fun _ s₅ h₅ => wpAny_pure (wpAny_pure ⟨rfl, h₅⟩)) fun _ _ h' => h')) fun _ _ h' => h'))
section
variable {X : Cx}
/-- [elt for target in iter if ..]: D the new list; W by the turn and a measure, Nx what a turn is to reach -/
def tLc (wi : TI) (g : TG) (tt : TT) (te : TE) (vs : List Nat) : TE := fun σ H Q => wi σ H fun J H1 => ∀ D, H1 D = none → ∃ W : Nat → Nat → Hp → Prop, (∃ m, W 0 m (upd H1 D (.lst []))) ∧ ∀ i m H, W i m H →
  (J.stop i H ∧ Q (.ref D) H) ∨ (J.go i H ∧ ∃ Nx : Hp → Prop, (∀ H', Nx H' → ∃ m', m' < m ∧ W (i + 1) m' H') ∧ ∀ x H', J.yld i H x H' → g x (wipe σ vs) H' fun σ2 H2 => wipe σ2 vs = wipe σ vs ∧ tt σ2 H2 fun b H3 =>
    if b = true then te σ2 H3 fun y H4 => ∃ acc, H4 D = some (.lst acc) ∧ acc.length < sizeLine ∧ Nx (upd H4 D (.lst (acc ++ [y]))) else Nx H3)
theorem lc_core {pins : List (Addr × Obj)} {s : Shared} {σ : St} {H : Hp} {Q : VK} {elt tg iter : Expr} {ifs : List Expr} {scope : Scope} {own : List (Str × Nat)} {pos pos' : Pos} {wi : TI} {g : TG} {tt : TT} {te : TE} {use : Option (Value → Sem Unit)} {Qf : Value → Shared → Prop}
    (hc : X.calm = true) (hN : X.N.Nodup) (I : Inv X pins σ H s) (hi : PI X tg iter wi) (ok : BlkOk X.N X.env.scope scope own)
    (hg : ∀ (s : Shared) (H : Hp) (C : Addr) (cl : List (Str × Addr)) (fp : List Addr), PG (X.blk s H scope (compEnvC scope cl C X.env) fp) tg g) (ht : ∀ (s : Shared) (H : Hp) (C : Addr) (cl : List (Str × Addr)) (fp : List Addr), PTs (X.blk s H scope (compEnvC scope cl C X.env) fp) ifs tt)
    (he : ∀ (s : Shared) (H : Hp) (C : Addr) (cl : List (Str × Addr)) (fp : List Addr), PE (X.blk s H scope (compEnvC scope cl C X.env) fp) elt te) (hs : ∀ x, foldedSetIterable iter X.env x = pure x)
    (h : tLc wi g tt te (own.map (·.2)) σ H Q)
    (hRR : ∀ D C s' m H', Inv X pins σ H' s' → Q (.ref D) H' → s'.heap.Ns C m → FpOk X pins H' C → compPost (model X.prog X.w) X.A X.xe use Qf (.ref D) C (.ok .next) s') :
    wpAny (model X.prog X.w) X.A (comprehension (.ListComp elt [⟨tg, iter, ifs, 0⟩] scope pos) scope X.env pos' (newList []) false (eval iter X.env) use) Qf X.xe s := by
  have hfree : ∀ y ∈ scope.names, y.2 = .free → ∃ c, X.env.cells.lookup y.1 = some c := fun y hy e => by
    rcases ok.free y hy e with k | k
    · exact I.ok.has _ (.inl k)
    · exact I.ok.has _ (.inr k)
  refine wpAny_comprehension_free (use := use) rfl hs (closure_ok hfree) ok.kind (fun y hy e => by rw [ok.uniq y hy, e])
    (thn (hi pins s σ H _ I h) fun xv s1 hx => thn hx fun itv s2 h2 => ?_)
  obtain ⟨it, fp, tn, J, H2, e, I2, T, st2, f2, q⟩ := h2
  subst e
  refine wpAny_newObj_type (newEnv_comp ?_) (by show 0 ≤ sizeLine; decide)
  generalize hD : s2.heap.objs.size = D
  have hDn : H2 D = none := I2.hok.fresh (Nat.le_of_eq hD)
  obtain ⟨W, ⟨m0, w0⟩, turn⟩ := q D hDn
  -- the new list
  generalize hs3 : ({ s2 with heap := s2.heap.push { cls := .type "list", data := .seq ([] : List Value).toArray } } : Shared) = s3
  have I3 : Inv X pins σ (upd H2 D (.lst [])) s3 := by
    rw [← hs3]
    refine I2.laid (t' := s2.toks) (fun b o e => Heap.get?_push_of_some _ e) (Nat.le_of_eq hD) ⟨Nat.zero_le _, [], 0, .nil, ?_⟩
    rw [← hD]
    exact Heap.get?_push_size _ rfl
  have h3 : s3.heap = s2.heap.push { cls := .type "list", data := .seq ([] : List Value).toArray } := by rw [← hs3]
  have sz : ∀ b ∈ fp, b < s2.heap.objs.size := fun b hb => by
    obtain ⟨o, e, _⟩ := T.obj _ _ st2 b hb
    exact Heap.lt_size e
  have f3 : ∀ b ∈ fp, FpOk X pins (upd H2 D (.lst [])) b ∧ b < s3.heap.objs.size := fun b hb => by
    have hlt := sz b hb
    refine ⟨⟨?_, (f2 b hb).2⟩, by rw [h3, Heap.size_push]; exact Nat.lt_succ_of_lt hlt⟩
    rw [upd_ne (by rw [← hD]; exact Nat.ne_of_lt hlt)]
    exact (f2 b hb).1
  have st3 : tn 0 s3.heap := T.keep _ _ _ st2 fun b _ o e => by rw [h3]; exact Heap.get?_push_of_some _ e
  have I4 := block_start I3 ok hN f3
  have pg := hg s3 (upd H2 D (.lst [])) s3.heap.objs.size (cellsFrom (s3.heap.objs.size + 1) scope.names (cloFrom X.env.cells scope.names [])) fp
  have pt := ht s3 (upd H2 D (.lst [])) s3.heap.objs.size (cellsFrom (s3.heap.objs.size + 1) scope.names (cloFrom X.env.cells scope.names [])) fp
  have pe := he s3 (upd H2 D (.lst [])) s3.heap.objs.size (cellsFrom (s3.heap.objs.size + 1) scope.names (cloFrom X.env.cells scope.names [])) fp
  show codeAny _ _ (.compStart (.ListComp elt [⟨tg, iter, ifs, 0⟩] scope pos) 0 (.ref it) (.ref D) (compEnvC scope (cellsFrom (s3.heap.objs.size + 1) scope.names (cloFrom X.env.cells scope.names [])) s3.heap.objs.size X.env)) (compPost (model X.prog X.w) X.A X.xe use Qf (.ref D) s3.heap.objs.size) { s3 with heap := pushCells (s3.heap.push { cls := .type "dict", data := .dict #[] }) scope.names }
  have nfp : ∀ b ∈ fp, (upd H2 D (.lst [])) b = none := fun b hb => (f3 b hb).1.1
  generalize hce : compEnvC scope (cellsFrom (s3.heap.objs.size + 1) scope.names (cloFrom X.env.cells scope.names [])) s3.heap.objs.size X.env = ce at I4 pg pt pe ⊢
  have cL : ce.locals = s3.heap.objs.size := by subst hce; rfl
  generalize hH3 : upd H2 D (.lst []) = H3 at I3 I4 pg pt pe w0 nfp f3
  generalize hs4 : ({ s3 with heap := pushCells (s3.heap.push { cls := .type "dict", data := .dict #[] }) scope.names } : Shared) = s4 at I4 ⊢
  have st4 : tn 0 s4.heap := T.keep _ _ _ st3 fun b _ o e => by rw [← hs4]; exact pushCells_keeps _ _ _ _ (Heap.get?_push_of_some _ e)
  have stat : ∀ {σ' : St} {H' : Hp} {s' : Shared}, Inv (X.blk s3 H3 scope ce fp) [] σ' H' s' → (∀ b ∈ fp, H' b = none) → ∀ b ∈ fp, FpOk (X.blk s3 H3 scope ce fp) [] H' b := fun {σ' H' s'} I' hn b hb =>
    ⟨hn b hb, (I'.ok.exf b hb).1, I'.ok.exfs b hb, .inl hb, fun x c e => (I'.ok.exf b hb).2 x c e, fun p hp => absurd (show p ∈ ([] : List (Addr × Obj)) ++ [] from hp) (by simp)⟩
  have loop : codeAny (model X.prog X.w) X.A (.compLoop (.ListComp elt [⟨tg, iter, ifs, 0⟩] scope pos) 0 (.ref it) (.ref D) ce) (compPost (model X.prog X.w) X.A X.xe use Qf (.ref D) s3.heap.objs.size) s4 := by
    refine compLoop_any (fun n s' => ∃ i H', Inv (X.blk s3 H3 scope ce fp) [] (wipe σ (own.map (·.2))) H' s' ∧ tn i s'.heap ∧ (∀ b ∈ fp, H' b = none) ∧ W i n H') ?_ m0 ⟨0, H3, I4, st4, nfp, w0⟩
    rintro n s5 ⟨i, H5, I5, st5, n5, w5⟩
    rcases turn i n H5 w5 with ⟨stop, qq⟩ | ⟨go, Nx, hNx, step⟩
    · have td := T.done (X.blk s3 H3 scope ce fp) rfl rfl rfl hc i [] s5 _ H5 (fun _ _ => False) I5 (stat I5 n5) st5 stop
      refine thnF td fun r s6 ⟨hr, I6⟩ => ?_
      subst hr
      -- back in the def's context
      have I7 : Inv X pins σ H5 s6 := I3.call' (ch := fp) I6.os I6.base I6.hok I6.bare fun b hb => ⟨(f3 b hb).1.2.2.2.1, (f3 b hb).1.2.1, (f3 b hb).1.2.2.2.2.1, (f3 b hb).1.2.2.2.2.2⟩
      have nC : H5 s3.heap.objs.size = none := by
        have z : H5 ce.locals = none := I6.free
        rw [cL] at z
        exact z
      obtain ⟨m, hn, _⟩ := I6.loc
      have hn : s6.heap.Ns ce.locals m := hn
      rw [cL] at hn
      exact hRR D s3.heap.objs.size s6 m H5 I7 qq hn (I3.fpOk (Nat.le_refl _) nC)
    · have ti := T.item (X.blk s3 H3 scope ce fp) rfl rfl rfl hc i [] s5 _ H5 (fun _ _ => False) I5 (stat I5 n5) st5 go
      refine thnF ti fun r s6 ⟨u, hr, h6⟩ => ?_
      subst hr
      refine thnF h6 fun _ s7 ⟨x, H7, I7, r7, y7, st7, n7⟩ => ?_
      have I7' := I7.pinned (stat I7 n7) (T.obj _ _ st7)
      refine thnF (pg _ s7 _ H7 x u _ I7' r7 (step x H7 y7)) fun _ s8 ⟨σ8, H8, I8, hw8, q8⟩ => ?_
      refine thnF (pt _ s8 σ8 H8 _ I8 q8) fun b s9 ⟨H9, I9, q9⟩ => ?_
      -- the turn's end
      have fin : ∀ {s' : Shared} {H' : Hp}, Inv (X.blk s3 H3 scope ce fp) ([] ++ pinsAt fp s7.heap) σ8 H' s' → Nx H' → ∃ m, m < n ∧ ∃ i H', Inv (X.blk s3 H3 scope ce fp) [] (wipe σ (own.map (·.2))) H' s' ∧ tn i s'.heap ∧ (∀ b ∈ fp, H' b = none) ∧ W i m H' := fun {s' H'} I' nx => by
        obtain ⟨m', hm, w'⟩ := hNx H' nx
        have pin' : ∀ b ∈ fp, ∀ o, s7.heap.get? b = some o → s'.heap.get? b = some o ∧ H' b = none := fun b hb o e =>
          let z := I'.pin (b, o) (List.mem_append_right _ (List.mem_append_right _ (mem_pinsAt hb e)))
          ⟨z.1, z.2.1⟩
        have hl : (wipe σ (own.map (·.2))).length = σ8.length := by rw [← hw8, wipe_length]
        refine ⟨m', hm, i + 1, H', (I'.unpinned (pins := [])).weak hl (fun j v e => ?_), T.keep _ _ _ st7 fun b hb o e => (pin' b hb o e).1, fun b hb => ?_, w'⟩
        · rw [← hw8] at e
          exact (wipe_some e).1
        · obtain ⟨o, e, _⟩ := T.obj _ _ st7 b hb
          exact (pin' b hb o e).2
      cases b with
      | false =>
        simp only [Bool.false_eq_true, if_false] at q9 ⊢
        exact fin I9 q9
      | true =>
        simp only [if_true] at q9 ⊢
        refine thnF (pe _ s9 σ8 H9 _ I9 q9) fun z s10 ⟨yv, H10, I10, r10, acc, hD10, hz10, nx⟩ => ?_
        exact app_ok (X := X.blk s3 H3 scope ce fp) I10 hD10 hz10 r10 fun s11 I11 => fin I11 nx
  exact codeAny_compStart_list loop (T.self X.A 0 _ _ _ st4 loop)
/-- as a value -/
theorem pe_lc {elt tg iter : Expr} {ifs : List Expr} {scope : Scope} {own : List (Str × Nat)} {pos : Pos} {wi : TI} {g : TG} {tt : TT} {te : TE} (hc : X.calm = true) (hN : X.N.Nodup) (hi : PI X tg iter wi) (ok : BlkOk X.N X.env.scope scope own)
    (hg : ∀ (s : Shared) (H : Hp) (C : Addr) (cl : List (Str × Addr)) (fp : List Addr), PG (X.blk s H scope (compEnvC scope cl C X.env) fp) tg g) (ht : ∀ (s : Shared) (H : Hp) (C : Addr) (cl : List (Str × Addr)) (fp : List Addr), PTs (X.blk s H scope (compEnvC scope cl C X.env) fp) ifs tt)
    (he : ∀ (s : Shared) (H : Hp) (C : Addr) (cl : List (Str × Addr)) (fp : List Addr), PE (X.blk s H scope (compEnvC scope cl C X.env) fp) elt te) (hs : ∀ x, foldedSetIterable iter X.env x = pure x := by intro _; rfl) :
    PE X (.ListComp elt [⟨tg, iter, ifs, 0⟩] scope pos) (tLc wi g tt te (own.map (·.2))) := by
  intro pins s σ H Q I h
  rw [eval_ListComp]
  refine lc_core hc hN I hi ok hg ht he hs h fun D C s' m H' I' q hn f => ⟨m, hn, fun h'' sb => ?_⟩
  obtain ⟨f0, f1, f2, f3, f4, f5⟩ := f
  exact ⟨.ref D, H', I'.turned (t' := s'.toks) (fun b o hb e => (sb.2 b hb).trans e) f0 f1 f3 f4 f5, rfl, q⟩
end
/-- over a list that the block leaves as it is -/
theorem lc_list {K : PySem.W.Frag} {a : Addr} {xs : List V} {g : TG} {tt : TT} {te : TE} {vs : List Nat} {σ : St} {H1 : Hp} {D : Addr} {Qd : Hp → Prop} (Pv : Nat → Hp → Prop) (h0 : Pv 0 (upd H1 D (.lst []))) (hl : ∀ i H, i ≤ xs.length → Pv i H → SqL K H a xs)
    (hs : ∀ i x H, xs[i]? = some x → Pv i H → g x (wipe σ vs) H fun σ2 H2 => wipe σ2 vs = wipe σ vs ∧ tt σ2 H2 fun b H3 =>
      if b = true then te σ2 H3 fun y H4 => ∃ acc, H4 D = some (.lst acc) ∧ acc.length < sizeLine ∧ Pv (i + 1) (upd H4 D (.lst (acc ++ [y]))) else Pv (i + 1) H3) (hd : ∀ H, Pv xs.length H → Qd H) :
    ∃ W : Nat → Nat → Hp → Prop, (∃ m, W 0 m (upd H1 D (.lst []))) ∧ ∀ i m H, W i m H →
      ((Itl K a).stop i H ∧ Qd H) ∨ ((Itl K a).go i H ∧ ∃ Nx : Hp → Prop, (∀ H', Nx H' → ∃ m', m' < m ∧ W (i + 1) m' H') ∧ ∀ x H', (Itl K a).yld i H x H' → g x (wipe σ vs) H' fun σ2 H2 => wipe σ2 vs = wipe σ vs ∧ tt σ2 H2 fun b H3 =>
        if b = true then te σ2 H3 fun y H4 => ∃ acc, H4 D = some (.lst acc) ∧ acc.length < sizeLine ∧ Nx (upd H4 D (.lst (acc ++ [y]))) else Nx H3) := by
  refine ⟨fun i m H => m = xs.length - i ∧ i ≤ xs.length ∧ Pv i H, ⟨xs.length, by simp, Nat.zero_le _, h0⟩, ?_⟩
  rintro i m H ⟨rfl, hi, p⟩
  have q := hl i H hi p
  by_cases hlt : i < xs.length
  · refine .inr ⟨⟨xs, xs[i], q, by simp [hlt]⟩, Pv (i + 1), fun H' p' => ⟨xs.length - (i + 1), by omega, rfl, hlt, p'⟩, fun x H' y => ?_⟩
    obtain ⟨e, y⟩ := y
    subst e
    exact hs i x _ (y xs q) p
  · have e : i = xs.length := by omega
    subst e
    exact .inl ⟨⟨xs, q, Nat.le_refl _⟩, hd H p⟩
def blkC (N : List Str) (sc scope : Scope) (own : List (Str × Nat)) : Bool :=
  (match scope.kind with | .function => true | _ => false) && (scope.names.all fun y => decide (scope.names.lookup y.1 = some y.2)) && (own.all fun p => decide (N[p.2]? = some p.1)) &&
    (scope.names.all fun y => match y.2 with
      | .free => (match sc.names.lookup y.1 with | some .cell => true | some .free => true | _ => false)
      | .local => decide (y.1 ∈ own.map (·.1)) || decide (y.1 ∉ N)
      | .cell => decide (y.1 ∈ own.map (·.1)) || decide (y.1 ∉ N)
      | _ => true)
theorem blkOk_by {N : List Str} {sc scope : Scope} {own : List (Str × Nat)} (h : blkC N sc scope own = true) : BlkOk N sc scope own := by
  unfold blkC at h
  simp only [Bool.and_eq_true, List.all_eq_true, decide_eq_true_eq] at h
  obtain ⟨⟨⟨h1, h2⟩, h3⟩, h4⟩ := h
  refine ⟨?_, h2, h3, fun y hy e => ?_, fun y hy e => ?_⟩
  · split at h1
    · assumption
    · cases h1
  · have q := h4 y hy
    simp only [e] at q
    split at q <;> first | exact .inl (by assumption) | exact .inr (by assumption) | cases q
  · have q := h4 y hy
    rcases e with e | e <;> (simp only [e, Bool.or_eq_true, decide_eq_true_eq] at q; exact q)
end L2
namespace L2
open PySem PySem.Spec PyProof.Rows
section
variable {κ : Type} [DecidableEq κ]
def valV (kvs : List (κ × V)) (k : κ) : Option V := (kvs.find? fun kv => decide (kv.1 = k)).map (·.2)
theorem valV_pos {p : κ × V} {r : List (κ × V)} {k : κ} (e : p.1 = k) : valV (p :: r) k = some p.2 := by simp [valV, List.find?_cons, e]
theorem valV_neg {p : κ × V} {r : List (κ × V)} {k : κ} (e : ¬ p.1 = k) : valV (p :: r) k = valV r k := by simp [valV, List.find?_cons, e]
theorem RelO.isSome_eq {o : Option V} {u : Option Value} (r : RelO o u) : o.isSome = u.isSome := by
  cases o with
  | none => cases u with
    | none => rfl
    | some _ => exact (show False from r).elim
  | some _ => cases u with
    | none => exact (show False from r).elim
    | some _ => rfl
/-- raw tables of the same keys -/
theorem KV.val {kvs : List (κ × V)} {vs : List (κ × Value)} (r : KV kvs vs) (k : κ) : RelO (valV kvs k) (valueAt vs k) := by
  unfold KV at r
  induction r with
  | nil => exact True.intro
  | @cons p q ps qs h t ih =>
    obtain ⟨h1, h2⟩ := h
    by_cases e : p.1 = k
    · have e' : q.1 = k := h1.symm.trans e
      have b : valueAt (q :: qs) k = some q.2 := by simp [valueAt, List.find?_cons, e']
      rw [valV_pos e, b]; exact h2
    · have e' : ¬ q.1 = k := fun z => e (h1.trans z)
      have b : valueAt (q :: qs) k = valueAt qs k := by simp [valueAt, List.find?_cons, e']
      rw [valV_neg e, b]; exact ih
end
theorem kV_is {P : Program} {w : World} {k : Key} {u : Value} (r : RelV (kV k) u) : (mixKind P w).is k u = true := by
  cases k with
  | inl i => obtain ⟨t, e⟩ := (show ∃ t, u = Value.int i t from r); subst e; exact mixKind_int P w i t
  | inr x => obtain ⟨t, e⟩ := (show ∃ t, u = Value.str x t from r); subst e; exact mixKind_str P w x t
/-- the element of a subscription, not a slice -/
def NoSl (i : Expr) : Prop := ∀ ov iv, subscripted i false ov iv = operate [ov, iv] (getItem ov iv)
theorem subD_of {prog : Program} {w : World} {A : Around} {E : Value → Shared → Prop} {s : Shared} {env : Env} {value slice : Expr} {pos : Pos} {T id : String} {Q : Value → Shared → Prop}
    (hl : typeLookup (.type T) "__getitem__" = pure (some (.builtin id))) (hs : NoSl slice)
    (h : wpAny (model prog w) A (eval value env) (fun o s₁ => wpAny (model prog w) A (eval slice env) (fun i s₂ => s₂.TypeIs o T ∧ wpAny (model prog w) A (getItem o i) Q E s₂) E s₁) E s) :
    wpAny (model prog w) A (eval (.Subscript value slice pos) env) Q E s := by
  refine Subscript_ (wpAny_mono h (fun o s₁ h₁ => wpAny_mono h₁ (fun i s₂ h₂ => ?_) fun _ _ x => x) fun _ _ x => x)
  obtain ⟨hT, h₂⟩ := h₂
  unfold subscriptTail
  refine wpAny_bind ?_
  rw [getitemInPython_of_ne hT.not_modules]
  refine wpAny_bind (wpAny_specialOf hT hl ?_)
  have fin : wpAny (model prog w) A (subscripted slice false o i) (fun r s₃ => wpAny (model prog w) A (letTemporaryGo value o r >>= fun _ => pure r) Q E s₃) E s₂ := by
    rw [hs o i]
    exact wpAny_operating (wpAny_mono h₂ (fun r s₃ h₃ => wpAny_bind (wpAny_letTemporaryGo (wpAny_pure h₃))) fun _ _ x => x)
  first
    | exact wpAny_pure (wpAny_bind fin)
    | exact wpAny_bind (wpAny_pure (wpAny_bind fin))
    | exact wpAny_bind fin
end L2
namespace L2
open PySem PySem.Spec PyProof.Rows
section
variable {X : Cx} {pins : List (Addr × Obj)} {σ : St} {H : Hp} {s : Shared} {h' : Heap}
/-- .. and one new object is laid -/
theorem Inv.turnedNew {t' : Nat} {ch : List Addr} {T : Addr} {ob : HO} (I : Inv X pins σ H s) (k : ∀ b o, b ∉ ch → s.heap.get? b = some o → h'.get? b = some o) (hf : ∀ b ∈ ch, FpOk X pins H b) (hT : s.heap.objs.size ≤ T)
    (new : ObjOk X.prog X.w (upd H T ob) h' T ob) : Inv X pins σ (upd H T ob) { s with heap := h', toks := t' } := by
  have hn : H T = none := I.hok.fresh hT
  have nit : ∀ b u, H b = some u → b ∉ ch := fun b u e z => by
    have q := (hf b z).1
    rw [q] at e; cases e
  refine I.step (g' := s.gens) (d' := s.drawn) (ch := ch) (fun b hb => ⟨(hf b hb).2.2.2.1, (hf b hb).2.1, (hf b hb).2.2.2.2.1, (hf b hb).2.2.2.2.2⟩) (fun b o _ _ hc e _ => k b o hc e) (fun b o _ _ hc e _ => ⟨o.slots, k b o hc e⟩)
    (fun b o _ e n => ?_) (fun b o hc e => ⟨o, k b o hc e⟩) (fun b xs e => ?_) (fun b o u e => ?_) (fun b ps e => ⟨#[], ?_⟩) (fun m hm => ?_) (fun b u e => ?_) I.bare
  · rw [upd_ne (Nat.ne_of_lt (Nat.lt_of_lt_of_le (Heap.lt_size e) hT))]; exact n
  · rw [upd_ne (ne_of_none e hn)]; exact e
  · rw [upd_ne (ne_of_none e hn)]; exact e
  · rw [upd_ne (ne_of_none e hn), e]; simp
  · obtain ⟨o, es, ep, ho, r⟩ := hm
    exact ⟨o, es, ep, k _ o (fun z => (hf _ z).2.1 rfl) ho, r⟩
  · by_cases hb : b = T
    · subst hb
      rw [upd_same] at e
      cases e
      exact new
    · rw [upd_ne hb] at e
      refine (I.hok b u e).stay (fun c v hc q => k c v ?_ q) (fun c q => by rw [upd_ne (ne_of_none q hn)]; exact q) fun c xs q => by rw [upd_ne (ne_of_none q hn)]; exact q
      rcases hc with z | z
      · rw [z]; exact nit b u e
      · exact nit c _ z
end
section
variable {X : Cx}
theorem pi_one {tg : Expr} {pins : List (Addr × Obj)} {σ : St} {H : Hp} {s : Shared} {R : It → Hp → Prop} {J : It} {tn : Nat → Heap → Prop} {tk : Nat} (I : Inv X pins σ H s) (o : Obj)
    (T : Turn X.prog X.w X.K tg J [s.heap.objs.size] s.heap.objs.size tn) (st : tn 0 (s.heap.push o)) (q : R J H) : PIE X pins σ tg R (.ref s.heap.objs.size) { s with heap := s.heap.push o, toks := tk } := by
  refine ⟨s.heap.objs.size, [s.heap.objs.size], tn, J, H, rfl, I.kept fun b ob e => Heap.get?_push_of_some _ e, T, st, fun b hb => ?_, q⟩
  have e : b = s.heap.objs.size := by simpa using hb
  subst e
  exact I.fpOk (Nat.le_refl _) (I.hok.fresh (Nat.le_refl _))
end
/-- lo, lo + c, .. (n of them) -/
def Itc (lo c : Int) (n : Nat) : It := ⟨fun i _ => i < n, fun i H x H' => H' = H ∧ x = .int (lo + (i : Nat) * c), fun i _ => n ≤ i⟩
theorem turn_rangeC {P : Program} {w : World} {K : PySem.W.Frag} {tg : Expr} (it : Addr) (lo c : Int) (n : Nat) : Turn P w K tg (Itc lo c n) [it] it (fun i h => IsRangeIter h it (lo + (i : Nat) * c) ((n : Int) - (i : Nat)) c) where
  mem := by simp
  obj := fun i h st b hb => by
    have e : b = it := by simpa using hb
    subst e
    exact ⟨_, st, fun v z => nomatch z⟩
  keep := fun i h h' st k => k it (by simp) _ st
  item := by
    intro X hP hw hK hc i pins s σ H E I hf st hg
    subst hP hw hK
    obtain ⟨f0, f1, f2, f3, f4, f5⟩ := hf it (by simp)
    have W := Walks.range (prog := X.prog) (w := X.w) (I.ok.hd hc) it lo c n
    refine W.item i s _ _ hg st fun v h' tk hv st' kk => ?_
    obtain ⟨t, rfl⟩ := hv
    have I1 : Inv X pins σ H { s with heap := h', toks := tk } := I.turned (fun b o hb e => kk b o (by simpa using hb) e) f0 f1 f3 f4 f5
    exact ⟨_, rfl, go_of (s := { s with heap := h', toks := tk }) (n := "range_iterator") st' rfl rfl (by decide) ⟨.int (lo + (i : Nat) * c), H, I1, ⟨t, rfl⟩, ⟨rfl, rfl⟩, st', fun b hb => (hf b hb).1⟩⟩
  done := by
    intro X hP hw hK hc i pins s σ H E I hf st hg
    subst hP hw hK
    obtain ⟨f0, f1, f2, f3, f4, f5⟩ := hf it (by simp)
    exact wpAny_pyNext_range_end (I.ok.hd hc) st (by have : n ≤ i := hg; omega) fun h' eb => ⟨rfl, I.turned (t' := s.toks) (fun b o hb e => eb b o hb e) f0 f1 f3 f4 f5⟩
  self := fun A i s Q E st h => wpAny_pyIter_rangeiter st h
/-- range(i, j, c): small bounds, n items -/
def RgC (i j c : Int) (n : Nat) : Prop := c ≠ 0 ∧ c.natAbs < 1073741824 ∧ Builtin.Range.small i j c = true ∧ Builtin.Range.rangeSize i j c = n
def iRng3 (ta : TA) : TI := fun σ H R => ta σ H fun vs H1 => ∃ (i j c : Int) (n : Nat), vs = [.int i, .int j, .int c] ∧ RgC i j c n ∧ R (Itc i c n) H1
section
variable {X : Cx} {tg : Expr}
theorem pi_range3 {a b c : Expr} {ta : TA} {p pos : Pos} (hg : Gl X "range") (hm : X.mg "range" = none) (ha : PA X [a, b, c] ta)
    (hs : starEach [a, b, c] X.env = (false, eval a X.env) :: starEach [b, c] X.env := by rfl) (hpl : (backTo pos (starEach [b, c] X.env)).any (·.1) = false := by rfl) :
    PI X tg (.Call (.Name "range" p) [a, b, c] [] pos) (iRng3 ta) := by
  intro pins s σ H R I h
  refine Call_ (ld_blt I hg hm boot_range (PyProof.Rows.callWith_type1 (thn (ha pos pins s σ H _ I h) fun us s1 ⟨vs, H1, I1, r1, q1⟩ => ?_) hs hpl))
  obtain ⟨i, j, k, n, e, ⟨c0, c1, c2, c3⟩, q⟩ := q1
  subst e
  cases r1 with
  | cons r rr =>
    cases rr with
    | cons r' rr =>
      cases rr with
      | cons r'' rr =>
        cases rr
        obtain ⟨t, rfl⟩ := r
        obtain ⟨t', rfl⟩ := r'
        obtain ⟨t'', rfl⟩ := r''
        refine call_range_3 c0 ?_ (.inl (PyProof.noPylong_small c1))
        refine wpAny_pyIter_range (IsRange.new ..) c2 ?_
        have I2 : Inv X pins σ H1 { s1 with heap := s1.heap.push { cls := .type "range", data := .fields #[.int i t, .int j t', .int k t''] } } := I1.kept (t' := s1.toks) fun b o e => Heap.get?_push_of_some _ e
        refine pi_one (tk := s1.toks) I2 _ (turn_rangeC _ i k n) ?_ q
        have e1 : i + ((0 : Nat) : Int) * k = i := by simp
        have e2 : (n : Int) - ((0 : Nat) : Int) = Builtin.Range.rangeSize i j k := by rw [c3]; simp
        show IsRangeIter _ _ (i + ((0 : Nat) : Int) * k) ((n : Int) - ((0 : Nat) : Int)) k
        rw [e1, e2]
        exact Heap.get?_push_size _ rfl
end
/-- the turns of a step range, for the for loop -/
theorem for_rangeC {lo c : Int} {n : Nat} {g : TG} {tb : TS} {D : Ends} {σ : St} {H : Hp} (Pv : Nat → St → Hp → Prop) (h0 : Pv 0 σ H)
    (hs : ∀ i σ H, i < n → Pv i σ H → g (.int (lo + (i : Nat) * c)) σ H fun σ2 H2 => tb { D with nx := Pv (i + 1), ct := Pv (i + 1), bk := D.nx } σ2 H2) (hd : ∀ σ H, Pv n σ H → D.nx σ H) :
    ∃ W : Nat → Nat → St → Hp → Prop, (∃ m, W 0 m σ H) ∧ ∀ i m σ H, W i m σ H →
      ((Itc lo c n).stop i H ∧ D.nx σ H) ∨ ((Itc lo c n).go i H ∧ ∃ N : St → Hp → Prop, (∀ σ' H', N σ' H' → ∃ m', m' < m ∧ W (i + 1) m' σ' H') ∧ ∀ x H', (Itc lo c n).yld i H x H' → g x σ H' fun σ2 H2 => tb { D with nx := N, ct := N, bk := D.nx } σ2 H2) := by
  refine ⟨fun i m σ H => m = n - i ∧ i ≤ n ∧ Pv i σ H, ⟨n, by simp, Nat.zero_le _, h0⟩, ?_⟩
  rintro i m σ H ⟨rfl, hi, p⟩
  by_cases hlt : i < n
  · refine .inr ⟨hlt, Pv (i + 1), fun σ' H' p' => ⟨n - (i + 1), by omega, rfl, hlt, p'⟩, fun x H' y => ?_⟩
    obtain ⟨e, y⟩ := y
    subst e y
    exact hs i σ _ hlt p
  · have e : i = n := by omega
    subst e
    exact .inl ⟨Nat.le_refl _, hd σ H p⟩
def Its (x : Str) : It := ⟨fun i _ => i < x.cps.size, fun i H v H' => H' = H ∧ ∃ c, x.cps[i]? = some c ∧ v = .str ⟨#[c]⟩, fun i _ => x.cps.size ≤ i⟩
theorem turn_str {P : Program} {w : World} {K : PySem.W.Frag} {tg : Expr} (it : Addr) (x : Str) (t : Tok) (ty : String) (hty : ty = "str_ascii_iterator" ∨ ty = "str_iterator") :
    Turn P w K tg (Its x) [it] it (fun i h => h.IsStrIter it ty x t i) where
  mem := by simp
  obj := fun i h st b hb => by
    have e : b = it := by simpa using hb
    subst e
    obtain ⟨o, e, c, d⟩ := st
    exact ⟨o, e, fun v z => by rw [d] at z; cases z⟩
  keep := fun i h h' st k => let ⟨o, ho, r⟩ := st; ⟨o, k it (by simp) o ho, r⟩
  item := by
    intro X hP hw hK hc i pins s σ H E I hf st hg
    subst hP hw hK
    obtain ⟨f0, f1, f2, f3, f4, f5⟩ := hf it (by simp)
    have W : Walks X.prog X.w X.A it [it] [it] x.cps.size (SignAt x) (fun i h => h.IsStrIter it ty x t i) := by
      rcases hty with e | e
      · rw [e]; exact Walks.strAscii (I.ok.hd hc) it x t
      · rw [e]; exact Walks.strWide (I.ok.hd hc) it x t
    have hno : ["enumerate", "zip", "dict_itemiterator", "dict_reverseitemiterator", "odict_iterator", "itertools.zip_longest", "itertools.pairwise"].contains ty = false := by
      rcases hty with e | e
      · rw [e]; decide
      · rw [e]; decide
    refine W.item i s _ _ hg st fun v h' tk hv st' kk => ?_
    obtain ⟨c, u, hcx, rfl⟩ := hv
    have I1 : Inv X pins σ H { s with heap := h', toks := tk } := I.turned (fun b o hb e => kk b o (by simpa using hb) e) f0 f1 f3 f4 f5
    obtain ⟨oi, e, cc, dd⟩ := id st'
    exact ⟨_, rfl, go_of (s := { s with heap := h', toks := tk }) e cc dd hno ⟨.str ⟨#[c]⟩, H, I1, ⟨u, rfl⟩, ⟨rfl, c, hcx, rfl⟩, st', fun b hb => (hf b hb).1⟩⟩
  done := by
    intro X hP hw hK hc i pins s σ H E I hf st hg
    subst hP hw hK
    obtain ⟨f0, f1, f2, f3, f4, f5⟩ := hf it (by simp)
    have hx : x.cps[i]? = none := Array.getElem?_eq_none hg
    rcases hty with e | e
    · rw [e] at st
      exact wpAny_pyNext_ascii_end (I.ok.hd hc) st hx fun h' eb => ⟨rfl, I.turned (t' := s.toks) (fun b o hb e => eb b o hb e) f0 f1 f3 f4 f5⟩
    · rw [e] at st
      exact wpAny_pyNext_wide_end (I.ok.hd hc) st hx fun h' eb => ⟨rfl, I.turned (t' := s.toks) (fun b o hb e => eb b o hb e) f0 f1 f3 f4 f5⟩
  self := fun A i s Q E st h => by
    rcases hty with e | e
    · rw [e] at st; exact wpAny_pyIter_striter_ascii st h
    · rw [e] at st; exact wpAny_pyIter_striter_wide st h
def iStr (te : TE) : TI := fun σ H R => te σ H fun v H1 => ∃ x, v = .str x ∧ R (Its x) H1
theorem pi_str {X : Cx} {tg e : Expr} {te : TE} (he : PE X e te) : PI X tg e (iStr te) := by
  intro pins s σ H R I h
  refine thn (he pins s σ H _ I h) fun v s1 ⟨y, H1, I1, r1, x, ex, q⟩ => ?_
  subst ex
  obtain ⟨t, rfl⟩ := r1
  cases ha : x.cps.all (· < 128)
  · exact wpAny_pyIter_wide ha (pi_one (tk := s1.toks) I1 _ (turn_str _ x t "str_iterator" (.inr rfl)) ⟨_, Heap.get?_push_size _ rfl, rfl, rfl⟩ q)
  · exact wpAny_pyIter_ascii ha (pi_one (tk := s1.toks) I1 _ (turn_str _ x t "str_ascii_iterator" (.inl rfl)) ⟨_, Heap.get?_push_size _ rfl, rfl, rfl⟩ q)
/-- the list at a as it stands at each turn, each item in a new pair -/
def Ite (K : PySem.W.Frag) (a : Addr) : It :=
  ⟨fun i H => ∃ (xs : List V) (x : V), SqL K H a xs ∧ xs[i]? = some x, fun i H v H' => ∃ T x, v = .ref T ∧ H T = none ∧ H' = upd H T (.tup [.int (i : Nat), x]) ∧ ∀ xs, SqL K H a xs → xs[i]? = some x, fun i H => ∃ xs : List V, SqL K H a xs ∧ xs.length ≤ i⟩
theorem turn_enum {P : Program} {w : World} {K : PySem.W.Frag} {elts : List Expr} {kk : Nat} {tpos : Pos} (a e it : Addr) :
    Turn P w K (.Tuple elts kk tpos) (Ite K a) [e, it] e (fun i h => (∃ old, IsEnum h e it ((i : Nat) : Int) old) ∧ h.IsListIter it a i ∧ e ≠ it) where
  mem := by simp
  obj := fun i h st b hb => by
    obtain ⟨⟨old, he⟩, ⟨o, ho, hc, hd⟩, _⟩ := st
    have e' : b = e ∨ b = it := by simpa using hb
    rcases e' with z | z
    · rw [z]; exact ⟨_, he, fun v q => nomatch q⟩
    · rw [z]; exact ⟨o, ho, fun v q => by rw [hd] at q; cases q⟩
  keep := fun i h h' st k => let ⟨⟨old, he⟩, hi, hne⟩ := st; ⟨⟨old, k e (by simp) _ he⟩, hi.at fun o q => k it (by simp) o q, hne⟩
  item := by
    intro X hP hw hK hc i pins s σ H E I hf st hg
    subst hP hw hK
    obtain ⟨⟨old, he⟩, hit, hne⟩ := st
    obtain ⟨xs, x, hq, hx⟩ := hg
    obtain ⟨its, rv, p, hz⟩ := I.list hq
    obtain ⟨u, hu, ru⟩ := rv.get hx
    have hel : e < s.heap.objs.size := Heap.lt_size he
    have hil : it < s.heap.objs.size := by obtain ⟨_, q, _⟩ := hit; exact Heap.lt_size q
    refine wpAny_pyNext_enum_item he hit p.isList (x := u) (by simpa using hu) hne fun h' ho hit' hT hsz hk => ?_
    refine ⟨_, rfl, wpAny_letOwnedTupleGo_enum (s := { s with heap := h', toks := s.toks + 1 }) ho fun h'' he' sb => ?_⟩
    have hT2 : h''.get? s.heap.objs.size = some { cls := .type "tuple", data := .seq #[.int i s.toks, u] } := (sb.2 _ (Nat.ne_of_gt hel)).trans hT
    have new : ObjOk X.prog X.w (upd H s.heap.objs.size (.tup [.int (i : Nat), x])) h'' s.heap.objs.size (.tup [.int (i : Nat), x]) :=
      ⟨by show 2 ≤ sizeLine; decide, [.int i s.toks, u], .cons ⟨_, rfl⟩ (.cons ru .nil), ⟨_, hT2, rfl, _, rfl⟩⟩
    have I1 : Inv X pins σ (upd H s.heap.objs.size (.tup [.int (i : Nat), x])) { s with heap := h'', toks := s.toks + 1 } :=
      I.turnedNew (ch := [e, it]) (fun b ob hb q => (sb.2 b (fun z => hb (by simp [z]))).trans (hk b ob (fun z => hb (by simp [z])) (fun z => hb (by simp [z])) q)) hf (Nat.le_refl _) new
    refine ⟨.ref s.heap.objs.size, _, I1, rfl, ⟨_, x, rfl, I.hok.fresh (Nat.le_refl _), rfl, fun ys hy => by rw [I.list_inj hy hq]; exact hx⟩, ⟨⟨u, ?_⟩, hit'.at fun o q => (sb.2 it (Ne.symm hne)).trans q, hne⟩, fun b hb => ?_⟩
    · have e1 : ((i + 1 : Nat) : Int) = (i : Int) + 1 := by omega
      rw [e1]; exact he'
    · have hb' : b < s.heap.objs.size := by
        have e' : b = e ∨ b = it := by simpa using hb
        rcases e' with z | z
        · rw [z]; exact hel
        · rw [z]; exact hil
      rw [upd_ne (Nat.ne_of_lt hb')]
      exact (hf b hb).1
  done := by
    intro X hP hw hK hc i pins s σ H E I hf st hg
    subst hP hw hK
    obtain ⟨⟨old, he⟩, hit, hne⟩ := st
    obtain ⟨xs, hq, hx⟩ := hg
    obtain ⟨its, rv, p, hz⟩ := I.list hq
    obtain ⟨f0, f1, f2, f3, f4, f5⟩ := hf it (by simp)
    have hl := rv.length
    exact wpAny_pyNext_enum_end (I.ok.hd hc) he hit p.isList (by simp; omega) fun h' eb => ⟨rfl, I.turned (t' := s.toks) (fun b o hb q => eb b o hb q) f0 f1 f3 f4 f5⟩
  self := fun A i s Q E st h => let ⟨⟨_, he⟩, _⟩ := st; wpAny_pyIter_enum he h
def iEnum (K : PySem.W.Frag) (ta : TA) : TI := fun σ H R => ta σ H fun vs H1 => ∃ a xs, vs = [.ref a] ∧ SqL K H1 a xs ∧ R (Ite K a) H1
theorem pi_enum {X : Cx} {e : Expr} {ta : TA} {p pos tpos : Pos} {elts : List Expr} {kk : Nat} (hg : Gl X "enumerate") (hm : X.mg "enumerate" = none) (ha : PA X [e] ta) (hs : starEach [e] X.env = [(false, eval e X.env)] := by rfl) :
    PI X (.Tuple elts kk tpos) (.Call (.Name "enumerate" p) [e] [] pos) (iEnum X.K ta) := by
  intro pins s σ H R I h
  refine Call_ (ld_blt I hg hm boot_enumerate (PyProof.Rows.callWith_type1 (thn (ha pos pins s σ H _ I h) fun us s1 ⟨vs, H1, I1, r1, q1⟩ => ?_) hs rfl))
  obtain ⟨a, xs, ex, hq, q⟩ := q1
  subst ex
  cases r1 with
  | cons r rr =>
    cases rr
    cases r
    obtain ⟨its, rv, p', hz⟩ := I1.list hq
    refine call_enumerate_list p'.isList fun h' he hit hsz hk => wpAny_pyIter_enum he ?_
    have I2 : Inv X pins σ H1 { s1 with heap := h' } := I1.kept (t' := s1.toks) hk
    refine ⟨s1.heap.objs.size + 1, [s1.heap.objs.size + 1, s1.heap.objs.size], _, _, H1, rfl, I2, turn_enum a (s1.heap.objs.size + 1) s1.heap.objs.size, ⟨⟨.none, he⟩, hit, Nat.succ_ne_self _⟩, fun b hb => ?_, q⟩
    have e' : b = s1.heap.objs.size + 1 ∨ b = s1.heap.objs.size := by simpa using hb
    have hle : s1.heap.objs.size ≤ b := by
      rcases e' with z | z
      · rw [z]; exact Nat.le_add_right _ _
      · rw [z]; exact Nat.le_refl _
    exact I1.fpOk hle (I1.hok.fresh hle)
end L2
section 
namespace Bits
open PySem PyProof.Rows
end Bits
end 
section 
namespace TL
open PySem PySem.Builtin PySem.Builtin.Str PySem.StrLaws
end TL
end 
namespace L2
open PySem PySem.Spec PyProof.Rows
section
variable {X : Cx} {o e : Expr} {to te : TE}
def tM1 (r : V → List V → Hp → VK → Prop) (to te : TE) : TE := fun σ H Q => to σ H fun x H1 => (∃ a, x = .str a) ∧ te σ H1 fun y H2 => r x [y] H2 Q
theorem pe_m1 {id : String} {name : Str} {apos pos : Pos} {r : V → List V → Hp → VK → Prop} (slot : Slot "str" name id) (ty : typeOf (.builtin id) = pure (.type "method_descriptor")) (rule : MtR X id r) (ho : PE X o to) (he : PE X e te)
    (hs : starEach [e] X.env = [(false, eval e X.env)] := by rfl) (hbase : attributeBase o name X.env (eval o X.env) = eval o X.env := by rfl) (hline : (apos.endLine == pos.line) = true := by rfl) :
    PE X (.Call (.Attribute o name apos) [e] [] pos) (tM1 r to te) := by
  intro pins s σ H Q I h
  refine PySem.Call_method1 hbase hs hline (thn (ho pins s σ H _ I h) fun v s1 ⟨x, H1, I1, r1, q1⟩ => ?_)
  obtain ⟨⟨a, rfl⟩, q1⟩ := q1
  obtain ⟨t, rfl⟩ := _root_.id r1
  refine ⟨"str", _, F.plainAttrs_str, slot, ty, typeIs_str _ _ _, (fun _ e => nomatch e), Calls.callWith_builtin rfl (Calls.evalArgs_plain (Calls.spliced_cons ?_))⟩
  exact thn (he pins s1 σ H1 _ I1 q1) fun u s2 ⟨y, H2, I2, r2, q2⟩ => Calls.spliced_nil (rule pins s2 σ H2 _ [y] _ [u] Q I2 r1 (.cons r2 .nil) q2)
end
end L2
namespace Att
open PySem PySem.W PySem.Calls PyProof.Rows
end Att
/- THE LAST THEOREM (shape; LID, My.* are yours):
   My.Adr: a structure of the addresses that your layer names (classes, functions); My.Txt K t: a structure (Prop) of the equations over K;
   My.txt_mk : {K} {implicit addresses ..} (e1 : nsIn K mainGlobals "law" = some (some (.ref f))) (e2 : K.lookup f = some ⟨oc, od, .func (fnOf "law" "law" params body scope dV kV doc pm an cdv ct), sl⟩) (e3 : codeIn K cdv "law" = true) .. : ∃ t, My.Txt K t
set_option maxHeartbeats 0 in
theorem PySem.Challenge.cw_LID_holds : PySem.Challenge.rw_LID.Holds := by
  w_on; o_law; k_head; (case hw => w_witness2)
  k_fill
  refine L2.walk_of (l := PySem.Challenge.rw_LID) (n := 63) (k := 40) (x := "script") (CX := fun w => ..) (sp := fun _ => My.sp_law) rfl (by decide) rfl ⟨rfl, by decide, by decide⟩ (fun w h Y => PySem.W.kIn_of Y) ?F ?S ?C
  case F =>
    intro w mg fa h KX G hmg
    have T : ∃ t, My.Txt (L2.KOf KX) t := by
      dsimp only [L2.KOf]                          -- K must stand as «<heap const> w.params» for k_is
      refine' My.txt_mk ?e1 ?e2 ?e3 ..
      (case e1 => PySem.W.k_is)                    -- in the order: a name -> its address -> its object -> its parts
      (case e2 => PySem.W.k_is)
      ..
    obtain ⟨t, T⟩ := T
    have e0 := hmg.symm.trans (PySem.W.mg_of KX G T.law)
    cases e0                                       -- fa is the law's own address
    exact ⟨_, fun s u => .of_eq rfl, fun base kb nb => My.law_fn T kb nb⟩     -- if «.of_eq rfl» comes too early: refine' ⟨_, ?b, fun base kb nb => My.law_fn T kb nb⟩; exact fun s u => .of_eq rfl
  case S => exact fun w H a ns hl hO hS => ..
  case C => exact ..
(the tactic k_is has no namespace: write k_is) -/
namespace L2
open PySem PySem.Spec PyProof.Rows
/-- the j-th statement of a class's body -/
def inClass (s : Stmt) (j : Nat) : Stmt := match s with
  | .ClassDef _ _ _ body _ _ _ _ _ _ _ => body.getD j (.Pass ⟨0, 0, 0, 0⟩)
  | _ => .Pass ⟨0, 0, 0, 0⟩
def defArgs (s : Stmt) : Arguments := match s with
  | .FunctionDef _ a _ _ _ _ _ _ _ _ => a
  | _ => { posonlyargs := [], args := [], vararg := none, kwonlyargs := [], kw_defaults := [], kwarg := none, defaults := [] }
def defBody (s : Stmt) : List Stmt := match s with
  | .FunctionDef _ _ b _ _ _ _ _ _ _ => b
  | _ => []
def defScope (s : Stmt) : Scope := match s with
  | .FunctionDef _ _ _ _ _ _ sc _ _ _ => sc
  | _ => { kind := .function, names := [], isGenerator := false, isCoroutine := false }
abbrev CX0 : CXT := fun _ _ _ _ _ _ => False
abbrev E0 : XK := fun _ _ _ => False
theorem pass0 {X : Cx} : Passes CX0 X E0 := fun _ _ _ _ _ _ _ h => h.elim
structure Fun (K : PySem.W.Frag) (x qual : Str) (st : Stmt) (f : Addr) (fd : FuncData) : Prop where
  ex : ∃ (oc : Value) (od : Option Addr) (kV doc pm : Value) (an : Option Addr) (cdv ct : Value) (osl : Array (Option Value)),
    fd = PySem.W.fnOf x qual (defArgs st) (defBody st) (defScope st) .none kV doc pm an cdv ct ∧ K.lookup f = some ⟨oc, od, .func fd, osl⟩ ∧ PySem.W.codeIn K cdv qual = true
  kp : PySem.W.keepIn K (.ref f) = true
section
variable {P : Program} {w : World} {K : PySem.W.Frag} {mg : Str → Option Value} {base : Heap}
/-- THE RULE for a def: its body as a term of rules, and the reading of that term -/
theorem Fun.ok {x qual : Str} {st : Stmt} {f : Addr} {fd : FuncData} {N ps : List Str} {k : Nat} {sp : Sp} (F : Fun K x qual st f fd) (S : FnScope N ps (defScope st)) (len : ∀ vs H Q E, sp vs H Q E → vs.length = ps.length)
    (hbody : ∀ (cdv : Value) (A : Around) (outer : List Env) (s : Shared) (H : Hp) (vs : List V) (Q : VK) (E : XK), Room k (A.deeper (envOfC qual (defScope st) s.heap.objs.size f cdv)) → sp vs H Q E →
      ∃ t, PSs (cxOf CX0 P w K mg base N qual (defScope st) f cdv A outer s H E).nox (defBody st) t ∧ t { nx := fun _ H' => Q .non H', rt := Q } (start N vs) H) : FnOk P w K mg base CX0 (k + 1) f fd ps sp := by
  obtain ⟨oc, od, kV, doc, pm, an, cdv, ct, osl, rfl, lk, hcd⟩ := F.ex
  refine fn_of lk hcd S len fun A outer s H vs Q E hr hsp => ?_
  obtain ⟨t, h, q⟩ := hbody cdv A outer s H vs Q E hr hsp
  exact ⟨t, h.nox, q⟩
/-- how its arguments bind (no defaults): h is «fun _ _ _ _ _ _ us hl => match us, hl with | [_, _], _ => rfl», one _ a parameter -/
theorem Fun.binds {x qual : Str} {st : Stmt} {f : Addr} {fd : FuncData} {ps : List Str} (F : Fun K x qual st f fd)
    (h : ∀ (kV doc pm : Value) (an : Option Addr) (cdv ct : Value) (us : List Value), us.length = ps.length → bindArgs (PySem.W.fnOf x qual (defArgs st) (defBody st) (defScope st) .none kV doc pm an cdv ct) ⟨us, []⟩ = pure (ps.zip us)) : Binds K fd ps [] := by
  obtain ⟨oc, od, kV, doc, pm, an, cdv, ct, osl, rfl, lk, hcd⟩ := F.ex
  exact .all (h kV doc pm an cdv ct)
theorem fun_mk {x qual : Str} {st : Stmt} {f : Addr} {oc : Value} {od an : Option Addr} {osl : Array (Option Value)} {kV doc pm cdv ct : Value} (l : K.lookup f = some ⟨oc, od, .func (PySem.W.fnOf x qual (defArgs st) (defBody st) (defScope st) .none kV doc pm an cdv ct), osl⟩)
    (c : PySem.W.codeIn K cdv qual = true) (k : PySem.W.keepIn K (.ref f) = true) : Fun K x qual st f (PySem.W.fnOf x qual (defArgs st) (defBody st) (defScope st) .none kV doc pm an cdv ct) := ⟨⟨oc, od, kV, doc, pm, an, cdv, ct, osl, rfl, l, c⟩, k⟩
end
section
variable {X : Cx}
theorem pv (i : Nat) {x : Str} {pos : Pos} (hN : X.N[i]? = some x := by rfl) (hv : Vis X.env.scope x := by first | exact Or.inl rfl | exact Or.inr (Or.inl rfl) | exact Or.inr (Or.inr rfl)) (hd : (x == ("__debug__" : Str)) = false := by decide)
    (hcd : (x == ("__classdict__" : Str)) = false := by decide) : PE X (.Name x pos) (tVar i) := pe_var hN hv hd hcd
end
/-- all that was tracked is as it was -/
def Same (H H' : Hp) : Prop := ∀ b o, H b = some o → H' b = some o
theorem Same.refl (H : Hp) : Same H H := fun _ _ h => h
theorem Same.trans {H H1 H2 : Hp} (a : Same H H1) (b : Same H1 H2) : Same H H2 := fun c o h => b c o (a c o h)
theorem Same.free {H H' : Hp} (e : Same H H') {l : Addr} (h : H' l = Option.none) : H l = Option.none := by
  cases q : H l with
  | none => rfl
  | some o =>
    rw [e l o q] at h
    cases h
theorem Same.seq {K : PySem.W.Frag} {H H' : Hp} {a : Addr} {xs : List V} (e : Same H H') (h : SqL K H a xs) : SqL K H' a xs := by
  rcases h with (h | ⟨o, h⟩) | h
  · exact .inl (.inl (e _ _ h))
  · exact .inl (.inr ⟨o, e _ _ h⟩)
  · exact .inr h
/-- a new instance and its __init__ leave all that was tracked as it was -/
theorem Same.made {H H1 : Hp} {x dx C : Addr} (nx : H x = Option.none) (nd : H dx = Option.none) (k : ∀ b o, (upd (upd H dx (.own x)) x (.ins C dx [])) b = some o → b ≠ x → H1 b = some o) : Same H H1 := fun b o e =>
  k b o (by rw [upd_ne (ne_of_none e nx), upd_ne (ne_of_none e nd)]; exact e) (ne_of_none e nx)
end L2
section
set_option Elab.async false
set_option linter.all false
set_option maxRecDepth 100000
set_option maxHeartbeats 2000000
namespace L2
open PySem PySem.Spec PyProof.Rows
open PySem.W (WData Codec OpenSpec Well WellAll ReadsW ReadsAllW)
mutual
/-- x stands for the datum d, lists and tuples all the way -/
inductive Dw (K : PySem.W.Frag) (H : Hp) : V → WData → Prop
  | non : Dw K H .non .none
  | bl (b : Bool) : Dw K H (.bl b) (.bool b)
  | int (i : Int) : Dw K H (.int i) (.int i)
  | str (x : Str) : Dw K H (.str x) (.str x)
  | byt (b : Array UInt8) : Dw K H (.byt b) (.bytes b.toList)
  | lst {a : Addr} {xs : List V} {ds : List WData} : SqL K H a xs → DwAll K H xs ds → Dw K H (.ref a) (.list ds)
  | tup {a : Addr} {xs : List V} {ds : List WData} : SqT K H a xs → DwAll K H xs ds → Dw K H (.ref a) (.tuple ds)
inductive DwAll (K : PySem.W.Frag) (H : Hp) : List V → List WData → Prop
  | nil : DwAll K H [] []
  | cons {v : V} {vs : List V} {d : WData} {ds : List WData} : Dw K H v d → DwAll K H vs ds → DwAll K H (v :: vs) (d :: ds)
end
theorem dw_ints {K : PySem.W.Frag} {H : Hp} : ∀ ns : List Int, DwAll K H (ns.map V.int) (ns.map WData.int)
  | [] => .nil
  | n :: r => .cons (.int n) (dw_ints r)
theorem ints_dw {K : PySem.W.Frag} {H : Hp} : ∀ (ns : List Int) (xs : List V), DwAll K H xs (ns.map WData.int) → xs = ns.map V.int
  | [], xs, h => by
    cases h
    rfl
  | n :: r, xs, h => by
    cases h with
    | cons h1 h2 =>
      cases h1
      rw [ints_dw r _ h2] <;> rfl
section
variable {P : Program} {w : World} {K : PySem.W.Frag} {H : Hp} {h : Heap} {R : PySem.W.WRecords} {cl : Str → Option Addr}
theorem sqL_at {a : Addr} {xs : List V} (hok : HOk P w H h) (KX : K.In h) (q : SqL K H a xs) : ∃ (its : List Value) (o : Obj) (n : Nat), Vals xs its ∧ h.get? a = some o ∧ o.cls = .type "list" ∧ o.data = .seq its.toArray n := by
  rcases q with q | ⟨o, its, n, e, hc, _, hd, _, hv⟩
  · obtain ⟨_, its, n, hv, e⟩ := (show ObjOk P w H h a (.lst xs) from q.ok hok)
    exact ⟨its, _, n, hv, e, rfl, rfl⟩
  · exact ⟨its.toList, o, n, hv, KX _ _ e, hc, by simp [hd]⟩
theorem sqT_at {a : Addr} {xs : List V} (hok : HOk P w H h) (KX : K.In h) (q : SqT K H a xs) : ∃ (its : List Value) (o : Obj) (n : Nat), Vals xs its ∧ h.get? a = some o ∧ o.cls = .type "tuple" ∧ o.data = .seq its.toArray n := by
  rcases q with q | ⟨o, its, n, e, hc, hd, _, hv⟩
  · obtain ⟨_, its, hv, o, e, hc, n, hd⟩ := (show ObjOk P w H h a (.tup xs) from q.ok hok)
    exact ⟨its, o, n, hv, e, hc, hd⟩
  · exact ⟨its.toList, o, n, hv, KX _ _ e, hc, by simp [hd]⟩
mutual
theorem Dw.reads (hok : HOk P w H h) (KX : K.In h) : ∀ (d : WData) (v : V) (u : Value), Dw K H v d → RelV v u → ∃ as, ReadsW R cl h u d as
  | .none, _, _, x, r => by
    cases x
    cases r
    exact ⟨_, ReadsW.none⟩
  | .bool b, _, _, x, r => by
    cases x
    cases r
    exact ⟨_, ReadsW.bool b⟩
  | .int i, _, _, x, r => by
    cases x
    obtain ⟨t, rfl⟩ := r
    exact ⟨_, ReadsW.int i t⟩
  | .str s, _, _, x, r => by
    cases x
    obtain ⟨t, rfl⟩ := r
    exact ⟨_, ReadsW.str s t⟩
  | .bytes b, _, _, x, r => by
    cases x
    obtain ⟨t, rfl⟩ := r
    exact ⟨_, ReadsW.bytes _ t⟩
  | .list ds, _, _, x, r => by
    cases x with
    | lst hs ha =>
      cases r
      obtain ⟨its, o, n, rv, ho, hc, hd⟩ := sqL_at hok KX hs
      obtain ⟨as, hr⟩ := Dw.readsAll hok KX ds _ its ha rv
      exact ⟨_, ReadsW.list ho hc hd hr⟩
  | .tuple ds, _, _, x, r => by
    cases x with
    | tup hs ha =>
      cases r
      obtain ⟨its, o, n, rv, ho, hc, hd⟩ := sqT_at hok KX hs
      obtain ⟨as, hr⟩ := Dw.readsAll hok KX ds _ its ha rv
      exact ⟨_, ReadsW.tuple ho hc hd hr⟩
  | .float _, _, _, x, _ => by cases x
  | .dict _, _, _, x, _ => by cases x
  | .bytearray _, _, _, x, _ => by cases x
  | .set _, _, _, x, _ => by cases x
  | .frozenset _, _, _, x, _ => by cases x
  | .obj _ _, _, _, x, _ => by cases x
theorem Dw.readsAll (hok : HOk P w H h) (KX : K.In h) : ∀ (ds : List WData) (vs : List V) (us : List Value), DwAll K H vs ds → Vals vs us → ∃ as, ReadsAllW R cl h us ds as
  | [], _, _, x, r => by
    cases x
    cases r
    exact ⟨_, ReadsAllW.nil⟩
  | d :: ds, _, _, x, r => by
    cases x with
    | cons h1 h2 =>
      cases r with
      | cons r1 r2 =>
        obtain ⟨as, q1⟩ := Dw.reads hok KX d _ _ h1 r1
        obtain ⟨bs, q2⟩ := Dw.readsAll hok KX ds _ _ h2 r2
        exact ⟨_, ReadsAllW.cons q1 q2⟩
end
end
mutual
/-- data that a codec tells -/
def plW : WData → Bool
  | .none => true
  | .bool _ => true
  | .int _ => true
  | .str _ => true
  | .bytes _ => true
  | .list xs => plWs xs
  | .tuple xs => plWs xs
  | _ => false
def plWs : List WData → Bool
  | [] => true
  | x :: r => plW x && plWs r
end
theorem plWs_map {α : Type} {f : α → WData} (h : ∀ a, plW (f a) = true) : ∀ l : List α, plWs (l.map f) = true
  | [] => rfl
  | x :: r => by
    show (plW (f x) && plWs (r.map f)) = true
    rw [h x, plWs_map h r] <;> rfl
theorem pl_enc : ∀ (c : Codec) (a : c.denote), plW (c.enc a) = true
  | .unit, _ => rfl
  | .bool, _ => rfl
  | .int _ _, _ => rfl
  | .nat _ _, _ => rfl
  | .u8, _ => rfl
  | .bytes _ _, _ => rfl
  | .text _ _ _ _, _ => rfl
  | .list _ _ c, a => plWs_map (fun x => pl_enc c x) a
  | .pair c d, a => by
    show (plW (c.enc a.1) && (plW (d.enc a.2) && true)) = true
    rw [pl_enc c a.1, pl_enc d a.2] <;> rfl
  | .triple c d e, a => by
    show (plW (c.enc a.1) && (plW (d.enc a.2.1) && (plW (e.enc a.2.2) && true))) = true
    rw [pl_enc c a.1, pl_enc d a.2.1, pl_enc e a.2.2] <;> rfl
  | .option c, none => rfl
  | .option c, some x => pl_enc c x
theorem pl_encAll : ∀ (cs : List Codec) (a : Codec.denoteAll cs), plWs (Codec.encAll cs a) = true
  | [], _ => rfl
  | c :: cs, a => by
    show (plW (c.enc a.1) && plWs (Codec.encAll cs a.2)) = true
    rw [pl_enc c a.1, pl_encAll cs a.2] <;> rfl
theorem weight_mem : ∀ {xs : List WData} {d : WData}, d ∈ xs → d.weight ≤ WData.weightAll xs
  | [], d, h => absurd h (by simp)
  | x :: r, d, h => by
    show d.weight ≤ x.weight + 1 + WData.weightAll r
    rcases List.mem_cons.mp h with e | m
    · rw [e]
      omega
    · have z := weight_mem m
      omega
def toV : Value → V
  | .none => .non
  | .bool b => .bl b
  | .int i _ => .int i
  | .str x _ => .str x
  | .bytes b _ => .byt b
  | .ref a => .ref a
  | _ => .non
/-- a value of the arguments, its objects among A -/
def OkU (A : List Addr) : Value → Prop
  | .none => True
  | .bool _ => True
  | .int _ _ => True
  | .str _ _ => True
  | .bytes _ _ => True
  | .ref a => a ∈ A
  | _ => False
theorem OkU.mono {A B : List Addr} (h : ∀ a ∈ A, a ∈ B) : ∀ {u : Value}, OkU A u → OkU B u := fun {u} x => by
  cases u with
  | ref a => exact h a x
  | none => trivial
  | bool b => trivial
  | int i t => trivial
  | str s t => trivial
  | bytes b t => trivial
  | _ => exact False.elim x
theorem relV_toV {A : List Addr} {u : Value} (x : OkU A u) : RelV (toV u) u := by
  cases u with
  | ref a => rfl
  | none => rfl
  | bool b => rfl
  | int i t => exact ⟨t, rfl⟩
  | str s t => exact ⟨t, rfl⟩
  | bytes b t => exact ⟨t, rfl⟩
  | _ => exact False.elim x
theorem vals_toV {A : List Addr} : ∀ {vs : List Value}, (∀ u ∈ vs, OkU A u) → Vals (vs.map toV) vs
  | [], _ => .nil
  | u :: r, h => .cons (relV_toV (h u (List.mem_cons_self ..))) (vals_toV fun x hx => h x (List.mem_cons_of_mem _ hx))
/-- an object of the arguments -/
def ArgOb (h : Heap) (A : List Addr) (a : Addr) : Prop := ∃ vs : List Value, vs.length ≤ sizeLine ∧ (∀ u ∈ vs, OkU A u) ∧
  (h.get? a = some { cls := .type "list", data := .seq vs.toArray } ∨ h.get? a = some { cls := .type "tuple", data := .seq vs.toArray })
theorem ArgOb.mono {h : Heap} {A B : List Addr} {a : Addr} (k : ∀ a ∈ A, a ∈ B) (x : ArgOb h A a) : ArgOb h B a := by
  obtain ⟨vs, h1, h2, h3⟩ := x
  exact ⟨vs, h1, fun u hu => (h2 u hu).mono k, h3⟩
theorem wellAll_len {P : Params} {h : Heap} : ∀ {vs : List Value} {ds : List WData}, WellAll P h vs ds → vs.length = ds.length
  | _, _, .nil => rfl
  | _, _, .cons _ b => by
    show _ + 1 = _ + 1
    rw [wellAll_len b]
theorem well_list {P : Params} {h : Heap} {v : Value} {ds : List WData} (x : Well P h v (.list ds)) : ∃ (a : Addr) (vs : List Value), v = .ref a ∧ h.get? a = some { cls := .type "list", data := .seq vs.toArray } ∧ WellAll P h vs ds := by
  cases x with
  | list ho hall => exact ⟨_, _, rfl, ho, hall⟩
theorem well_tuple {P : Params} {h : Heap} {v : Value} {ds : List WData} (x : Well P h v (.tuple ds)) : ∃ (a : Addr) (vs : List Value), v = .ref a ∧ h.get? a = some { cls := .type "tuple", data := .seq vs.toArray } ∧ WellAll P h vs ds := by
  cases x with
  | tuple ho hall => exact ⟨_, _, rfl, ho, hall⟩
theorem well_cons {P : Params} {h : Heap} {us : List Value} {d : WData} {ds : List WData} (x : WellAll P h us (d :: ds)) : ∃ (v : Value) (vs : List Value), us = v :: vs ∧ Well P h v d ∧ WellAll P h vs ds := by
  cases x with
  | cons a b => exact ⟨_, _, rfl, a, b⟩
theorem line_of {n : Nat} (h : n ≤ 1048576) : n ≤ sizeLine := Nat.le_trans h (by decide)
section
variable {P : Params} {h : Heap}
mutual
theorem area_one : ∀ (d : WData) (v : Value), Well P h v d → plW d = true → d.weight ≤ 1048576 → ∃ A : List Addr, OkU A v ∧ ∀ a ∈ A, ArgOb h A a
  | .none, _, x, _, _ => by
    cases x
    exact ⟨[], trivial, fun a m => absurd m (by simp)⟩
  | .bool b, _, x, _, _ => by
    cases x
    exact ⟨[], trivial, fun a m => absurd m (by simp)⟩
  | .int i, _, x, _, _ => by
    cases x
    exact ⟨[], trivial, fun a m => absurd m (by simp)⟩
  | .str s, _, x, _, _ => by
    cases x
    exact ⟨[], trivial, fun a m => absurd m (by simp)⟩
  | .bytes b, _, x, _, _ => by
    cases x
    exact ⟨[], trivial, fun a m => absurd m (by simp)⟩
  | .list ds, _, x, p, z => by
    obtain ⟨a, vs, rfl, ho, hall⟩ := well_list x
    have z2 : WData.weightAll ds ≤ 1048576 := z
    obtain ⟨A, h1, h2⟩ := area_all ds _ hall p fun d hd => Nat.le_trans (weight_mem hd) z2
    have k : ∀ b ∈ A, b ∈ a :: A := fun b hb => List.mem_cons_of_mem _ hb
    refine ⟨a :: A, List.mem_cons_self .., fun b hb => ?_⟩
    rcases List.mem_cons.mp hb with e | m
    · rw [e]
      exact ⟨vs, line_of (by rw [wellAll_len hall]; exact Nat.le_trans (PySem.W.length_le_weightAllW ds) z2), fun u hu => (h1 u hu).mono k, .inl ho⟩
    · exact (h2 b m).mono k
  | .tuple ds, _, x, p, z => by
    obtain ⟨a, vs, rfl, ho, hall⟩ := well_tuple x
    have z2 : WData.weightAll ds ≤ 1048576 := z
    obtain ⟨A, h1, h2⟩ := area_all ds _ hall p fun d hd => Nat.le_trans (weight_mem hd) z2
    have k : ∀ b ∈ A, b ∈ a :: A := fun b hb => List.mem_cons_of_mem _ hb
    refine ⟨a :: A, List.mem_cons_self .., fun b hb => ?_⟩
    rcases List.mem_cons.mp hb with e | m
    · rw [e]
      exact ⟨vs, line_of (by rw [wellAll_len hall]; exact Nat.le_trans (PySem.W.length_le_weightAllW ds) z2), fun u hu => (h1 u hu).mono k, .inr ho⟩
    · exact (h2 b m).mono k
  | .float _, _, _, p, _ => Bool.noConfusion (show false = true from p)
  | .dict _, _, _, p, _ => Bool.noConfusion (show false = true from p)
  | .bytearray _, _, _, p, _ => Bool.noConfusion (show false = true from p)
  | .set _, _, _, p, _ => Bool.noConfusion (show false = true from p)
  | .frozenset _, _, _, p, _ => Bool.noConfusion (show false = true from p)
  | .obj _ _, _, _, p, _ => Bool.noConfusion (show false = true from p)
theorem area_all : ∀ (ds : List WData) (vs : List Value), WellAll P h vs ds → plWs ds = true → (∀ d ∈ ds, d.weight ≤ 1048576) → ∃ A : List Addr, (∀ u ∈ vs, OkU A u) ∧ ∀ a ∈ A, ArgOb h A a
  | [], _, x, _, _ => by
    cases x
    exact ⟨[], fun u m => absurd m (by simp), fun a m => absurd m (by simp)⟩
  | d :: ds, _, x, p, z => by
    obtain ⟨v, vs, rfl, x1, x2⟩ := well_cons x
    have q : plW d = true ∧ plWs ds = true := Bool.and_eq_true_iff.mp p
    obtain ⟨A, a1, a2⟩ := area_one d v x1 q.1 (z d (List.mem_cons_self ..))
    obtain ⟨B, b1, b2⟩ := area_all ds vs x2 q.2 fun e he => z e (List.mem_cons_of_mem _ he)
    have kA : ∀ b ∈ A, b ∈ A ++ B := fun b hb => List.mem_append.mpr (.inl hb)
    have kB : ∀ b ∈ B, b ∈ A ++ B := fun b hb => List.mem_append.mpr (.inr hb)
    refine ⟨A ++ B, fun u hu => ?_, fun b hb => ?_⟩
    · rcases List.mem_cons.mp hu with e | m
      · rw [e]
        exact a1.mono kA
      · exact (b1 u m).mono kB
    · rcases List.mem_append.mp hb with m | m
      · exact (a2 b m).mono kA
      · exact (b2 b m).mono kB
end
end
/-- what is tracked of an argument's object -/
def hoOf (o : Obj) : Option HO := match o.data with
  | .seq vs _ => if (o.cls == Value.type "list") = true then some (.frz o (.lst (vs.toList.map toV))) else some (.frz o (.tup (vs.toList.map toV)))
  | _ => none
def argH (K : PySem.W.Frag) (h : Heap) (A : List Addr) : Hp := fun b => if b ∈ A then (if (K.lookup b).isNone = true then (h.get? b).bind hoOf else none) else none
/-- nothing is tracked but what is known to the object -/
def OnlyF (H : Hp) : Prop := ∀ b, H b = none ∨ ∃ o u, H b = some (.frz o u)
theorem hoOf_lst (vs : List Value) : hoOf { cls := .type "list", data := .seq vs.toArray } = some (.frz { cls := .type "list", data := .seq vs.toArray } (.lst (vs.map toV))) := by
  show (if (Value.type "list" == Value.type "list") = true then some (HO.frz { cls := .type "list", data := .seq vs.toArray } (.lst (vs.toArray.toList.map toV))) else some (HO.frz { cls := .type "list", data := .seq vs.toArray } (.tup (vs.toArray.toList.map toV)))) = _
  rw [if_pos (beq_self_eq_true _)]
theorem hoOf_tup (vs : List Value) : hoOf { cls := .type "tuple", data := .seq vs.toArray } = some (.frz { cls := .type "tuple", data := .seq vs.toArray } (.tup (vs.map toV))) := by
  show (if (Value.type "tuple" == Value.type "list") = true then some (HO.frz { cls := .type "tuple", data := .seq vs.toArray } (.lst (vs.toArray.toList.map toV))) else some (HO.frz { cls := .type "tuple", data := .seq vs.toArray } (.tup (vs.toArray.toList.map toV)))) = _
  rw [if_neg (by decide)]
section
variable {P : Program} {w : World} {K : PySem.W.Frag} {h : Heap} {A : List Addr}
theorem argH_at {b : Addr} {o : Obj} (hb : b ∈ A) (hk : K.lookup b = none) (e : h.get? b = some o) : argH K h A b = hoOf o := by
  unfold argH
  rw [if_pos hb, hk, if_pos (show (none : Option Obj).isNone = true from rfl), e] <;> rfl
theorem of_argH {b : Addr} {u : HO} (q : argH K h A b = some u) : b ∈ A ∧ K.lookup b = none := by
  unfold argH at q
  by_cases hb : b ∈ A
  · rw [if_pos hb] at q
    cases hk : K.lookup b with
    | none => exact ⟨hb, rfl⟩
    | some o =>
      rw [hk, if_neg (by simp)] at q
      cases q
  · rw [if_neg hb] at q
    cases q
/-- what stands tracked -/
theorem argH_is (ar : ∀ a ∈ A, ArgOb h A a) {b : Addr} {u : HO} (q : argH K h A b = some u) : K.lookup b = none ∧ ∃ vs : List Value, vs.length ≤ sizeLine ∧ (∀ u ∈ vs, OkU A u) ∧
    ((h.get? b = some { cls := .type "list", data := .seq vs.toArray } ∧ u = .frz { cls := .type "list", data := .seq vs.toArray } (.lst (vs.map toV))) ∨
     (h.get? b = some { cls := .type "tuple", data := .seq vs.toArray } ∧ u = .frz { cls := .type "tuple", data := .seq vs.toArray } (.tup (vs.map toV)))) := by
  obtain ⟨hb, hk⟩ := of_argH q
  obtain ⟨vs, h1, h2, h3⟩ := ar b hb
  refine ⟨hk, vs, h1, h2, ?_⟩
  rcases h3 with e | e
  · rw [argH_at hb hk e, hoOf_lst] at q
    exact .inl ⟨e, (Option.some.inj q).symm⟩
  · rw [argH_at hb hk e, hoOf_tup] at q
    exact .inr ⟨e, (Option.some.inj q).symm⟩
theorem argH_only (ar : ∀ a ∈ A, ArgOb h A a) : OnlyF (argH K h A) := fun b => by
  cases q : argH K h A b with
  | none => exact .inl rfl
  | some u =>
    obtain ⟨_, vs, _, _, ⟨_, e⟩ | ⟨_, e⟩⟩ := argH_is ar q
    · exact .inr ⟨_, _, by rw [e]⟩
    · exact .inr ⟨_, _, by rw [e]⟩
theorem argH_ok (ar : ∀ a ∈ A, ArgOb h A a) : HOk P w (argH K h A) h := fun b u q => by
  obtain ⟨_, vs, h1, h2, ⟨e, rfl⟩ | ⟨e, rfl⟩⟩ := argH_is ar q
  · exact ⟨e, by rw [List.length_map]; exact h1, vs, _, vals_toV h2, e⟩
  · exact ⟨e, by rw [List.length_map]; exact h1, vs, vals_toV h2, _, e, rfl, _, rfl⟩
theorem seq_inj {c c' : Value} {vs us : List Value} (e : (some { cls := c, data := .seq vs.toArray } : Option Obj) = some { cls := c', data := .seq us.toArray }) : c = c' ∧ vs = us := by
  have e1 := Option.some.inj e
  have e2 : c = c' := congrArg Obj.cls e1
  have e3 : Data.seq vs.toArray = Data.seq us.toArray := congrArg Obj.data e1
  injection e3 with e4
  refine ⟨e2, ?_⟩
  have e5 := congrArg Array.toList e4
  simpa using e5
/-- a list argument -/
theorem argL (KX : K.In h) (ar : ∀ a ∈ A, ArgOb h A a) {a : Addr} {vs : List Value} (ha : a ∈ A) (e : h.get? a = some { cls := .type "list", data := .seq vs.toArray }) : (∀ u ∈ vs, OkU A u) ∧ SqL K (argH K h A) a (vs.map toV) := by
  obtain ⟨us, h1, h2, h3⟩ := ar a ha
  have hu : us = vs := by
    rcases h3 with q | q
    · rw [e] at q
      exact (seq_inj q).2.symm
    · rw [e] at q
      exact absurd (Value.type.inj (seq_inj q).1) (by decide)
  subst hu
  refine ⟨h2, ?_⟩
  cases hk : K.lookup a with
  | none => exact .inl (.inr ⟨_, by rw [argH_at ha hk e, hoOf_lst]⟩)
  | some o =>
    have e2 := KX a o hk
    rw [e] at e2
    obtain rfl := Option.some.inj e2
    exact .inr ⟨_, us.toArray, _, hk, rfl, rfl, rfl, by rw [List.size_toArray]; exact h1, by simpa using vals_toV h2⟩
theorem argT (KX : K.In h) (ar : ∀ a ∈ A, ArgOb h A a) {a : Addr} {vs : List Value} (ha : a ∈ A) (e : h.get? a = some { cls := .type "tuple", data := .seq vs.toArray }) : (∀ u ∈ vs, OkU A u) ∧ SqT K (argH K h A) a (vs.map toV) := by
  obtain ⟨us, h1, h2, h3⟩ := ar a ha
  have hu : us = vs := by
    rcases h3 with q | q
    · rw [e] at q
      exact absurd (Value.type.inj (seq_inj q).1) (by decide)
    · rw [e] at q
      exact (seq_inj q).2.symm
  subst hu
  refine ⟨h2, ?_⟩
  cases hk : K.lookup a with
  | none => exact .inl (.inr ⟨_, by rw [argH_at ha hk e, hoOf_tup]⟩)
  | some o =>
    have e2 := KX a o hk
    rw [e] at e2
    obtain rfl := Option.some.inj e2
    exact .inr ⟨_, us.toArray, _, hk, rfl, rfl, by rw [List.size_toArray]; exact h1, by simpa using vals_toV h2⟩
mutual
theorem dw_one {Pm : Params} (KX : K.In h) (ar : ∀ a ∈ A, ArgOb h A a) : ∀ (d : WData) (v : Value), Well Pm h v d → plW d = true → OkU A v → Dw K (argH K h A) (toV v) d
  | .none, _, x, _, _ => by
    cases x
    exact .non
  | .bool b, _, x, _, _ => by
    cases x
    exact .bl b
  | .int i, _, x, _, _ => by
    cases x
    exact .int i
  | .str s, _, x, _, _ => by
    cases x
    exact .str s
  | .bytes b, _, x, _, _ => by
    cases x
    have z := Dw.byt (K := K) (H := argH K h A) b.toArray
    exact z
  | .list ds, _, x, p, hu => by
    obtain ⟨a, vs, rfl, ho, hall⟩ := well_list x
    obtain ⟨h2, hs⟩ := argL KX ar hu ho
    exact .lst hs (dw_all KX ar ds _ hall p h2)
  | .tuple ds, _, x, p, hu => by
    obtain ⟨a, vs, rfl, ho, hall⟩ := well_tuple x
    obtain ⟨h2, hs⟩ := argT KX ar hu ho
    exact .tup hs (dw_all KX ar ds _ hall p h2)
  | .float _, _, _, p, _ => Bool.noConfusion (show false = true from p)
  | .dict _, _, _, p, _ => Bool.noConfusion (show false = true from p)
  | .bytearray _, _, _, p, _ => Bool.noConfusion (show false = true from p)
  | .set _, _, _, p, _ => Bool.noConfusion (show false = true from p)
  | .frozenset _, _, _, p, _ => Bool.noConfusion (show false = true from p)
  | .obj _ _, _, _, p, _ => Bool.noConfusion (show false = true from p)
theorem dw_all {Pm : Params} (KX : K.In h) (ar : ∀ a ∈ A, ArgOb h A a) : ∀ (ds : List WData) (vs : List Value), WellAll Pm h vs ds → plWs ds = true → (∀ u ∈ vs, OkU A u) → DwAll K (argH K h A) (vs.map toV) ds
  | [], _, x, _, _ => by
    cases x
    exact .nil
  | d :: ds, _, x, p, hu => by
    obtain ⟨v, vs, rfl, x1, x2⟩ := well_cons x
    have q : plW d = true ∧ plWs ds = true := Bool.and_eq_true_iff.mp p
    exact .cons (dw_one KX ar d v x1 q.1 (hu _ (List.mem_cons_self ..))) (dw_all KX ar ds vs x2 q.2 fun u m => hu u (List.mem_cons_of_mem _ m))
end
end
theorem spec_call {P : Program} {w : World} {K : PySem.W.Frag} {mg mb : Str → Option Value} {CX : CXT} {k : Nat} {fa : Addr} {fd : FuncData} {ps : List Str} {sp : Sp} {s₁ : Shared} {vals : List Value} {ds : List WData} {R : PySem.W.WRecords} {cl : Str → Option Addr} {d0 : WData}
    (KX : K.In s₁.heap) (hns : s₁.heap.Ns mainGlobals mg) (hb : s₁.heap.Ns builtinsNs mb) (hbb : ∀ x : Str, x ≠ "__name__" → mb x = bootBuiltins x) (hlim : s₁.heap.NoLimit) (hg : s₁.gens = #[])
    (hwl : WellAll w.params s₁.heap vals ds) (hpl : plWs ds = true) (hwt : ∀ d ∈ ds, d.weight ≤ 1048576) (hr : Room k callerA)
    (F : ∀ base : Heap, K.In base → base.Ns mainGlobals mg → FnOk P w K mg base CX k fa fd ps sp) (hbind : ∀ (s : Shared) (us : List Value), us.length = ps.length → BindsTo s fd ⟨us, []⟩ (ps.zip us)) (hlen : ds.length = ps.length)
    (hsp : ∀ (H : Hp) (xs : List V), OnlyF H → DwAll K H xs ds → sp xs H (fun v H' => Dw K H' v d0) fun _ _ _ => False)
    (hCX : ∀ H e s', CX [] H s₁ (fun _ _ _ => False) e s' → False) :
    codeAny (model P w) callerA (.call (.ref fa) ⟨vals, []⟩) (fun r s' => ∃ u as, r = .ok (.ret u) ∧ ReadsW R cl s'.heap u d0 as ∧ OldK s₁.heap s'.heap ∧ s'.os = s₁.os ∧ AllBare s'.gens) s₁ := by
  obtain ⟨A, ho, ar⟩ := area_all ds vals hwl hpl hwt
  have hO : OnlyF (argH K s₁.heap A) := argH_only ar
  have hok : HOk P w (argH K s₁.heap A) s₁.heap := argH_ok ar
  have hS := dw_all KX ar ds vals hwl hpl ho
  have hV := vals_toV ho
  have hK : ∀ b u, argH K s₁.heap A b = some u → K.lookup b = none := fun b u q => (argH_is ar q).1
  have noA : ∀ {b : Addr} {o : Obj} {es : Array DictEntry} {ep : Nat}, s₁.heap.get? b = some o → o.data = .dict es ep → argH K s₁.heap A b = none := fun {b o es ep} e d => by
    cases q : argH K s₁.heap A b with
    | none => rfl
    | some u =>
      obtain ⟨_, vs, _, _, ⟨e2, _⟩ | ⟨e2, _⟩⟩ := argH_is ar q
      · rw [e2] at e
        cases e
        have d' : Data.seq vs.toArray _ = Data.dict es ep := d
        cases d'
      · rw [e2] at e
        cases e
        have d' : Data.seq vs.toArray _ = Data.dict es ep := d
        cases d'
  generalize argH K s₁.heap A = H at hO hok hS hK noA
  have base_of : ∀ {b : Addr} {o : Obj}, s₁.heap.get? b = some o → H b = none → (hidT s₁.heap H).get? b = some o := fun e n => hidT_get e n
  have nsK : ∀ {b : Addr} {m : Str → Option Value}, s₁.heap.Ns b m → (hidT s₁.heap H).Ns b m := fun {b m} ⟨o, es, ep, e, d, r⟩ => ⟨o, es, ep, base_of e (noA e d), d, r⟩
  have nK : ∀ b o, K.lookup b = some o → H b = none := fun b o e => by
    cases q : H b with
    | none => rfl
    | some u =>
      rw [hK b u q] at e
      cases e
  have hKb : K.In (hidT s₁.heap H) := fun b o e => base_of (KX b o e) (nK b o e)
  have hM : Mod K mg (hidT s₁.heap H) := ⟨hKb, nsK hns, ⟨mb, nsK hb, hbb⟩, let ⟨mc, h1, h2⟩ := hlim; ⟨mc, nsK h1, h2⟩⟩
  have e0 : Env0 P w K mg (hidT s₁.heap H) callerA [] s₁ H := ⟨rfl, hM, fun b o e => of_hidT e, Nat.le_of_eq (hidT_size _ _), trivial, fun b hb => absurd (show b ∈ ([] : List Addr) from hb) (by simp), hok, .of_eq hg⟩
  have hl : vals.length = ps.length := by rw [wellAll_len hwl]; exact hlen
  refine codeAny_mono ((F _ hKb (nsK hns)).run callerA [] s₁ H ⟨vals, []⟩ vals (vals.map toV) _ _ hr e0 (hbind s₁ vals hl) hV (hsp H _ hO hS)) fun r s' x => ?_
  cases r with
  | error e => exact (hCX H e s' x).elim
  | ok fl =>
    cases fl with
    | next => exact False.elim x
    | brk => exact False.elim x
    | cont => exact False.elim x
    | ret u =>
      obtain ⟨v, H', os, bare, un, hok', r', q⟩ := x
      have kept : ∀ b o, s₁.heap.get? b = some o → s'.heap.get? b = some o := fun b o e => by
        cases q2 : H b with
        | none => exact un.keep b o e q2 (by intro z; exact absurd (show b ∈ ([] : List Addr) from z) (by simp)) (by simp)
        | some u2 =>
          rcases hO b with z | ⟨ob, u3, z⟩
          · rw [q2] at z
            cases z
          · have z2 := un.frzs b ob _ z
            obtain ⟨e1, _⟩ := hok b _ z
            obtain ⟨e2, _⟩ := hok' b _ z2
            rw [e] at e1
            cases e1
            exact e2
      have KX' : K.In s'.heap := fun b o e => kept b o (KX b o e)
      obtain ⟨as, hrd⟩ := Dw.reads (R := R) (cl := cl) hok' KX' d0 v u q r'
      exact ⟨u, as, rfl, hrd, OldK.of_keep kept, os, bare⟩
theorem layable_weight {ds : List WData} (h : WData.layableAll ds = true) : ∀ d ∈ ds, d.weight ≤ 1048576 := fun d hd =>
  (PySem.W.layableW_iff.mp (List.all_eq_true.mp h d hd)).2.2
theorem encAll_len : ∀ (cs : List Codec) (a : Codec.denoteAll cs), (Codec.encAll cs a).length = cs.length
  | [], _ => rfl
  | c :: cs, a => by
    show (Codec.encAll cs a.2).length + 1 = cs.length + 1
    rw [encAll_len cs a.2]
/-- the goal that k_headS leaves (case hc), from the promise of the row's def: whatever the arguments that the codecs let and the row asks for, the def gives what stands for enc (f ..) -/
theorem walk_spec {r : OpenSpec} {k : Nat} {q : Program} {loose : List Str} {XP : (Str → Option Value) → Heap → Prop} {YP : World → Heap → Prop} {d : DefRec} {K : Params → PySem.W.Frag} {CX : World → CXT} {ps : List Str} {sp : World → Sp}
    (hwell : r.wellSaid = true) (hdf : d.params.defaults = []) (hlen : r.args.length = ps.length) (hr : Room k callerA)
    (hY : ∀ (w : World) (h : Heap), YP w h → (K w.params).In h)
    (F : ∀ (w : World) (mg : Str → Option Value) (fa : Addr) (h : Heap), YP w h → (K w.params).In h → h.Ns mainGlobals mg → mg d.name = some (.ref fa) →
      ∃ fd : FuncData, (∀ (s : Shared) (us : List Value), us.length = ps.length → BindsTo s fd ⟨us, []⟩ (ps.zip us)) ∧
        ∀ base : Heap, (K w.params).In base → base.Ns mainGlobals mg → FnOk r.prog w (K w.params) mg base (CX w) k fa fd ps (sp w))
    (hsp : ∀ (w : World) (H : Hp) (xs : List V) (a : Codec.denoteAll r.args), OnlyF H → Codec.withinAll r.args a = true → Codec.app r.args r.asked a = true → DwAll (K w.params) H xs (Codec.encAll r.args a) →
      sp w xs H (fun v H' => Dw (K w.params) H' v (r.ret.enc (Codec.app r.args r.f a))) fun _ _ _ => False)
    (hCX : ∀ (w : World) (H : Hp) (s : Shared) (e : Value) (s' : Shared), CX w [] H s (fun _ _ _ => False) e s' → False) :
    PySem.W.WalkOS q loose XP YP r d [] (fun f vs => PySem.call f vs) := by
  intro w s_0 s₁ mg mb G Y fa o pm cd doc dV kV ho hd hcd hD hmg hg args vals as hpre hlay hrd hwl hlo
  obtain ⟨a, e1, e2⟩ := PySem.W.os_pre_some hpre
  obtain ⟨e3, hwi⟩ := Codec.encAll_of_decAll r.args args a e1
  subst e3
  have KX := hY w _ Y
  obtain ⟨fd, hb, hF⟩ := F w mg fa _ Y KX G.T.g hmg
  refine PySem.W.enter_call (codeAny_mono (spec_call (R := []) (cl := classAt s_0.heap) (d0 := r.ret.enc (Codec.app r.args r.f a)) KX G.T.g G.T.b G.T.builtins G.T.nolimit hg hwl (pl_encAll _ _) (layable_weight hlay) hr hF hb (by rw [encAll_len]; exact hlen)
    (fun H xs hO hS => hsp w H xs a hO hwi e2 hS) fun H e s' => hCX w H s₁ e s') fun r' s' hq => ?_)
  obtain ⟨u, as', rfl, h1, h2, h3, h4⟩ := hq
  exact ⟨.inl ⟨u, _, as', rfl, fun _ => rfl, h1, (OpenSpec.post_iff hwell hwi _ _).mpr rfl, fun z => Bool.noConfusion (show false = true from z)⟩, h2, h3, h4⟩
/-- the same where the promise hangs on the written part alone -/
theorem walk_specK {r : OpenSpec} {k : Nat} {q : Program} {loose : List Str} {XP : (Str → Option Value) → Heap → Prop} {YP : World → Heap → Prop} {d : DefRec} {K : Params → PySem.W.Frag} {CX : CXT} {ps : List Str} {sp : PySem.W.Frag → Sp}
    (hwell : r.wellSaid = true) (hdf : d.params.defaults = []) (hlen : r.args.length = ps.length) (hr : Room k callerA)
    (hY : ∀ (w : World) (h : Heap), YP w h → (K w.params).In h)
    (F : ∀ (w : World) (mg : Str → Option Value) (fa : Addr) (h : Heap), YP w h → (K w.params).In h → h.Ns mainGlobals mg → mg d.name = some (.ref fa) →
      ∃ fd : FuncData, (∀ (s : Shared) (us : List Value), us.length = ps.length → BindsTo s fd ⟨us, []⟩ (ps.zip us)) ∧
        ∀ base : Heap, (K w.params).In base → base.Ns mainGlobals mg → FnOk r.prog w (K w.params) mg base CX k fa fd ps (sp (K w.params)))
    (hsp : ∀ (K : PySem.W.Frag) (H : Hp) (xs : List V) (a : Codec.denoteAll r.args), OnlyF H → Codec.withinAll r.args a = true → Codec.app r.args r.asked a = true → DwAll K H xs (Codec.encAll r.args a) →
      sp K xs H (fun v H' => Dw K H' v (r.ret.enc (Codec.app r.args r.f a))) fun _ _ _ => False)
    (hCX : ∀ (H : Hp) (s : Shared) (e : Value) (s' : Shared), CX [] H s (fun _ _ _ => False) e s' → False) :
    PySem.W.WalkOS q loose XP YP r d [] (fun f vs => PySem.call f vs) :=
  walk_spec (K := K) (CX := fun _ => CX) (sp := fun w => sp (K w.params)) hwell hdf hlen hr hY F (fun w H xs a h1 h2 h3 h4 => hsp (K w.params) H xs a h1 h2 h3 h4) fun _ H s e s' => hCX H s e s'
end L2
-- rests on (row put in by the clerk, for the bench that shows a file only what it spells): KE.SpHead KE.OsShapes
end
section
set_option Elab.async false
namespace TD
open Drum DrumMachineSeed
/-! ### the flat list of calls, call by call -/
def flat : DrumMachineSeed.Call → List Int
  | .new s => [1, s]
  | .poke a v => [2, a, v]
  | .peek a => [3, a]
  | .told => [4]
  | .run o u c => 5 :: o :: u :: (c.length : Int) :: c
  | .order v => [6, v]
  | .drum => [7]
  | .load st ov n t a d l => 8 :: st :: ov :: n :: t :: a :: d :: (l.length : Int) :: l
/-- the answers, laid one behind another -/
def outs : Machine → List DrumMachineSeed.Call → List Int
  | _, [] => []
  | s, c :: r => (((DrumMachineSeed.step s c).2.length : Int) :: (DrumMachineSeed.step s c).2) ++ outs (DrumMachineSeed.step s c).1 r
theorem ok_call {c : List (List Int)} {x : DrumMachineSeed.Call} (h : MachineNeutral.callOf c = some x) : PyFlat.put1 c = flat x ∧ PyWqdrmb.whole c = c := by
  unfold MachineNeutral.callOf at h
  split at h
  all_goals first
    | (cases h; refine ⟨?_, rfl⟩; simp [PyFlat.put1, PyFlat.putRows, PyFlat.putRow, flat])
    | cases h
theorem whole_id (c : List (List Int)) : PyWqdrmb.whole c = c := by
  unfold PyWqdrmb.whole
  split <;> rfl
theorem played_outs : ∀ (cs : List (List (List Int))) (s : Machine), (∀ c ∈ cs, (MachineNeutral.callOf c).isSome = true) →
    ∃ xs : List DrumMachineSeed.Call, xs.length = cs.length ∧ PyFlat.put cs = xs.flatMap flat ∧ PyFlat.told (PyFlat.played MachineNeutral.step s cs) = outs s xs
  | [], s, _ => ⟨[], rfl, rfl, rfl⟩
  | c :: cs, s, h => by
    have hc := h c (List.mem_cons_self)
    obtain ⟨x, hx⟩ := Option.isSome_iff_exists.mp hc
    have e1 : MachineNeutral.step s c = DrumMachineSeed.step s x := by
      unfold MachineNeutral.step
      rw [hx]
    obtain ⟨xs, h1, h2, h3⟩ := played_outs cs (MachineNeutral.step s c).1 (fun d hd => h d (List.mem_cons_of_mem _ hd))
    refine ⟨x :: xs, by simp [h1], ?_, ?_⟩
    · show PyFlat.put1 c ++ PyFlat.put cs = flat x ++ xs.flatMap flat
      rw [(ok_call hx).1, h2]
    · show (((MachineNeutral.step s c).2.length : Int) :: (MachineNeutral.step s c).2) ++ PyFlat.told (PyFlat.played MachineNeutral.step (MachineNeutral.step s c).1 cs) = _
      rw [h3, e1]
      rfl
theorem asked_flat {l : List Int} (h : PyWqdrmb.answers_asked l = true) :
    ∃ xs : List DrumMachineSeed.Call, l = xs.flatMap flat ∧ PyWqdrmb.answers l = outs DrumMachineSeed.start xs ∧ 0 < xs.length ∧ xs.length ≤ 200 ∧ (outs DrumMachineSeed.start xs).length ≤ 10000000 := by
  unfold PyWqdrmb.answers_asked at h
  cases e : PyWqdrmb.calls l with
  | none => rw [e] at h; cases h
  | some cs =>
    rw [e] at h
    simp only [Bool.and_eq_true] at h
    obtain ⟨⟨_, h2⟩, h3⟩ := h
    have e' := e
    unfold PyWqdrmb.calls at e'
    cases e2 : PyFlat.calls PyWqdrmb.shape l.length l with
    | none => rw [e2] at e'; cases e'
    | some ds =>
      rw [e2] at e'
      have e3 : ds = cs := by
        have q := Option.some.inj e'
        rw [← q]
        exact (List.map_id ds).symm.trans (List.map_congr_left fun c _ => (whole_id c).symm)
      subst e3
      have hp := (PyFlat.put_calls _ _ _ e2).1
      unfold MachineNeutral.asked at h2
      simp only [Bool.and_eq_true, List.all_eq_true, decide_eq_true_eq] at h2
      obtain ⟨h4, h5, h6, h7⟩ := h2
      obtain ⟨xs, g1, g2, g3⟩ := played_outs ds DrumMachineSeed.start h6
      have ea : PyWqdrmb.answers l = outs DrumMachineSeed.start xs := by
        unfold PyWqdrmb.answers
        rw [e]
        exact g3
      refine ⟨xs, hp.trans g2, ea, ?_, by rw [g1]; exact h5, ?_⟩
      · rw [g1]
        cases ds with
        | nil => simp at h4
        | cons a b => simp
      · have := of_decide_eq_true (show decide ((PyWqdrmb.answers l).length ≤ 10000000) = true from h3)
        rw [ea] at this
        exact this
end TD
end
section
set_option Elab.async false
namespace TD
open Drum DrumMachineSeed
/-! ### what holds of every machine that is met -/
def Wd (v : Int) : Prop := v.natAbs < 10000000000
def Lg (v : Int) : Prop := v.natAbs < 100000000000000000000
structure WF (m : Machine) : Prop where
  len : m.drum.length = 2000
  words : ∀ v ∈ m.drum, Wd v
  a : Lg m.a
  d : Wd m.d
  tick : m.tick < 18446744073709551616
  next : m.next < 2000
  state : m.state ≤ 6
theorem TEN_eq : TEN = 10000000000 := rfl
theorem isWord_iff {v : Int} : isWord v = true ↔ Wd v := by
  unfold isWord Wd TEN
  simp
theorem isLong_iff {v : Int} : isLong v = true ↔ Lg v := by
  unfold isLong Lg TEN
  simp
theorem wd_zero : Wd 0 := by unfold Wd; decide
theorem at_wd {m : Machine} (h : WF m) (a : Nat) : Wd (m.at_ a) := by
  unfold Machine.at_
  rw [List.getD_eq_getElem?_getD]
  cases e : m.drum[a]? with
  | none => exact wd_zero
  | some v => exact h.words v (List.mem_of_getElem? e)
theorem set_wd {l : List Int} (h : ∀ v ∈ l, Wd v) (a : Nat) {v : Int} (hv : Wd v) : ∀ u ∈ l.set a v, Wd u := by
  intro u hu
  rcases List.mem_or_eq_of_mem_set hu with q | q
  · exact h u q
  · rw [q]; exact hv
theorem WF.put {m : Machine} (h : WF m) (a : Nat) {v : Int} (hv : Wd v) : WF (m.put a v) :=
  ⟨by show (m.drum.set a v).length = 2000; rw [List.length_set]; exact h.len, set_wd h.words a hv, h.a, h.d, h.tick, h.next, h.state⟩
theorem wf_new {s : Nat} (h : s < 2000) : WF (Drum.new s) :=
  ⟨List.length_replicate, fun v hv => by rw [List.eq_of_mem_replicate hv]; exact wd_zero, (show (0 : Int).natAbs < _ by decide), wd_zero, (show 0 < _ by decide), h, (show 0 ≤ 6 by decide)⟩
theorem signed_abs (v : Int) (n : Nat) : (signed v n).natAbs = n := by
  unfold signed
  split <;> omega
theorem fitted_lg (v : Int) : Lg (fitted v).1 := by
  unfold fitted
  split
  · exact isLong_iff.mp (by assumption)
  · show (signed v (v.natAbs % (TEN * TEN))).natAbs < _
    rw [signed_abs]
    exact Nat.mod_lt _ (by decide)
theorem lower_wd (v : Int) : Wd (lower v) := by
  unfold Wd lower
  rw [signed_abs]
  exact Nat.mod_lt _ (by decide)
theorem upper_wd {v : Int} (h : Lg v) : Wd (upper v) := by
  unfold Wd upper
  rw [signed_abs, TEN_eq]
  unfold Lg at h
  omega
theorem times_lg {a d : Int} (hd : Wd d) : Lg (times a d) := by
  unfold Lg times
  rw [Int.natAbs_mul]
  have h1 := lower_wd a
  unfold Wd at h1 hd
  have : (lower a).natAbs * d.natAbs ≤ 9999999999 * 9999999999 := Nat.mul_le_mul (by omega) (by omega)
  omega
theorem right_lg {a : Int} (h : Lg a) (k : Nat) : Lg (right a k) := by
  unfold Lg right
  rw [signed_abs]
  exact Nat.lt_of_le_of_lt (Nat.div_le_self _ _) h
theorem round_lg {a : Int} (h : Lg a) (k : Nat) : Lg (round a k) := by
  unfold Lg at *
  unfold round
  rw [signed_abs]
  have hp : 1 ≤ 10 ^ k := Nat.one_le_iff_ne_zero.mpr (by have := Nat.pow_pos (n := k) (show 0 < 10 by decide); omega)
  generalize 10 ^ k = p at hp
  have : (2 * a.natAbs + p) / (2 * p) < a.natAbs + 1 := by
    refine Nat.div_lt_of_lt_mul ?_
    have h3 : (2 * p) * (a.natAbs + 1) = 2 * (p * a.natAbs) + 2 * p := by
      rw [Nat.mul_add, Nat.mul_assoc, Nat.mul_one]
    have h4 : 1 * a.natAbs ≤ p * a.natAbs := Nat.mul_le_mul_right _ hp
    rw [h3]
    omega
  omega
/-! ### digits -/
theorem toDigits_len {n k : Nat} (hn : n ≠ 0) (h : n < 10 ^ k) : (Nat.toDigits 10 n).length ≤ k := by
  have hk : k ≠ 0 := by
    intro q
    subst q
    simp at h
    exact hn h
  exact (Nat.length_toDigits_le_iff (by decide) (by omega)).mpr h
theorem count_lg {a : Int} (h : Lg a) : Lg (count a).1 ∧ (count a).2 ≤ 20 := by
  unfold Lg at *
  unfold count digits
  refine ⟨?_, by show 20 - _ ≤ 20; omega⟩
  show (a * (10 : Int) ^ _).natAbs < _
  by_cases h0 : a = 0
  · rw [h0]; simp
  · have hn : a.natAbs ≠ 0 := by omega
    rw [if_neg h0, if_neg hn, Int.natAbs_mul, Int.natAbs_pow]
    show a.natAbs * 10 ^ _ < _
    have hl : a.natAbs < 10 ^ (Nat.toDigits 10 a.natAbs).length := (Nat.length_toDigits_le_iff (b := 10) (by decide) (k := (Nat.toDigits 10 a.natAbs).length) Nat.length_toDigits_pos).mp (Nat.le_refl _)
    have hk : (Nat.toDigits 10 a.natAbs).length ≤ 20 := toDigits_len hn h
    generalize (Nat.toDigits 10 a.natAbs).length = L at hl hk
    have : a.natAbs * 10 ^ (20 - L) < 10 ^ L * 10 ^ (20 - L) := Nat.mul_lt_mul_of_pos_right hl (Nat.pow_pos (by decide))
    rw [← Nat.pow_add, show L + (20 - L) = 20 by omega] at this
    exact this
/-! ### one order keeps the machine well -/
theorem by_wf {a d : Int} (h : ¬ (by_ a d).2.2 = true) (ha : Lg a) (hd : Wd d) : Lg (by_ a d).1 ∧ Wd (by_ a d).2.1 ∧ Wd (by_ a d).1 := by
  unfold by_ at *
  split at h
  · exact absurd rfl h
  · rename_i q
    rw [if_neg q]
    have hd0 : d ≠ 0 := fun z => q (.inl z)
    have hq : ¬ d.natAbs * TEN ≤ a.natAbs := fun z => q (.inr z)
    have h1 : (a.tdiv d).natAbs < 10000000000 := by
      rw [Int.natAbs_tdiv]
      show a.natAbs / d.natAbs < 10000000000
      rw [TEN_eq] at hq
      exact (Nat.div_lt_iff_lt_mul (by omega)).mpr (by omega)
    have h2 : (a.tmod d).natAbs < d.natAbs := by
      rw [Int.natAbs_tmod]
      exact Nat.mod_lt _ (by omega)
    unfold Lg Wd at *
    refine ⟨?_, ?_, h1⟩
    · show (a.tdiv d).natAbs < _
      omega
    · show (a.tmod d).natAbs < _
      omega
theorem WF.sumTo {m : Machine} (h : WF m) (v : Int) : WF (sumTo m (fitted v)) := ⟨h.len, h.words, fitted_lg v, h.d, h.tick, h.next, h.state⟩
theorem WF.withA {m : Machine} (h : WF m) {v : Int} (q : Lg v) : WF { m with a := v } := ⟨h.len, h.words, q, h.d, h.tick, h.next, h.state⟩
theorem WF.withOver {m : Machine} (h : WF m) (v : Bool) : WF { m with over := v } := ⟨h.len, h.words, h.a, h.d, h.tick, h.next, h.state⟩
theorem WF.withAD {m : Machine} (h : WF m) {v u : Int} (q : Lg v) (r : Wd u) : WF { m with a := v, d := u } := ⟨h.len, h.words, q, r, h.tick, h.next, h.state⟩
theorem lg_of_wd {v : Int} (h : Wd v) : Lg v := by unfold Lg Wd at *; omega
theorem lg_neg {v : Int} (h : Lg v) : Lg (-v) := by unfold Lg at *; omega
theorem find_range {n : Nat} {p : Nat → Bool} {k : Nat} (h : (List.range n).find? p = some k) : k < n := List.mem_range.mp (List.mem_of_find?_eq_some h)
theorem WF.putAll {card : List Int} (hc : ∀ v ∈ card, Wd v) (f : Nat → Nat) : ∀ (l : List Nat) {m : Machine}, WF m → WF (l.foldl (fun (x : Machine) (k : Nat) => x.put (f k) (card.getD k 0)) m)
  | [], _, h => h
  | k :: l, m, h => WF.putAll hc f l (h.put (f k) (by
      rw [List.getD_eq_getElem?_getD]
      cases e : card[k]? with
      | none => exact wd_zero
      | some v => exact hc v (List.mem_of_getElem? e)))
theorem WF.does {m : Machine} (h : WF m) (o : Order) {card : List Int} (hc : ∀ v ∈ card, Wd v) : WF (does m o card).m := by
  unfold Drum.does
  split
  case h_1 => exact h.withA (lg_of_wd h.d)
  case h_2 => exact h.withA (lg_neg (lg_of_wd h.d))
  case h_3 => exact h.sumTo _
  case h_4 => exact h.sumTo _
  case h_5 => exact h.sumTo _
  case h_6 => exact h.sumTo _
  case h_7 => exact h.sumTo _
  case h_8 => exact h.sumTo _
  case h_9 => exact h.withA (times_lg h.d)
  case h_10 =>
    split
    · exact h.withOver true
    · rename_i q
      have z := by_wf q h.a h.d
      exact h.withAD z.1 z.2.1
  case h_11 => exact h.put _ (lower_wd _)
  case h_12 => exact h.put _ (upper_wd h.a)
  case h_13 => exact h.put _ h.d
  case h_14 => exact h.sumTo _
  case h_15 => exact h.withA (right_lg h.a _)
  case h_16 => exact h.withA (round_lg h.a _)
  case h_17 =>
    have z := count_lg h.a
    exact h.withAD z.1 (by unfold Wd; omega)
  case h_18 => exact h
  case h_19 => exact h
  case h_20 => exact h.withOver false
  case h_21 =>
    split
    · rename_i k e
      have := find_range e
      unfold PLACES at this
      exact h.withA (by unfold Lg; omega)
    · exact h.withOver true
  case h_22 => exact WF.putAll hc _ _ h
  case h_23 => exact h
  case h_24 => exact h
theorem jump_code {m : Machine} {o : Order} {card : List Int} (h : (does m o card).jump = true) : o.code = 50 ∨ o.code = 51 ∨ o.code = 52 := by
  unfold Drum.does at h
  split at h
  all_goals first
    | (rename_i e; omega)
    | (exfalso; exact Bool.noConfusion h)
    | (exfalso; revert h; split <;> (intro h; exact Bool.noConfusion h))
theorem fault_none {v : Int} {c : Bool} (h : faultOf v c = none) : 0 ≤ v ∧ known (orderOf v).code = true ∧ ((orderOf v).code ≠ 0 → (orderOf v).n < 2000) ∧ (addresses (orderOf v).code = true → (orderOf v).d < 2000) ∧
    ((40 ≤ (orderOf v).code ∧ (orderOf v).code ≤ 42) → (orderOf v).d ≤ 20) ∧ ((orderOf v).code = 70 → c = true) := by
  unfold faultOf at h
  simp only at h
  split at h
  · cases h
  split at h
  · cases h
  split at h
  · cases h
  split at h
  · cases h
  split at h
  · cases h
  rename_i h1 h2 h3 h4 h5
  unfold WORDS at h3
  refine ⟨by omega, by simpa using h2, fun q => ?_, fun q => ?_, fun q => by omega, fun q => ?_⟩
  · exact Nat.lt_of_not_le fun z => h3 (.inl ⟨q, z⟩)
  · exact Nat.lt_of_not_le fun z => h3 (.inr ⟨q, z⟩)
  · cases c with
    | true => rfl
    | false => exact absurd ⟨q, rfl⟩ h5
theorem fault_le {v : Int} {c : Bool} {f : Nat} (h : faultOf v c = some f) : 2 ≤ f ∧ f ≤ 6 := by
  unfold faultOf at h
  simp only at h
  split at h
  · cases h; omega
  split at h
  · cases h; omega
  split at h
  · cases h; omega
  split at h
  · cases h; omega
  split at h
  · cases h; omega
  · cases h
theorem WF.loaded {m : Machine} (h : WF m) (o : Order) : WF (Drum.loaded m o) := by
  unfold Drum.loaded
  split
  · exact ⟨h.len, h.words, h.a, at_wd h _, h.tick, h.next, h.state⟩
  · exact h
theorem WF.step {m : Machine} (h : WF m) {cards : List Card} (hc : ∀ c ∈ cards, ∀ v ∈ c, Wd v) : WF (m.step cards).1 := by
  unfold Machine.step
  simp only
  split
  · rename_i f e
    have z := fault_le e
    exact ⟨h.len, h.words, h.a, h.d, Nat.mod_lt _ (by decide), h.next, z.2⟩
  · rename_i e
    split
    · exact ⟨h.len, h.words, h.a, h.d, Nat.mod_lt _ (by decide), h.next, (show 1 ≤ 6 by decide)⟩
    · rename_i hz
      have f := fault_none e
      have w : WF (Drum.does (Drum.loaded m (orderOf (m.at_ m.next))) (orderOf (m.at_ m.next)) (cards.headD [])).m := by
        refine (h.loaded _).does _ ?_
        cases cards with
        | nil => intro v hv; exact nomatch hv
        | cons c r => exact hc c List.mem_cons_self
      refine ⟨w.len, w.words, w.a, w.d, Nat.mod_lt _ (by decide), ?_, w.state⟩
      show (if _ then _ else _) < 2000
      split
      · rename_i j
        have q := jump_code j
        refine f.2.2.2.1 ?_
        rcases q with q | q | q <;> rw [q] <;> decide
      · exact f.2.2.1 hz
theorem WF.run : ∀ (k u : Nat) {m : Machine} {cards : List Card}, WF m → (∀ c ∈ cards, ∀ v ∈ c, Wd v) → WF (Drum.run k u m cards).m
  | 0, _, _, _, h, _ => h
  | k + 1, u, m, cards, h, hc => by
    unfold Drum.run
    split
    · exact h
    · refine WF.run k u (h.step hc) ?_
      split
      · intro c q
        exact hc c (List.mem_of_mem_drop q)
      · exact hc
theorem eights_wd : ∀ (f : Nat) {l : List Int}, (∀ v ∈ l, Wd v) → ∀ c ∈ eights f l, ∀ v ∈ c, Wd v
  | 0, _, _ => fun c q => nomatch q
  | f + 1, l, h => by
    unfold eights
    split
    · intro c q
      exact nomatch q
    · intro c q
      rcases List.mem_cons.mp q with q | q
      · subst q
        intro v hv
        exact h v (List.mem_of_mem_take hv)
      · exact eights_wd f (fun v hv => h v (List.mem_of_mem_drop hv)) c q
theorem noted_wd : ∀ {l : List Int} {k : Int} {z : List (Nat × Int)}, noted l k = some z → ∀ u ∈ z, Wd u.2
  | [], k, z, h => by cases h; intro u q; exact nomatch q
  | [_], k, z, h => by cases h
  | a :: v :: r, k, z, h => by
    unfold noted at h
    split at h
    · cases h
    · rename_i q
      cases e : noted r (a + 1) with
      | none => rw [e] at h; cases h
      | some y =>
        rw [e] at h
        cases h
        intro u hu
        rcases List.mem_cons.mp hu with p | p
        · subst p
          cases w : isWord v with
          | true => exact isWord_iff.mp w
          | false => exact absurd (.inr (.inr (.inl w))) q
        · exact noted_wd e u p
theorem drumOf_wf : ∀ (z : List (Nat × Int)) (d : List Int), (∀ u ∈ z, Wd u.2) → d.length = 2000 → (∀ v ∈ d, Wd v) →
    (z.foldl (fun (d : List Int) (u : Nat × Int) => d.set u.1 u.2) d).length = 2000 ∧ ∀ v ∈ z.foldl (fun (d : List Int) (u : Nat × Int) => d.set u.1 u.2) d, Wd v
  | [], d, _, h1, h2 => ⟨h1, h2⟩
  | u :: z, d, h, h1, h2 => drumOf_wf z (d.set u.1 u.2) (fun x hx => h x (List.mem_cons_of_mem _ hx)) (by rw [List.length_set]; exact h1) (set_wd h2 _ (h u List.mem_cons_self))
theorem within_iff {v : Int} {n : Nat} : DrumMachineSeed.within v n = true ↔ 0 ≤ v ∧ v < n := by
  unfold DrumMachineSeed.within
  simp
theorem wf_step {m : Machine} (h : WF m) (c : DrumMachineSeed.Call) : WF (DrumMachineSeed.step m c).1 := by
  unfold DrumMachineSeed.step
  cases c with
  | new s =>
    simp only
    split
    · rename_i q
      have := within_iff.mp q
      unfold WORDS at this
      exact wf_new (by omega)
    · exact h
  | poke a v =>
    simp only
    split
    · rename_i q
      simp only [Bool.and_eq_true] at q
      exact h.put _ (isWord_iff.mp q.2)
    · exact h
  | peek a => exact h
  | told => exact h
  | run o u cs =>
    simp only
    split
    · rename_i q
      simp only [Bool.and_eq_true, List.all_eq_true] at q
      exact WF.run _ _ h (eights_wd _ fun v hv => isWord_iff.mp (q.2.2.2.2 v hv))
    · exact h
  | order v => exact h
  | drum => exact h
  | load st ov n t a d l =>
    simp only
    split
    · rename_i q
      simp only [Bool.and_eq_true, within_iff] at q
      obtain ⟨q1, q2, q3, q4, q5, q6⟩ := q
      split
      · rename_i z e
        have w := drumOf_wf z (List.replicate WORDS 0) (noted_wd e) List.length_replicate (fun v hv => by rw [List.eq_of_mem_replicate hv]; exact wd_zero)
        have q4' : t < 18446744073709551616 := q4.2
        have q3' : n < 2000 := q3.2
        have q1' : st < 7 := q1.2
        exact ⟨w.1, w.2, isLong_iff.mp q5, isWord_iff.mp q6, (show t.toNat < _ by omega), (show n.toNat < _ by omega), (show st.toNat ≤ 6 by omega)⟩
      · exact h
    · exact h
end TD
end
section
set_option Elab.async false
namespace TD
open Drum DrumMachineSeed
/-! ### numbers -/
theorem comes_int (t p : Nat) (hp : p < 40) : (comes t p : Int) = t + ((p : Int) - t) % 40 := by
  unfold comes PLACES
  omega
theorem upper_neg {v : Int} (h : v < 0) : upper v = -((-v) / 10000000000) := by
  unfold upper signed
  rw [if_pos h, TEN_eq]
  omega
theorem upper_pos {v : Int} (h : ¬ v < 0) : upper v = v / 10000000000 := by
  unfold upper signed
  rw [if_neg h, TEN_eq]
  omega
theorem lower_neg {v : Int} (h : v < 0) : lower v = -((-v) % 10000000000) := by
  unfold lower signed
  rw [if_pos h, TEN_eq]
  omega
theorem lower_pos {v : Int} (h : ¬ v < 0) : lower v = v % 10000000000 := by
  unfold lower signed
  rw [if_neg h, TEN_eq]
  omega
theorem fitted_in {v : Int} (h : Lg v) : fitted v = (v, false) := by
  unfold fitted
  rw [if_pos (isLong_iff.mpr h)]
theorem fitted_neg {v : Int} (h : ¬ Lg v) (hv : v < 0) : fitted v = (-((-v) % 100000000000000000000), true) := by
  unfold fitted
  rw [if_neg (fun z => h (isLong_iff.mp z))]
  unfold signed
  rw [if_pos hv, TEN_eq]
  refine Prod.ext ?_ rfl
  show -((v.natAbs % (10000000000 * 10000000000) : Nat) : Int) = _
  omega
theorem fitted_pos {v : Int} (h : ¬ Lg v) (hv : ¬ v < 0) : fitted v = (v % 100000000000000000000, true) := by
  unfold fitted
  rw [if_neg (fun z => h (isLong_iff.mp z))]
  unfold signed
  rw [if_neg hv, TEN_eq]
  refine Prod.ext ?_ rfl
  show ((v.natAbs % (10000000000 * 10000000000) : Nat) : Int) = _
  omega
/-! ### the sum of digits -/
def dsum : Nat → Nat → Nat
  | 0, _ => 0
  | k + 1, n => n % 10 + dsum k (n / 10)
theorem digit_succ (n k : Nat) : digit n (k + 1) = digit (n / 10) k := by
  unfold digit
  rw [Nat.pow_succ, Nat.mul_comm, Nat.div_div_eq_div_mul]
theorem sumN_cons (x : Nat) (l : List Nat) : sumN (x :: l) = x + sumN l := rfl
theorem sum_digits : ∀ (k n : Nat), sumN ((List.range k).map fun i => digit n i) = dsum k n
  | 0, _ => rfl
  | k + 1, n => by
    rw [List.range_succ_eq_map, List.map_cons, sumN_cons, List.map_map]
    have e : ((fun i => digit n i) ∘ Nat.succ) = fun i => digit (n / 10) i := by
      funext i
      exact digit_succ n i
    rw [e, sum_digits k (n / 10)]
    show n / 10 ^ 0 % 10 + _ = _
    simp [dsum]
theorem digitSum_eq (v : Int) : digitSum v = dsum 20 v.natAbs := sum_digits 20 v.natAbs
theorem dsum_zero : ∀ k, dsum k 0 = 0
  | 0 => rfl
  | k + 1 => by
    show 0 % 10 + dsum k (0 / 10) = 0
    rw [Nat.zero_div, dsum_zero k]
theorem dsum_more : ∀ (k n : Nat), n < 10 ^ k → dsum (k + 1) n = dsum k n
  | 0, n, h => by
    have : n = 0 := by simpa using h
    subst this
    rfl
  | k + 1, n, h => by
    show n % 10 + dsum (k + 1) (n / 10) = n % 10 + dsum k (n / 10)
    rw [dsum_more k (n / 10) (by rw [Nat.pow_succ] at h; omega)]
/-- one digit of the loop -/
theorem dsum_step {k n : Nat} (h : n < 10 ^ k) : dsum k n = n % 10 + dsum k (n / 10) := by
  rw [← dsum_more k n h]
  rfl
theorem dsum_le : ∀ (k n : Nat), dsum k n ≤ 9 * k
  | 0, _ => Nat.le_refl _
  | k + 1, n => by
    show n % 10 + dsum k (n / 10) ≤ _
    have := dsum_le k (n / 10)
    omega
/-! ### how many digits -/
theorem digits_le_iff {n k : Nat} (hk : 0 < k) : digits n ≤ k ↔ n < 10 ^ k := by
  unfold digits
  by_cases h : n = 0
  · subst h
    simp
    exact Nat.pow_pos (by decide)
  · rw [if_neg h]
    exact Nat.length_toDigits_le_iff (by decide) hk
theorem digits_pos {n : Nat} (h : n ≠ 0) : 0 < digits n := by
  unfold digits
  rw [if_neg h]
  exact Nat.length_toDigits_pos
theorem digits_eq {n k : Nat} (h1 : 10 ^ k ≤ n) (h2 : n < 10 ^ (k + 1)) : digits n = k + 1 := by
  have hn : n ≠ 0 := by
    have := Nat.pow_pos (n := k) (show 0 < 10 by decide)
    omega
  have a := (digits_le_iff (n := n) (k := k + 1) (by omega)).mpr h2
  have b := digits_pos hn
  by_cases hk : k = 0
  · subst hk; omega
  · have c : ¬ digits n ≤ k := fun z => by
      have := (digits_le_iff (n := n) (k := k) (by omega)).mp z
      omega
    omega
theorem digits_ten {n : Nat} (h : n ≠ 0) : digits (n * 10) = digits n + 1 := by
  have hp := digits_pos h
  have a := (digits_le_iff (n := n) (k := digits n) hp).mp (Nat.le_refl _)
  refine digits_eq ?_ (by rw [Nat.pow_succ]; omega)
  by_cases hk : digits n = 1
  · rw [hk]; omega
  · have c : ¬ n < 10 ^ (digits n - 1) := fun z => by
      have := (digits_le_iff (n := n) (k := digits n - 1) (by omega)).mpr z
      omega
    have e : 10 ^ digits n = 10 ^ (digits n - 1) * 10 := by
      rw [← Nat.pow_succ, show (digits n - 1).succ = digits n by omega]
    rw [e]
    omega
theorem count_zero : count 0 = (0, 20) := by
  unfold count digits
  simp
theorem count_full {a : Int} (h1 : 10000000000000000000 ≤ a.natAbs) (h2 : Lg a) : count a = (a, 0) := by
  have e : digits a.natAbs = 20 := digits_eq (k := 19) h1 h2
  unfold count
  rw [if_neg (show ¬ a = 0 by omega), e]
  simp
theorem count_more {a : Int} (h0 : a ≠ 0) (h1 : a.natAbs < 10000000000000000000) : count a = ((count (a * 10)).1, (count (a * 10)).2 + 1) := by
  have e : digits (a * 10).natAbs = digits a.natAbs + 1 := by
    rw [Int.natAbs_mul]
    exact digits_ten (by omega)
  have hd : digits a.natAbs ≤ 19 := (digits_le_iff (by decide)).mpr h1
  unfold count
  rw [if_neg h0, if_neg (show ¬ a * 10 = 0 by omega), e]
  refine Prod.ext ?_ ?_
  · show a * 10 ^ (20 - digits a.natAbs) = a * 10 * 10 ^ (20 - (digits a.natAbs + 1))
    rw [Int.mul_assoc, show 20 - digits a.natAbs = (20 - (digits a.natAbs + 1)) + 1 by omega, Int.pow_succ, Int.mul_comm (10 ^ _) 10]
  · show 20 - digits a.natAbs = 20 - (digits a.natAbs + 1) + 1
    omega
/-! ### the notes of a drum -/
def noteOf (k : Nat) (v : Int) : List Int := if v = 0 then [] else [(k : Int), v]
theorem notes_take {l : List Int} {k : Nat} {v : Int} (h : l[k]? = some v) : notes (l.take (k + 1)) = notes (l.take k) ++ noteOf k v := by
  have e : l.take (k + 1) = l.take k ++ [v] := by
    rw [List.take_succ, h]
    rfl
  have hl : (l.take k).length = k := by
    rw [List.length_take]
    have := (List.getElem?_eq_some_iff.mp h).1
    omega
  unfold notes
  rw [e, List.zipIdx_append, List.flatMap_append, hl]
  congr 1
  simp [noteOf]
theorem notes_len : ∀ (l : List Int), (notes l).length ≤ 2 * l.length := by
  intro l
  unfold notes
  have : ∀ (l : List Int) (k : Nat), ((l.zipIdx k).flatMap fun (u : Int × Nat) => if u.1 = 0 then [] else [(u.2 : Int), u.1]).length ≤ 2 * l.length := by
    intro l
    induction l with
    | nil => intro k; simp
    | cons v r ih =>
      intro k
      rw [List.zipIdx_cons, List.flatMap_cons, List.length_append, List.length_cons]
      have := ih (k + 1)
      by_cases hv : v = 0
      · rw [if_pos hv]; simp at *; omega
      · rw [if_neg hv]; simp at *; omega
  exact this l 0
/-! ### cards -/
theorem eights_cons {f : Nat} {l : List Int} (h : l ≠ []) : eights (f + 1) l = l.take 8 :: eights f (l.drop 8) := by
  show (if l = [] then [] else _) = _
  rw [if_neg h]
theorem eights_nil (f : Nat) : eights f [] = [] := by
  cases f <;> rfl
/-- the fuel doesn't matter, once there's enough -/
theorem eights_fuel : ∀ (f g : Nat) (l : List Int), l.length ≤ f → l.length ≤ g → eights f l = eights g l
  | 0, g, l, h, _ => by
    have : l = [] := List.length_eq_zero_iff.mp (by omega)
    subst this
    rw [eights_nil, eights_nil]
  | f + 1, 0, l, _, h => by
    have : l = [] := List.length_eq_zero_iff.mp (by omega)
    subst this
    rw [eights_nil, eights_nil]
  | f + 1, g + 1, l, h1, h2 => by
    by_cases e : l = []
    · subst e; rw [eights_nil, eights_nil]
    · have hp : 0 < l.length := List.length_pos_iff.mpr e
      rw [eights_cons e, eights_cons e, eights_fuel f g (l.drop 8) (by rw [List.length_drop]; omega) (by rw [List.length_drop]; omega)]
def cardsOf (l : List Int) : List Card := eights (l.length + 1) l
theorem cardsOf_cons {l : List Int} (h : l ≠ []) : cardsOf l = l.take 8 :: cardsOf (l.drop 8) := by
  unfold cardsOf
  rw [eights_cons h]
  congr 1
  exact eights_fuel _ _ _ (by rw [List.length_drop]; omega) (by omega)
theorem cardsOf_nil : cardsOf [] = [] := rfl
/-! ### a run, order by order -/
theorem run_stop {k u : Nat} {m : Machine} {cards : List Card} (h : m.state ≠ 0 ∨ u ≤ m.tick) : Drum.run k u m cards = ⟨m, 0, 0, []⟩ := by
  cases k with
  | zero => rfl
  | succ k =>
    unfold Drum.run
    rw [if_pos h]
theorem run_go {k u : Nat} {m : Machine} {cards : List Card} (h : ¬ (m.state ≠ 0 ∨ u ≤ m.tick)) : Drum.run (k + 1) u m cards =
    (let x := m.step cards
     let r := Drum.run k u x.1 (if x.2.1 = true then cards.drop 1 else cards)
     ⟨r.m, r.begun + 1, r.read + (if x.2.1 = true then 1 else 0), x.2.2 ++ r.punched⟩) := by
  conv => lhs; unfold Drum.run
  rw [if_neg h]
end TD
end
section
set_option Elab.async false
namespace TD
open Drum DrumMachineSeed
/-! ### notes read pair by pair -/
def ends : List Int → Int → Int
  | [], f => f
  | [_], f => f
  | a :: _ :: r, _ => ends r (a + 1)
def badPair (f a v : Int) : Prop := a < f ∨ (WORDS : Int) ≤ a ∨ isWord v = false ∨ v = 0
instance dec_badPair (f a v : Int) : Decidable (badPair f a v) := by unfold badPair; infer_instance
theorem noted_bad {f a v : Int} {r : List Int} (h : badPair f a v) : noted (a :: v :: r) f = none := by
  show (if badPair f a v then none else _) = none
  exact if_pos h
theorem noted_good {f a v : Int} {r : List Int} (h : ¬ badPair f a v) : noted (a :: v :: r) f = (noted r (a + 1)).map fun l => (a.toNat, v) :: l := by
  show (if badPair f a v then none else _) = _
  exact if_neg h
theorem noted_app : ∀ {l : List Int} {f : Int} {z : List (Nat × Int)} (r : List Int), noted l f = some z → noted (l ++ r) f = (noted r (ends l f)).map (z ++ ·)
  | [], f, z, r, h => by
    cases h
    show noted r f = (noted r f).map _
    cases noted r f <;> rfl
  | [_], f, z, r, h => by cases h
  | a :: v :: l, f, z, r, h => by
    by_cases hb : badPair f a v
    · rw [noted_bad hb] at h; cases h
    · rw [noted_good hb] at h
      cases e : noted l (a + 1) with
      | none => rw [e] at h; cases h
      | some y =>
        rw [e] at h
        cases h
        show noted (a :: v :: (l ++ r)) f = (noted r (ends l (a + 1))).map _
        rw [noted_good hb, noted_app r e]
        cases noted r (ends l (a + 1)) <;> rfl
theorem noted_pair {l : List Int} {f : Int} {z : List (Nat × Int)} {a v : Int} (h : noted l f = some z) (hb : ¬ badPair (ends l f) a v) : noted (l ++ [a, v]) f = some (z ++ [(a.toNat, v)]) := by
  rw [noted_app _ h, noted_good hb]
  rfl
theorem noted_pair_bad {l r : List Int} {f : Int} {z : List (Nat × Int)} {a v : Int} (h : noted l f = some z) (hb : badPair (ends l f) a v) : noted (l ++ a :: v :: r) f = none := by
  rw [noted_app _ h, noted_bad hb]
  rfl
theorem noted_even : ∀ {l : List Int} {f : Int} {z : List (Nat × Int)}, noted l f = some z → l.length = 2 * z.length
  | [], f, z, h => by cases h; rfl
  | [_], f, z, h => by cases h
  | a :: v :: l, f, z, h => by
    by_cases hb : badPair f a v
    · rw [noted_bad hb] at h; cases h
    · rw [noted_good hb] at h
      cases e : noted l (a + 1) with
      | none => rw [e] at h; cases h
      | some y =>
        rw [e] at h
        cases h
        have := noted_even e
        simp only [List.length_cons]
        omega
theorem noted_odd {l : List Int} {f : Int} (h : l.length % 2 = 1) : noted l f = none := by
  cases e : noted l f with
  | none => rfl
  | some z =>
    have := noted_even e
    omega
theorem ends_pair : ∀ {l : List Int} {f a v : Int}, l.length % 2 = 0 → ends (l ++ [a, v]) f = a + 1
  | [], f, a, v, _ => rfl
  | [_], f, a, v, h => by simp at h
  | b :: u :: l, f, a, v, h => by
    show ends (l ++ [a, v]) (b + 1) = a + 1
    exact ends_pair (by simp only [List.length_cons] at h; omega)
theorem drumOf_snoc (z : List (Nat × Int)) (a : Nat) (v : Int) : drumOf (z ++ [(a, v)]) = (drumOf z).set a v := by
  unfold drumOf
  rw [List.foldl_append]
  rfl
/-! ### what was asked, by calls -/
theorem outs_len_pre {m : Machine} : ∀ (xs ys : List DrumMachineSeed.Call), (outs m xs).length ≤ (outs m (xs ++ ys)).length := by
  intro xs
  induction xs generalizing m with
  | nil => intro ys; simp [outs]
  | cons c r ih =>
    intro ys
    show (_ ++ outs _ r).length ≤ (_ ++ outs _ (r ++ ys)).length
    rw [List.length_append, List.length_append]
    have := ih (m := (DrumMachineSeed.step m c).1) ys
    omega
/-- the machine behind some calls -/
def after : Machine → List DrumMachineSeed.Call → Machine
  | s, [] => s
  | s, c :: r => after (DrumMachineSeed.step s c).1 r
theorem after_snoc : ∀ (s : Machine) (xs : List DrumMachineSeed.Call) (c : DrumMachineSeed.Call), after s (xs ++ [c]) = (DrumMachineSeed.step (after s xs) c).1
  | _, [], _ => rfl
  | s, x :: xs, c => after_snoc (DrumMachineSeed.step s x).1 xs c
theorem outs_snoc : ∀ (s : Machine) (xs : List DrumMachineSeed.Call) (c : DrumMachineSeed.Call), outs s (xs ++ [c]) = outs s xs ++ (((DrumMachineSeed.step (after s xs) c).2.length : Int) :: (DrumMachineSeed.step (after s xs) c).2)
  | _, [], c => by
    show (_ ++ ([] : List Int)) = [] ++ _
    rw [List.append_nil, List.nil_append]
    rfl
  | s, x :: xs, c => by
    show (_ ++ outs _ (xs ++ [c])) = (_ ++ outs _ xs) ++ _
    rw [outs_snoc, List.append_assoc]
    rfl
theorem after_wf {s : Machine} (h : WF s) : ∀ (xs : List DrumMachineSeed.Call), WF (after s xs) := by
  intro xs
  induction xs generalizing s with
  | nil => exact h
  | cons c r ih => exact ih (wf_step h c)
theorem flat_pos (c : DrumMachineSeed.Call) : 0 < (flat c).length := by
  cases c <;> simp [flat]
end TD
end
section
set_option Elab.async false
namespace TD
open Drum DrumMachineSeed
/-! ### signs, quotients -/
def sgn (n s : Int) : Int := if n < 0 then -s else s
theorem abs_if (n : Int) : (if n < 0 then -n else n) = (n.natAbs : Int) := by split <;> omega
theorem sgn_nat (n : Int) (k : Nat) : sgn n (k : Int) = signed n k := rfl
theorem td_eq {n d : Int} (h : d ≠ 0) : sgn (n * d) ((if n < 0 then -n else n) / (if d < 0 then -d else d)) = n.tdiv d := by
  unfold sgn
  by_cases hn : n < 0
  · have e : n.tdiv d = -((-n) / d) := by
      have := Int.tdiv_eq_ediv_of_nonneg (a := -n) (b := d) (by omega)
      rw [Int.neg_tdiv] at this
      omega
    rw [if_pos hn, e]
    by_cases hd : d < 0
    · have hp : ¬ n * d < 0 := by
        have := Int.mul_pos_of_neg_of_neg hn hd
        omega
      rw [if_pos hd, if_neg hp, Int.ediv_neg]
    · have hp : n * d < 0 := Int.mul_neg_of_neg_of_pos hn (by omega)
      rw [if_neg hd, if_pos hp]
  · have e : n.tdiv d = n / d := Int.tdiv_eq_ediv_of_nonneg (by omega)
    rw [if_neg hn, e]
    by_cases hd : d < 0
    · rw [if_pos hd, Int.ediv_neg]
      by_cases h0 : n = 0
      · subst h0; simp
      · have hp : n * d < 0 := Int.mul_neg_of_pos_of_neg (by omega) hd
        rw [if_pos hp, Int.neg_neg]
    · have hp : ¬ n * d < 0 := by
        have := Int.mul_nonneg (a := n) (b := d) (by omega) (by omega)
        omega
      rw [if_neg hd, if_neg hp]
theorem tdiv_upper (v : Int) : v.tdiv 10000000000 = upper v := by
  by_cases hv : v < 0
  · rw [upper_neg hv]
    have := Int.tdiv_eq_ediv_of_nonneg (a := -v) (b := 10000000000) (by omega)
    rw [Int.neg_tdiv] at this
    omega
  · rw [upper_pos hv]
    exact Int.tdiv_eq_ediv_of_nonneg (by omega)
theorem sgn_lower (v : Int) : sgn v ((v.natAbs : Int) % 10000000000) = lower v := rfl
def low20 (v : Int) : Int := signed v (v.natAbs % (TEN * TEN))
theorem sgn_low20 (v : Int) : sgn v ((v.natAbs : Int) % 100000000000000000000) = low20 v := rfl
theorem signed_self (v : Int) : signed v v.natAbs = v := by
  unfold signed
  split <;> omega
theorem fitted_low (v : Int) : (fitted v).1 = low20 v := by
  unfold fitted low20
  split
  · rename_i h
    have h' := isLong_iff.mp h
    unfold Lg at h'
    rw [Nat.mod_eq_of_lt (by unfold TEN; omega), signed_self]
  · rfl
theorem fitted_over (v : Int) : (fitted v).2 = !isLong v := by
  unfold fitted
  cases h : isLong v <;> simp
theorem tdiv_pow (v : Int) (k : Nat) : v.tdiv (10 ^ k) = right v k := by
  have hp : (0 : Int) < 10 ^ k := Int.pow_pos (by decide)
  have e : ((10 ^ k : Nat) : Int) = 10 ^ k := by simp
  unfold right signed
  by_cases hv : v < 0
  · rw [if_pos hv]
    have := Int.tdiv_eq_ediv_of_nonneg (a := -v) (b := 10 ^ k) (by omega)
    rw [Int.neg_tdiv] at this
    rw [Int.natCast_ediv, e]
    have ea : (v.natAbs : Int) = -v := by omega
    rw [ea]
    first | done | omega
  · rw [if_neg hv, Int.natCast_ediv, e, show (v.natAbs : Int) = v by omega]
    exact Int.tdiv_eq_ediv_of_nonneg (by omega)
theorem sgn_round (v : Int) (k : Nat) : sgn v ((2 * (v.natAbs : Int) + 10 ^ k) / (2 * 10 ^ k)) = round v k := by
  unfold round
  rw [← sgn_nat]
  congr 1
/-! ### around the band -/
theorem around_int (a : Nat) : (around a 1 : Int) = if (((a : Int) + 1) % 40) = 0 then (a : Int) + 1 - 40 else (a : Int) + 1 := by
  unfold around PLACES
  split <;> omega
theorem around_succ (a k : Nat) : around (around a k) 1 = around a (k + 1) := by
  unfold around PLACES
  omega
theorem around_zero (a : Nat) : around a 0 = a := by
  unfold around PLACES
  omega
theorem around_lt {a : Nat} (h : a < 2000) (k : Nat) : around a k < 2000 := by
  unfold around PLACES
  omega
theorem comes_wait (t a : Nat) : (comes t (place a) : Int) = (t : Int) + ((a : Int) - t) % 40 := by
  unfold comes place PLACES
  omega
/-- the band's words from an address on -/
def rot (xs : List Int) (a : Nat) : List Int := (List.range 40).map fun k => xs.getD (around a k) 0
theorem rot_eq {xs : List Int} {a : Nat} (hl : xs.length = 2000) (ha : a < 2000) : (xs.drop a).take (a - a % 40 + 40 - a) ++ (xs.drop (a - a % 40)).take (a - (a - a % 40)) = rot xs a := by
  have hm : a % 40 < 40 := Nat.mod_lt _ (by decide)
  have hb : a - a % 40 + 40 ≤ 2000 := by omega
  unfold rot
  refine List.ext_getElem ?_ ?_
  · rw [List.length_append, List.length_take, List.length_take, List.length_drop, List.length_drop, List.length_map, List.length_range, hl]
    omega
  · intro k h1 h2
    have hk : k < 40 := by
      rw [List.length_map, List.length_range] at h2
      exact h2
    rw [List.getElem_map, List.getElem_range]
    by_cases c : k < 40 - a % 40
    · rw [List.getElem_append_left (by rw [List.length_take, List.length_drop, hl]; omega), List.getElem_take, List.getElem_drop]
      have e : around a k = a + k := by unfold around PLACES; omega
      rw [e, List.getD_eq_getElem?_getD, List.getElem?_eq_getElem (by omega)]
      rfl
    · rw [List.getElem_append_right (by rw [List.length_take, List.length_drop, hl]; omega), List.getElem_take, List.getElem_drop]
      have e : around a k = a - a % 40 + (k - (40 - a % 40)) := by unfold around PLACES; omega
      have e2 : k - ((xs.drop a).take (a - a % 40 + 40 - a)).length = k - (40 - a % 40) := by
        rw [List.length_take, List.length_drop, hl]
        omega
      rw [e, List.getD_eq_getElem?_getD, List.getElem?_eq_getElem (by omega)]
      simp only [e2, Option.getD_some]
/-! ### orders -/
theorem code_int {v : Int} (h : 0 ≤ v) : ((orderOf v).code : Int) = v / 100000000 := by
  unfold orderOf
  show ((v.natAbs / 100000000 : Nat) : Int) = _
  omega
theorem data_int {v : Int} (h : 0 ≤ v) : ((orderOf v).d : Int) = v / 10000 % 10000 := by
  unfold orderOf
  show ((v.natAbs / 10000 % 10000 : Nat) : Int) = _
  omega
theorem next_int {v : Int} (h : 0 ≤ v) : ((orderOf v).n : Int) = v % 10000 := by
  unfold orderOf
  show ((v.natAbs % 10000 : Nat) : Int) = _
  omega
theorem code_lt {v : Int} (h : Wd v) : (orderOf v).code < 100 := by
  unfold Wd at h
  unfold orderOf
  show v.natAbs / 100000000 < 100
  omega
theorem d_lt (v : Int) : (orderOf v).d < 10000 := Nat.mod_lt _ (by decide)
theorem n_lt (v : Int) : (orderOf v).n < 10000 := Nat.mod_lt _ (by decide)
/-- the state in which a word stops the machine; 0: it goes on -/
def stopOf (v : Int) (card : Bool) : Nat := match faultOf v card with
  | some f => f
  | none => if (orderOf v).code = 0 then 1 else 0
theorem stop_eq (v : Int) (b : Bool) : stopOf v b = if v < 0 then 2 else if known (orderOf v).code = false then 3 else if (orderOf v).code = 0 then 1 else if 2000 ≤ (orderOf v).n then 4 else
    if addresses (orderOf v).code = true ∧ 2000 ≤ (orderOf v).d then 4 else if 40 ≤ (orderOf v).code ∧ (orderOf v).code ≤ 42 ∧ 20 < (orderOf v).d then 5 else if (orderOf v).code = 70 ∧ b = false then 6 else 0 := by
  unfold stopOf faultOf
  simp only
  by_cases h1 : v < 0
  · rw [if_pos h1, if_pos h1]
  · rw [if_neg h1, if_neg h1]
    by_cases h2 : known (orderOf v).code = false
    · rw [if_pos h2, if_pos h2]
    · rw [if_neg h2, if_neg h2]
      by_cases h3 : (orderOf v).code = 0
      · have ha : addresses (orderOf v).code = false := by rw [h3]; rfl
        rw [if_pos h3, if_neg (by rw [ha]; simp [h3]), if_neg (by omega), if_neg (by omega)]
        simp [h3]
      · simp only [if_neg h3]
        by_cases h4 : 2000 ≤ (orderOf v).n
        · rw [if_pos h4, if_pos (.inl ⟨h3, h4⟩)]
        · rw [if_neg h4]
          by_cases h5 : addresses (orderOf v).code = true ∧ 2000 ≤ (orderOf v).d
          · rw [if_pos h5, if_pos (.inr h5)]
          · rw [if_neg h5, if_neg (fun z => z.elim (fun q => h4 q.2) h5)]
            by_cases h6 : 40 ≤ (orderOf v).code ∧ (orderOf v).code ≤ 42 ∧ 20 < (orderOf v).d
            · rw [if_pos h6, if_pos h6]
            · rw [if_neg h6, if_neg h6]
              by_cases h7 : (orderOf v).code = 70 ∧ b = false
              · rw [if_pos h7, if_pos h7]
              · rw [if_neg h7, if_neg h7]
theorem log2_small {n : Nat} (h : n < 10000) : ((n : Int)).natAbs.log2 < 1920 := by
  show n.log2 < 1920
  by_cases h0 : n = 0
  · subst h0; decide
  · exact Nat.lt_trans ((Nat.log2_lt h0).mpr (show n < 2 ^ 14 by omega)) (by decide)
theorem waits_known : ∀ c < 100, known c = true → ((decide (10 ≤ c) && decide (c ≤ 32)) || c == 60) = Drum.waits c := by decide
theorem addr_not0 {c : Nat} (h : c ≠ 0) : addresses c = (!(c == 1) && !(decide (40 ≤ c) && decide (c ≤ 43))) := by
  unfold addresses
  have e : (c == 0) = false := by simpa using h
  rw [e]
  simp
end TD
end
section
set_option Elab.async false
namespace TD
open Drum DrumMachineSeed
/-! ### one order, its parts -/
def putN (xs : List Int) (x : Nat) (card : List Int) (i : Nat) : List Int := (List.range i).foldl (fun z j => z.set (Drum.around x j) (card.getD j 0)) xs
theorem putN_succ (xs : List Int) (x : Nat) (card : List Int) (i : Nat) : putN xs x card (i + 1) = (putN xs x card i).set (Drum.around x i) (card.getD i 0) := by
  unfold putN
  rw [List.range_succ, List.foldl_append]
  rfl
theorem putN_len (xs : List Int) (x : Nat) (card : List Int) : ∀ i, (putN xs x card i).length = xs.length
  | 0 => rfl
  | i + 1 => by rw [putN_succ, List.length_set, putN_len xs x card i]
theorem put_fold (m : Machine) (x : Nat) (card : List Int) : ∀ i, (List.range i).foldl (fun (z : Machine) (k : Nat) => z.put (around x k) (card.getD k 0)) m = { m with drum := putN m.drum x card i }
  | 0 => rfl
  | i + 1 => by
    rw [List.range_succ, List.foldl_append, put_fold m x card i, putN_succ]
    rfl
def actedC (m : Machine) (o : Order) (card : Card) : Machine := { (does m o card).m with next := if (does m o card).jump = true then o.d else m.next }
def ticksC (m : Machine) (o : Order) (card : Card) : Nat := (does m o card).behind + if o.code = 60 then (lookUp m o.d m.d).getD 39 else 0
theorem does_card {m : Machine} {o : Order} (card : Card) (h : o.code ≠ 70) : does m o card = does m o [] := by
  unfold does
  split <;> first | rfl | (rename_i e; exact absurd e h)
theorem does_next (m : Machine) (n : Nat) (o : Order) (card : Card) : does { m with next := n } o card = { does m o card with m := { (does m o card).m with next := n } } := by
  unfold does
  split
  case h_10 =>
    show (if (by_ m.a m.d).2.2 = true then _ else _) = _
    by_cases h : (by_ m.a m.d).2.2 = true
    · simp only [if_pos h]
      rfl
    · simp only [if_neg h]
      rfl
  case h_21 =>
    show (match lookUp m o.d m.d with | some k => _ | none => _) = _
    cases lookUp m o.d m.d <;> rfl
  case h_22 =>
    rw [put_fold, put_fold]
    rfl
  all_goals rfl
theorem fault_of_stop {v : Int} {b : Bool} (h : stopOf v b = 0) : faultOf v b = none ∧ (orderOf v).code ≠ 0 := by
  unfold stopOf at h
  cases e : faultOf v b with
  | some f =>
    rw [e] at h
    have := fault_le e
    have h' : f = 0 := h
    omega
  | none =>
    rw [e] at h
    refine ⟨rfl, fun z => ?_⟩
    have h' : (if (orderOf v).code = 0 then 1 else 0) = 0 := h
    rw [if_pos z] at h'
    cases h'
theorem step_stop {m : Machine} {cards : List Card} (h : stopOf (m.at_ m.next) (!cards.isEmpty) ≠ 0) : m.step cards = ({ m with tick := (comes m.tick (place m.next) + 3) % WRAP, state := stopOf (m.at_ m.next) (!cards.isEmpty) }, false, []) := by
  unfold Machine.step stopOf at *
  simp only at *
  cases e : faultOf (m.at_ m.next) (!cards.isEmpty) with
  | some f => rfl
  | none =>
    rw [e] at h
    by_cases z : (orderOf (m.at_ m.next)).code = 0
    · simp only [if_pos z]
    · simp only [if_neg z] at h
      exact absurd rfl h
theorem step_go {m : Machine} {cards : List Card} (h : stopOf (m.at_ m.next) (!cards.isEmpty) = 0) : m.step cards =
    ({ (does (loaded m (orderOf (m.at_ m.next))) (orderOf (m.at_ m.next)) (cards.headD [])).m with
        tick := (passed m (orderOf (m.at_ m.next)) (comes m.tick (place m.next) + 3) + (does (loaded m (orderOf (m.at_ m.next))) (orderOf (m.at_ m.next)) (cards.headD [])).behind) % WRAP,
        next := if (does (loaded m (orderOf (m.at_ m.next))) (orderOf (m.at_ m.next)) (cards.headD [])).jump = true then (orderOf (m.at_ m.next)).d else (orderOf (m.at_ m.next)).n },
      (orderOf (m.at_ m.next)).code == 70, (does (loaded m (orderOf (m.at_ m.next))) (orderOf (m.at_ m.next)) (cards.headD [])).out) := by
  obtain ⟨h1, h2⟩ := fault_of_stop h
  unfold Machine.step
  simp only
  rw [h1]
  simp only [if_neg h2]
def waitedTo (o : Order) (t : Nat) : Nat := if waits o.code = true then comes t (place o.d) + 1 else t
theorem carry_eq (m : Machine) (o : Order) (card : Card) (t : Nat) :
    { actedC { loaded m o with next := o.n } o card with tick := (waitedTo o t + ticksC { loaded m o with next := o.n } o card) % WRAP } =
    { (does (loaded m o) o card).m with tick := (passed m o t + (does (loaded m o) o card).behind) % WRAP, next := if (does (loaded m o) o card).jump = true then o.d else o.n } := by
  have e1 : waitedTo o t + ticksC { loaded m o with next := o.n } o card = passed m o t + (does (loaded m o) o card).behind := by
    unfold waitedTo ticksC passed
    rw [does_next]
    show _ + ((does (loaded m o) o card).behind + if o.code = 60 then (lookUp (loaded m o) o.d (loaded m o).d).getD 39 else 0) = _
    by_cases h6 : o.code = 60
    · have w : waits o.code = true := by rw [h6]; rfl
      have l : loaded m o = m := by
        unfold loaded
        rw [if_neg (by rw [h6]; decide)]
      simp only [if_pos w, if_pos h6, l]
      omega
    · simp only [if_neg h6]
      split <;> omega
  rw [e1]
  unfold actedC
  rw [does_next]
theorem out_len {m : Machine} {o : Order} {card : Card} : (does m o card).out.flatten.length ≤ 8 := by
  unfold does
  split
  case h_10 => split <;> exact Nat.zero_le _
  case h_21 => split <;> exact Nat.zero_le _
  case h_23 => simp
  all_goals exact Nat.zero_le _
theorem step_out_len (m : Machine) (cards : List Card) : (m.step cards).2.2.flatten.length ≤ 8 := by
  by_cases h : stopOf (m.at_ m.next) (!cards.isEmpty) = 0
  · rw [step_go h]
    exact out_len
  · rw [step_stop h]
    exact Nat.zero_le _
/-! ### the cards that are left -/
theorem cards_empty (l : List Int) : (!(cardsOf l).isEmpty) = decide (0 < l.length) := by
  by_cases h : l = []
  · subst h; rfl
  · rw [cardsOf_cons h]
    have : 0 < l.length := List.length_pos_iff.mpr h
    simp [this]
theorem cards_left (ws : List Int) (k : Nat) : (!(cardsOf (ws.drop (k * 8))).isEmpty) = decide (k * 8 < ws.length) := by
  rw [cards_empty, List.length_drop]
  by_cases h : k * 8 < ws.length
  · rw [decide_eq_true h, decide_eq_true (by omega)]
  · rw [decide_eq_false h, decide_eq_false (by omega)]
theorem cards_head {ws : List Int} {k : Nat} (h : k * 8 < ws.length) : (cardsOf (ws.drop (k * 8))).headD [] = (ws.drop (k * 8)).take 8 := by
  rw [cardsOf_cons]
  · rfl
  · intro z
    have := congrArg List.length z
    rw [List.length_drop] at this
    simp at this
    omega
theorem cards_headAll (ws : List Int) (k : Nat) : (cardsOf (ws.drop (k * 8))).headD [] = (ws.drop (k * 8)).take 8 := by
  by_cases h : k * 8 < ws.length
  · exact cards_head h
  · rw [List.drop_of_length_le (by omega)]
    rfl
theorem cards_next {ws : List Int} {k : Nat} (h : k * 8 < ws.length) : (cardsOf (ws.drop (k * 8))).drop 1 = cardsOf (ws.drop ((k + 1) * 8)) := by
  rw [cardsOf_cons]
  · show cardsOf ((ws.drop (k * 8)).drop 8) = _
    rw [List.drop_drop]
    congr 2
    omega
  · intro z
    have := congrArg List.length z
    rw [List.length_drop] at this
    simp at this
    omega
theorem read_left {m : Machine} {ws : List Int} {k : Nat} (h : (m.step (cardsOf (ws.drop (k * 8)))).2.1 = true) : k * 8 < ws.length := by
  by_cases hs : stopOf (m.at_ m.next) (!(cardsOf (ws.drop (k * 8))).isEmpty) = 0
  · have f := fault_none (fault_of_stop hs).1
    rw [step_go hs] at h
    have h7 : (orderOf (m.at_ m.next)).code = 70 := by simpa using h
    have := f.2.2.2.2.2 h7
    rw [cards_left] at this
    exact of_decide_eq_true this
  · rw [step_stop hs] at h
    cases h
theorem words_left {ws : List Int} (h : ∀ v ∈ ws, Wd v) (k : Nat) : ∀ c ∈ cardsOf (ws.drop k), ∀ v ∈ c, Wd v := eights_wd _ fun v hv => h v (List.mem_of_mem_drop hv)
def actCodes : List Nat := [1, 10, 11, 12, 13, 14, 15, 16, 17, 18, 20, 21, 30, 31, 32, 40, 41, 42, 43, 50, 51, 52, 60]
theorem codes_all : ∀ c < 100, (!known c || (c == 0 || (c == 70 || (c == 71 || actCodes.contains c)))) = true := by decide
theorem codes_act {c : Nat} (h : c < 100) (hk : known c = true) (h0 : c ≠ 0) (h7 : c ≠ 70) (h8 : c ≠ 71) : c ∈ actCodes := by
  have z := codes_all c h
  rw [hk, show (c == 0) = false by simpa using h0, show (c == 70) = false by simpa using h7, show (c == 71) = false by simpa using h8] at z
  exact List.contains_iff_mem.mp z
theorem at_nat71 (m : Machine) (d : Nat) : ((List.range 8).map fun (k : Nat) => m.at_ (around d k)) = (rot m.drum d).take 8 := by
  unfold rot
  rw [← List.map_take]
  rfl
end TD
end
section
set_option Elab.async false
namespace TD
open Drum DrumMachineSeed
theorem ends_ge : ∀ {l : List Int} {f : Int} {z : List (Nat × Int)}, noted l f = some z → f ≤ ends l f
  | [], f, z, _ => Int.le_refl _
  | [_], f, z, h => by cases h
  | a :: v :: l, f, z, h => by
    by_cases hb : badPair f a v
    · rw [noted_bad hb] at h; cases h
    · rw [noted_good hb] at h
      cases e : noted l (a + 1) with
      | none => rw [e] at h; cases h
      | some y =>
        have := ends_ge e
        have ha : ¬ a < f := fun z => hb (.inl z)
        show f ≤ ends l (a + 1)
        omega
/-- the pair at 2 i -/
theorem take_pair {ns : List Int} {i : Nat} (h : 2 * i + 1 < ns.length) : ns.take (2 * (i + 1)) = ns.take (2 * i) ++ [ns.getD (2 * i) 0, ns.getD (2 * i + 1) 0] := by
  rw [show 2 * (i + 1) = 2 * i + 1 + 1 by omega, List.take_succ, List.take_succ]
  rw [List.getD_eq_getElem?_getD, List.getD_eq_getElem?_getD, List.getElem?_eq_getElem h, List.getElem?_eq_getElem (show 2 * i < ns.length by omega), List.append_assoc]
  rfl
theorem split_pair {ns : List Int} {i : Nat} (h : 2 * i + 1 < ns.length) : ns = ns.take (2 * i) ++ (ns.getD (2 * i) 0 :: ns.getD (2 * i + 1) 0 :: ns.drop (2 * (i + 1))) := by
  have e := List.take_append_drop (2 * (i + 1)) ns
  rw [take_pair h, List.append_assoc] at e
  exact e.symm
theorem take_even {ns : List Int} {i : Nat} (h : 2 * i ≤ ns.length) : (ns.take (2 * i)).length % 2 = 0 := by
  rw [List.length_take]
  omega
theorem run_len : ∀ (n t : Nat) (m : Machine) (cards : List Card), (Drum.run n t m cards).punched.flatten.length ≤ 8 * n
  | 0, _, _, _ => Nat.le_refl _
  | n + 1, t, m, cards => by
    by_cases h : m.state ≠ 0 ∨ t ≤ m.tick
    · rw [run_stop h]
      exact Nat.zero_le _
    · rw [run_go h]
      simp only [List.flatten_append, List.length_append]
      have a := step_out_len m cards
      have b := run_len n t (m.step cards).1 (if (m.step cards).2.1 = true then cards.drop 1 else cards)
      omega
/-! ### a call by its parts -/
def numOf : DrumMachineSeed.Call → Int
  | .new _ => 1
  | .poke _ _ => 2
  | .peek _ => 3
  | .told => 4
  | .run _ _ _ => 5
  | .order _ => 6
  | .drum => 7
  | .load _ _ _ _ _ _ _ => 8
def argsOf : DrumMachineSeed.Call → List Int
  | .new s => [s]
  | .poke a v => [a, v]
  | .peek a => [a]
  | .told => []
  | .run o u _ => [o, u]
  | .order v => [v]
  | .drum => []
  | .load st ov n t a d _ => [st, ov, n, t, a, d]
def numsOf : DrumMachineSeed.Call → List Int
  | .run _ _ c => c
  | .load _ _ _ _ _ _ l => l
  | _ => []
def listed : DrumMachineSeed.Call → Bool
  | .run _ _ _ => true
  | .load _ _ _ _ _ _ _ => true
  | _ => false
theorem flat_plain {c : DrumMachineSeed.Call} (h : listed c = false) : flat c = numOf c :: argsOf c ∧ numsOf c = [] := by
  cases c <;> first | exact ⟨rfl, rfl⟩ | cases h
theorem flat_list {c : DrumMachineSeed.Call} (h : listed c = true) : flat c = numOf c :: (argsOf c ++ ((numsOf c).length : Int) :: numsOf c) := by
  cases c <;> first | rfl | cases h
end TD
end
section
set_option Elab.async false
set_option linter.all false
set_option maxRecDepth 100000
namespace TD
open PySem PySem.Spec PyProof.Rows L2
/-! ### readings, one a rule: what stands left is the goal, what is asked stands as premises -/
section
variable {σ : L2.St} {H : Hp} {Q : VK} {D : Ends}
theorem r_var {i : Nat} {v : V} (h : σ[i]? = some (some v)) (q : Q v H) : tVar i σ H Q := ⟨v, h, q⟩
theorem r_c {v : V} (q : Q v H) : tC v σ H Q := q
theorem r_op {r : R2} {ta tb : TE} (q : ta σ H fun x H1 => tb σ H1 fun y H2 => r x y H2 Q) : tOp r ta tb σ H Q := q
theorem r_un {r : V → Hp → VK → Prop} {ta : TE} (q : ta σ H fun x H1 => r x H1 Q) : tUn r ta σ H Q := q
theorem r_i0 {g : Int → Int → V} {i j : Int} (q : Q (g i j) H) : rI0 g (.int i) (.int j) H Q := ⟨i, j, rfl, rfl, q⟩
theorem r_i {C : Int → Int → Prop} {g : Int → Int → V} {i j : Int} (c : C i j) (q : Q (g i j) H) : rI C g (.int i) (.int j) H Q := ⟨i, j, rfl, rfl, c, q⟩
theorem r_u {g : Int → V} {i : Int} (q : Q (g i) H) : rU g (.int i) H Q := ⟨i, rfl, q⟩
theorem dec_eqI (i j : Int) : decide (V.int i = V.int j) = decide (i = j) := by
  by_cases e : i = j
  · subst e; simp
  · rw [decide_eq_false e, decide_eq_false (fun z => e (V.int.inj z))]
theorem r_eqI {i j : Int} (q : Q (.bl (decide (i = j))) H) : rEq (.int i) (.int j) H Q := ⟨rfl, by rw [dec_eqI]; exact q⟩
theorem r_neI {i j : Int} (q : Q (.bl (!decide (i = j))) H) : rNe (.int i) (.int j) H Q := ⟨rfl, by rw [dec_eqI]; exact q⟩
theorem r_test {t : TE} {Qb : Bool → Hp → Prop} (q : t σ H fun x H' => ∃ k, x = .bl k ∧ Qb k H') : tTest t σ H Qb := q
theorem r_tB {t : TE} {Qb : Bool → Hp → Prop} (q : t σ H fun x H' => ∃ k, x = .bl k ∧ Qb k H') : tB t σ H Qb := q
theorem r_bl {c : Bool} {Qb : Bool → Prop} (q : Qb c) : ∃ k, V.bl c = .bl k ∧ Qb k := ⟨c, rfl, q⟩
theorem r_and {t u : TT} {Qb : Bool → Hp → Prop} (q : t σ H fun c H1 => if c = true then u σ H1 Qb else Qb false H1) : tAnd t u σ H Qb := q
theorem r_or {t u : TT} {Qb : Bool → Hp → Prop} (q : t σ H fun c H1 => if c = true then Qb true H1 else u σ H1 Qb) : tOr t u σ H Qb := q
theorem r_not {t : TT} {Qb : Bool → Hp → Prop} (q : t σ H fun c H1 => Qb (!c) H1) : tNot t σ H Qb := q
theorem r_andV {ta tb : TE} (q : ta σ H fun x H1 => ∃ c, x = .bl c ∧ if c = true then tb σ H1 Q else Q (.bl false) H1) : tAndV ta tb σ H Q := q
theorem r_orV {ta tb : TE} (q : ta σ H fun x H1 => ∃ c, x = .bl c ∧ if c = true then Q (.bl true) H1 else tb σ H1 Q) : tOrV ta tb σ H Q := q
theorem r_notV {ta : TE} (q : ta σ H fun x H1 => ∃ c, x = .bl c ∧ Q (.bl (!c)) H1) : tNotV ta σ H Q := q
theorem r_if {t : TT} {ta tb : TE} (q : t σ H fun c H1 => if c = true then ta σ H1 Q else tb σ H1 Q) : tIf t ta tb σ H Q := q
theorem r_chain {r r' : R2} {ta tb tc : TE} (q : ta σ H fun x H1 => tb σ H1 fun y H2 => r x y H2 fun z H3 => ∃ k, z = .bl k ∧ (if k = true then tc σ H3 fun w' H4 => r' y w' H4 Q else Q (.bl false) H3)) : tChain r r' ta tb tc σ H Q := q
theorem r_nil {Qa : List V → Hp → Prop} (q : Qa [] H) : tNil σ H Qa := q
theorem r_cons {ta : TE} {tr : TA} {Qa : List V → Hp → Prop} (q : ta σ H fun x H1 => tr σ H1 fun xs H2 => Qa (x :: xs) H2) : tCons ta tr σ H Qa := q
theorem r_next (q : D.nx σ H) : tNext D σ H := q
theorem r_seq {t u : TS} (q : t { D with nx := u D } σ H) : tSeq t u D σ H := q
theorem r_drop {te : TE} (q : te σ H fun _ H1 => D.nx σ H1) : tDrop te D σ H := q
theorem r_ret {te : TE} (q : te σ H D.rt) : tRet te D σ H := q
theorem r_ifS {c : TT} {t u : TS} (q : c σ H fun b H1 => if b = true then t D σ H1 else u D σ H1) : tIfS c t u D σ H := q
theorem r_asg {te : TE} {g : TG} (q : te σ H fun x H1 => g x σ H1 D.nx) : tAsg te g D σ H := q
theorem r_name {i : Nat} {v : V} {Qs : L2.St → Hp → Prop} (q : Qs (σ.set i (some v)) H) : gName i v σ H Qs := q
theorem r_sub {to ti : TE} {t : TSet} {v : V} {Qs : L2.St → Hp → Prop} (q : to σ H fun o H1 => ti σ H1 fun i H2 => t o i v H2 fun H3 => Qs σ H3) : gSub to ti t v σ H Qs := q
theorem r_setL {p : Addr} {xs : List V} {k : Int} {j : Nat} {v : V} {Qh : Hp → Prop} (h : H p = some (.lst xs)) (hj : ixN xs.length k = some j) (q : Qh (upd H p (.lst (xs.set j v)))) : rSetL (.ref p) (.int k) v H Qh := ⟨p, xs, k, j, rfl, rfl, h, hj, q⟩
theorem r_lst {t : TA} (q : t σ H fun xs H1 => xs.length ≤ sizeLine ∧ ∀ p, H1 p = none → Q (.ref p) (upd H1 p (.lst xs))) : tLst t σ H Q := q
theorem r_call {sp : Sp} {dvs : List V} {E : XK} {t : TA} (q : t σ H fun vs H1 => sp (vs ++ dvs) H1 Q E) : tCall sp dvs E t σ H Q := q
theorem r_cb {r : List V → Hp → VK → Prop} {t : TA} (q : t σ H fun vs H1 => r vs H1 Q) : tCB r t σ H Q := q
theorem r_fldT {K : PySem.W.Frag} {ta : TE} {f : Str} (q : ta σ H fun x H1 => ∃ a C dx fs v, x = .ref a ∧ H1 a = some (.ins C dx fs) ∧ Cls K C ∧ NoAttr K C f ∧ fs.lookup f = some v ∧ Q v H1) : tFld K ta f σ H Q := q
theorem r_fld {K : PySem.W.Frag} {f : Str} {p C dx : Addr} {fs : List (Str × V)} {v : V} {R : V → Prop} (h : H p = some (.ins C dx fs)) (cl : Cls K C) (na : NoAttr K C f) (lk : fs.lookup f = some v) (q : R v) :
    ∃ a C dx fs v, V.ref p = .ref a ∧ H a = some (.ins C dx fs) ∧ Cls K C ∧ NoAttr K C f ∧ fs.lookup f = some v ∧ R v := ⟨p, C, dx, fs, v, rfl, h, cl, na, lk, q⟩
theorem r_sfldT {K : PySem.W.Frag} {ta tv : TE} {f : Str} (q : tv σ H fun y H1 => ta σ H1 fun x H2 => ∃ a C dx fs, x = .ref a ∧ H2 a = some (.ins C dx fs) ∧ Cls K C ∧ NoAttr K C f ∧ fs.length < 1000 ∧ D.nx σ (upd H2 a (.ins C dx (putF f y fs)))) : sFld K ta tv f D σ H := q
theorem r_sfld {K : PySem.W.Frag} {f : Str} {p C dx : Addr} {fs fs' : List (Str × V)} {y : V} {R : Hp → Prop} (h : H p = some (.ins C dx fs)) (cl : Cls K C) (na : NoAttr K C f) (hl : fs.length < 1000) (e : putF f y fs = fs') (q : R (upd H p (.ins C dx fs'))) :
    ∃ a C dx fs, V.ref p = .ref a ∧ H a = some (.ins C dx fs) ∧ Cls K C ∧ NoAttr K C f ∧ fs.length < 1000 ∧ R (upd H a (.ins C dx (putF f y fs))) := ⟨p, C, dx, fs, rfl, h, cl, na, hl, by rw [e]; exact q⟩
theorem r_ixL {K : PySem.W.Frag} {p : Addr} {xs : List V} {i : Int} {v : V} (h : SqL K H p xs) (hv : atI xs i = some v) (q : Q v H) : rIxL K (.ref p) (.int i) H Q := ⟨p, xs, i, v, rfl, rfl, h, hv, q⟩
theorem r_bm {K : PySem.W.Frag} {T : String} {r : V → List V → Hp → VK → Prop} {to : TE} {t : TA} (q : to σ H fun x H1 => tyV K T x H1 ∧ t σ H1 fun xs H2 => r x xs H2 Q) : tBM K T r to t σ H Q := q
theorem r_tyL {K : PySem.W.Frag} {p : Addr} {xs : List V} {R : Prop} (h : H p = some (.lst xs)) (q : R) : tyV K "list" (.ref p) H ∧ R := ⟨.inl ⟨rfl, xs, SqL.of h⟩, q⟩
theorem r_append {l : Addr} {xs : List V} {y : V} (h : H l = some (.lst xs)) (hl : xs.length < sizeLine) (q : Q .non (upd H l (.lst (xs ++ [y])))) : rAppend (.ref l) [y] H Q := ⟨l, xs, y, rfl, rfl, h, hl, q⟩
theorem r_extend {l b : Addr} {xs zs : List V} (h : H l = some (.lst xs)) (hb : H b = some (.lst zs)) (hl : xs.length + zs.length ≤ sizeLine) (q : Q .non (upd H l (.lst (xs ++ zs)))) : rExtend (.ref l) [.ref b] H Q := ⟨l, b, xs, zs, rfl, rfl, h, hb, hl, q⟩
theorem r_while {c : TT} {tb : TS} (W : Nat → L2.St → Hp → Prop) (m0 : Nat) (h0 : W m0 σ H)
    (hs : ∀ m σ H, W m σ H → c σ H fun b H1 => if b = true then ∃ N : L2.St → Hp → Prop, (∀ σ' H', N σ' H' → ∃ m', m' < m ∧ W m' σ' H') ∧ tb { D with nx := N, ct := N, bk := D.nx } σ H1 else D.nx σ H1) : tWhile c tb D σ H := ⟨W, ⟨m0, h0⟩, hs⟩
theorem r_turn {m : Nat} {W : Nat → L2.St → Hp → Prop} {R : (L2.St → Hp → Prop) → Prop} (q : R fun σ' H' => ∃ m', m' < m ∧ W m' σ' H') : ∃ N : L2.St → Hp → Prop, (∀ σ' H', N σ' H' → ∃ m', m' < m ∧ W m' σ' H') ∧ R N := ⟨_, fun _ _ z => z, q⟩
theorem r_make {C : Addr} {sp : Sp} {dvs : List V} {E : XK} {t : TA} (q : t σ H fun vs H1 => ∀ x dx, H1 x = none → H1 dx = none → dx ≠ x → sp (.ref x :: (vs ++ dvs)) (upd (upd H1 dx (.own x)) x (.ins C dx [])) (fun v H2 => v = .non ∧ Q (.ref x) H2) E) : tMake C sp dvs E t σ H Q := q
theorem r_len {K : PySem.W.Frag} {p : Addr} {ys : List V} {R : List V → Prop} (h : SqL K H p ys) (q : R ys) : ∃ p' ys, [V.ref p] = [.ref p'] ∧ (SqL K H p' ys ∨ SqT K H p' ys) ∧ R ys := ⟨p, ys, rfl, .inl h, q⟩
theorem r_sl {r : V → Option Int → Option Int → Hp → VK → Prop} {te : TE} {tl th : TO} (q : te σ H fun x H1 => tl σ H1 fun l H2 => th σ H2 fun u H3 => r x l u H3 Q) : tSl r te tl th σ H Q := q
theorem r_part {t : TE} {Qo : Option Int → Hp → Prop} (q : t σ H fun x H1 => ∃ i, x = .int i ∧ Qo (some i) H1) : tPart t σ H Qo := q
theorem r_nopart {Qo : Option Int → Hp → Prop} (q : Qo none H) : tNoPart σ H Qo := q
theorem r_int {c : Int} {R : Int → Prop} (q : R c) : ∃ k, V.int c = .int k ∧ R k := ⟨c, rfl, q⟩
theorem r_slL {K : PySem.W.Frag} {a : Addr} {xs : List V} {lo hi : Option Int} (h : SqL K H a xs) (q : ∀ p, H p = none → Q (.ref p) (upd H p (.lst (cutV xs lo hi)))) : rSlL K (.ref a) lo hi H Q := ⟨a, xs, rfl, h, q⟩
theorem r_newL {xs : List V} {R : Prop} (h : Nat.ble xs.length 1000 = true) (q : R) : xs.length ≤ sizeLine ∧ R := ⟨Nat.le_trans (Nat.le_of_ble_eq_true h) (by decide), q⟩
theorem r_methT {C : Addr} {m : Str} {sp : Sp} {dvs : List V} {E : XK} {ta : TE} {t : TA} (q : ta σ H fun x H1 => ∃ a dx fs, x = .ref a ∧ H1 a = some (.ins C dx fs) ∧ fs.lookup m = none ∧ t σ H1 fun vs H2 => sp (x :: (vs ++ dvs)) H2 Q E) : tMeth C m sp dvs E ta t σ H Q := q
theorem r_meth {C p dx : Addr} {m : Str} {fs : List (Str × V)} {R : Prop} (h : H p = some (.ins C dx fs)) (lk : fs.lookup m = none) (q : R) : ∃ a dx fs, V.ref p = .ref a ∧ H a = some (.ins C dx fs) ∧ fs.lookup m = none ∧ R := ⟨p, dx, fs, rfl, h, lk, q⟩
theorem r_ite {c : Bool} {A B : Prop} (h1 : c = true → A) (h2 : c = false → B) : if c = true then A else B := by
  cases c with
  | true => rw [if_pos rfl]; exact h1 rfl
  | false => rw [if_neg (by decide)]; exact h2 rfl
end
/-! ### the fields of an object as a list -/
theorem lk_hit {f : Str} {v : V} {r : List (Str × V)} : ((f, v) :: r).lookup f = some v := by
  simp [List.lookup]
theorem lk_skip {f g : Str} {v : V} {r : List (Str × V)} (h : ¬ g = f) : ((f, v) :: r).lookup g = r.lookup g := by
  have e : (g == f) = false := by simpa using h
  simp [List.lookup, e]
theorem pf_hit {f : Str} {v x : V} {r : List (Str × V)} : putF f v ((f, x) :: r) = (f, v) :: r := by
  show (if f = f then _ else _) = _
  rw [if_pos rfl]
theorem pf_skip {f g : Str} {v x : V} {r : List (Str × V)} (h : ¬ g = f) : putF f v ((g, x) :: r) = (g, x) :: putF f v r := by
  show (if g = f then _ else _) = _
  rw [if_neg h]
theorem pf_nil {f : Str} {v : V} : putF f v [] = [(f, v)] := rfl
theorem upd_upd {H : Hp} {p : Addr} {a b : HO} : upd (upd H p a) p b = upd H p b := by
  funext x
  unfold upd
  by_cases e : x = p
  · rw [if_pos e, if_pos e]
  · rw [if_neg e, if_neg e, if_neg e]
/-! ### global constants -/
section
variable {X : Cx}
theorem pe_gi {x : Str} {i : Int} {pos : Pos} (h : ∃ t, X.mg x = some (.int i t)) (hg : Gl X x := by rfl) (hd : (x == ("__debug__" : Str)) = false := by decide) : PE X (.Name x pos) (tC (.int i)) := by
  obtain ⟨t, h⟩ := h
  exact pe_glob hg h ⟨t, rfl⟩ hd
theorem pe_gr {x : Str} {a : Addr} {pos : Pos} (h : X.mg x = some (.ref a)) (hg : Gl X x := by rfl) (hd : (x == ("__debug__" : Str)) = false := by decide) : PE X (.Name x pos) (tC (.ref a)) := pe_glob hg h rfl hd
/-! ### // and % by any number that is not 0, * of numbers of bounded size -/
def CDivB (i j : Int) : Prop := 0 < j ∧ j < 2 ^ 200
theorem op_fdivB : OpR X (binaryOp .FloorDiv) (rI CDivB fun i j => .int (i / j)) := opI fun i j _ _ _ _ _ hc q => by
  have h1 : (0 : Int) < j := hc.1
  have h2 : j < 2 ^ 200 := hc.2
  refine floordiv_int (by omega) (by rw [Int.fdiv_eq_ediv_of_nonneg i (by omega)]; exact q) (.inl (PyProof.noPylong_of_log2 ?_))
  have hn : j.natAbs < 2 ^ 200 := by omega
  exact Nat.lt_trans ((Nat.log2_lt (by omega)).mpr hn) (by decide)
def CMulB (i j : Int) : Prop := i.natAbs < 2 ^ 200 ∧ j.natAbs < 2 ^ 200
theorem CMulB.ok {i j : Int} (h : CMulB i j) : IntMulOk i j := by
  have h1 : Builtin.Int.intBits i ≤ 200 := intBits_le_iff.mpr h.1
  have h2 : Builtin.Int.intBits j ≤ 200 := intBits_le_iff.mpr h.2
  unfold IntMulOk
  intro q
  simp only [Bool.and_eq_true] at q
  have q3 := q.2
  unfold Builtin.Int.intTooBig at q3
  have hb : bitsLine ≥ 400 := by decide
  revert q3
  simp
  omega
theorem op_mulB : OpR X (binaryOp .Mult) (rI CMulB fun i j => .int (i * j)) := opI fun _ _ _ _ _ _ _ hc q => mul_int q hc.ok
end
/-! ### a dict of the module, read by an int key -/
structure KDict (K : PySem.W.Frag) (a : Addr) (kvs : List (Key × V)) : Prop where
  of : ∀ (P : Program) (w : World) (h : Heap), K.In h → (a == sysModules) = false ∧ ∃ vs, KV kvs vs ∧ h.DictOf (mixKind P w) a vs
def kdEntry (e : DictEntry) (kv : Key × V) : Bool := match kv.1 with
  | .inl i => Value.isInt i e.key && (e.hash == hashInt i) && (absV e.val == some kv.2)
  | .inr _ => false
def kdEntries : List DictEntry → List (Key × V) → Bool
  | [], [] => true
  | e :: es, kv :: kvs => kdEntry e kv && kdEntries es kvs
  | _, _ => false
def kdOk (a : Addr) (es : List DictEntry) (kvs : List (Key × V)) : Bool := !(a == sysModules) && kdEntries es kvs && decide ((kvs.map (·.1)).Nodup)
theorem RelV.of_abs {x : V} {u : Value} (h : absV u = some x) : RelV x u := by
  cases u <;> first
    | (cases h; first | exact rfl | exact ⟨_, rfl⟩)
    | (exact nomatch h)
theorem kdEntries_ok {P : Program} {w : World} : ∀ {es : List DictEntry} {kvs : List (Key × V)}, kdEntries es kvs = true →
    (∀ e ∈ es, ∃ k, (mixKind P w).is k e.key = true ∧ e.hash = (mixKind P w).hash k) ∧ ∃ vs : List (Key × Value), KV kvs vs ∧ Pairs (mixKind P w) es vs ∧ vs.map (·.1) = kvs.map (·.1)
  | [], [], _ => ⟨fun e h => (nomatch h), [], .nil, .nil, rfl⟩
  | e :: es, kv :: kvs, h => by
    have h' : (kdEntry e kv && kdEntries es kvs) = true := h
    rw [Bool.and_eq_true] at h'
    obtain ⟨h1, h2⟩ := h'
    obtain ⟨g1, vs, g2, g3, g4⟩ := kdEntries_ok (P := P) (w := w) h2
    obtain ⟨k, v⟩ := kv
    cases k with
    | inr x => exact nomatch h1
    | inl i =>
      have h3 : (Value.isInt i e.key && (e.hash == hashInt i) && (absV e.val == some v)) = true := h1
      rw [Bool.and_eq_true, Bool.and_eq_true] at h3
      obtain ⟨⟨q1, q2⟩, q3⟩ := h3
      refine ⟨?_, (Sum.inl i, e.val) :: vs, .cons ⟨rfl, RelV.of_abs (eq_of_beq q3)⟩ g2, .cons q1 rfl g3, by rw [List.map_cons, List.map_cons, g4]⟩
      intro d hd
      rcases List.mem_cons.mp hd with z | z
      · subst z
        exact ⟨Sum.inl i, q1, eq_of_beq q2⟩
      · exact g1 d z
  | [], _ :: _, h => nomatch h
  | _ :: _, [], h => nomatch h
theorem kdict_mk {K : PySem.W.Frag} {a : Addr} {es : Array DictEntry} {ep : Nat} {kvs : List (Key × V)} (l : K.lookup a = some ⟨.type "dict", none, .dict es ep, #[]⟩) (h : kdOk a es.toList kvs = true) : KDict K a kvs := by
  unfold kdOk at h
  rw [Bool.and_eq_true, Bool.and_eq_true] at h
  obtain ⟨⟨h1, h2⟩, h3⟩ := h
  refine ⟨fun P w hp KX => ⟨by simpa using h1, ?_⟩⟩
  obtain ⟨g1, vs, g2, g3, g4⟩ := kdEntries_ok (P := P) (w := w) h2
  refine ⟨vs, g2, _, es, ep, KX a _ l, ⟨rfl, rfl, rfl⟩, rfl, fun e he => g1 e (by simpa using he), g3, ?_⟩
  rw [g4]
  exact of_decide_eq_true h3
/-! ### a list, a tuple of the module -/
structure KTup (K : PySem.W.Frag) (a : Addr) (xs : List V) : Prop where
  sq : ∀ H : Hp, SqT K H a xs
structure KLst (K : PySem.W.Frag) (a : Addr) (xs : List V) : Prop where
  sq : ∀ H : Hp, SqL K H a xs
def valsOk : List Value → List V → Bool
  | [], [] => true
  | u :: us, v :: vs => (absV u == some v) && valsOk us vs
  | _, _ => false
theorem valsOk_ok : ∀ {us : List Value} {vs : List V}, valsOk us vs = true → Vals vs us
  | [], [], _ => .nil
  | u :: us, v :: vs, h => by
    have h' : ((absV u == some v) && valsOk us vs) = true := h
    rw [Bool.and_eq_true] at h'
    exact .cons (RelV.of_abs (eq_of_beq h'.1)) (valsOk_ok h'.2)
  | [], _ :: _, h => nomatch h
  | _ :: _, [], h => nomatch h
theorem ktup_mk {K : PySem.W.Frag} {a : Addr} {its : Array Value} {n : Nat} {sl : Array (Option Value)} {xs : List V} (l : K.lookup a = some ⟨.type "tuple", none, .seq its n, sl⟩) (h : valsOk its.toList xs = true) (hz : its.size ≤ sizeLine := by decide) : KTup K a xs :=
  ⟨fun H => .inr ⟨_, its, n, l, rfl, rfl, hz, valsOk_ok h⟩⟩
theorem klst_mk {K : PySem.W.Frag} {a : Addr} {its : Array Value} {n : Nat} {sl : Array (Option Value)} {xs : List V} (l : K.lookup a = some ⟨.type "list", none, .seq its n, sl⟩) (h : valsOk its.toList xs = true) (hz : its.size ≤ sizeLine := by decide) : KLst K a xs :=
  ⟨fun H => .inr ⟨_, its, n, l, rfl, rfl, rfl, hz, valsOk_ok h⟩⟩
theorem kd_typeIs {s : Shared} {P : Program} {w : World} {a : Addr} {vs : List (Key × Value)} (dd : s.heap.DictOf (mixKind P w) a vs) : s.TypeIs (.ref a) "dict" := dd.typeIs
def tKGet (K : PySem.W.Frag) (td ty : TE) : TE := fun σ H Q => td σ H fun x H1 => ty σ H1 fun y H2 => ∃ a kvs k v, x = .ref a ∧ y = kV k ∧ KDict K a kvs ∧ valV kvs k = some v ∧ Q v H2
def tKIn (K : PySem.W.Frag) (ty td : TE) : TE := fun σ H Q => ty σ H fun y H1 => td σ H1 fun x H2 => ∃ a kvs k, x = .ref a ∧ y = kV k ∧ KDict K a kvs ∧ Q (.bl (valV kvs k).isSome) H2
def tKNotIn (K : PySem.W.Frag) (ty td : TE) : TE := fun σ H Q => ty σ H fun y H1 => td σ H1 fun x H2 => ∃ a kvs k, x = .ref a ∧ y = kV k ∧ KDict K a kvs ∧ Q (.bl (!(valV kvs k).isSome)) H2
section
variable {X : Cx} {o i : Expr} {pos : Pos} {td ty : TE}
theorem pe_kget (ho : PE X o td) (hi : PE X i ty) (hs : NoSl i) : PE X (.Subscript o i pos) (tKGet X.K td ty) := by
  intro pins s σ H Q I h
  refine subD_of PySem.F.slot_dict_getitem.lookup hs (thn (ho pins s σ H _ I h) fun u s1 ⟨x, H1, I1, rx, q1⟩ => thn (hi pins s1 σ H1 _ I1 q1) fun iv s2 ⟨y, H2, I2, ry, a, kvs, k, v, ex, ey, kd, l, q2⟩ => ?_)
  subst ex
  subst ey
  obtain rfl : u = Value.ref a := rx
  obtain ⟨hd, vs, rel, dd⟩ := kd.of X.prog X.w s2.heap I2.kIn
  obtain ⟨w', hw, rw'⟩ := RelO.some_of (v := v) (o := valueAt vs k) (by rw [← l]; exact rel.val k)
  exact ⟨dd.typeIs, wpAny_getItem_of (kV_is ry) dd.mapOf hw ⟨v, H2, I2.tok _, rw', q2⟩⟩
theorem pc_kin (hi : PE X i ty) (ho : PE X o td) : PC X .In i o (tKIn X.K ty td) := by
  intro pins s σ H Q I h
  refine thn (hi pins s σ H _ I h) fun iv s1 ⟨y, H1, I1, ry, q1⟩ => thn (ho pins s1 σ H1 _ I1 q1) fun u s2 ⟨x, H2, I2, rx, a, kvs, k, ex, ey, kd, q2⟩ => ?_
  subst ex
  subst ey
  obtain rfl : u = Value.ref a := rx
  obtain ⟨hd, vs, rel, dd⟩ := kd.of X.prog X.w s2.heap I2.kIn
  refine wpAny_in_of (kV_is ry) hd dd.mapOf ?_
  rw [← (rel.val k).isSome_eq]
  exact ⟨.bl _, H2, I2.tok _, rfl, q2⟩
theorem pc_knotin (hi : PE X i ty) (ho : PE X o td) : PC X .NotIn i o (tKNotIn X.K ty td) := by
  intro pins s σ H Q I h
  refine thn (hi pins s σ H _ I h) fun iv s1 ⟨y, H1, I1, ry, q1⟩ => thn (ho pins s1 σ H1 _ I1 q1) fun u s2 ⟨x, H2, I2, rx, a, kvs, k, ex, ey, kd, q2⟩ => ?_
  subst ex
  subst ey
  obtain rfl : u = Value.ref a := rx
  obtain ⟨hd, vs, rel, dd⟩ := kd.of X.prog X.w s2.heap I2.kIn
  refine wpAny_notIn_of (kV_is ry) hd dd.mapOf ?_
  rw [← (rel.val k).isSome_eq]
  exact ⟨.bl _, H2, I2.tok _, rfl, q2⟩
end
section
variable {σ : L2.St} {H : Hp} {Q : VK}
theorem r_kgetT {K : PySem.W.Frag} {td ty : TE} (q : td σ H fun x H1 => ty σ H1 fun y H2 => ∃ a kvs k v, x = .ref a ∧ y = kV k ∧ KDict K a kvs ∧ valV kvs k = some v ∧ Q v H2) : tKGet K td ty σ H Q := q
theorem r_kget {K : PySem.W.Frag} {a : Addr} {kvs : List (Key × V)} {i : Int} {v : V} {R : V → Prop} (kd : KDict K a kvs) (l : valV kvs (Sum.inl i) = some v) (q : R v) :
    ∃ a' kvs k v, V.ref a = .ref a' ∧ V.int i = kV k ∧ KDict K a' kvs ∧ valV kvs k = some v ∧ R v := ⟨a, kvs, Sum.inl i, v, rfl, rfl, kd, l, q⟩
end
end TD
end
section
set_option Elab.async false
set_option linter.all false
set_option maxRecDepth 100000
namespace TD
open PySem PySem.Spec PyProof.Rows L2
section
variable {X : Cx}
/-! ### a text filled up with noughts -/
theorem mt_zfill : MtR X "str.zfill" (fun x xs H Q => ∃ a i, x = .str a ∧ xs = [.int i] ∧ PadOk i = true ∧ Q (.str (Txt.zfill a i)) H) := by
  intro pins s σ H x xs v us Q I rx rs h
  obtain ⟨a, i, rfl, rfl, hp, h⟩ := h
  obtain ⟨t, rfl⟩ := rx
  cases rs with
  | cons r1 rs =>
    cases rs
    obtain ⟨u, rfl⟩ := r1
    exact PySem.SC.zfill hp fun t' k => ⟨.str (Txt.zfill a i), H, I.tok k, ⟨t', rfl⟩, h⟩
/-! ### a written text with values in it -/
def tFmt (t : TE) : TE := fun σ H Q => t σ H fun x H1 => ∃ a, x = .str a ∧ a.length ≤ sizeLine ∧ Q (.str a) H1
theorem pe_fmt {e : Expr} {pos : Pos} {t : TE} (h : PE X e t) : PE X (.FormattedValue e (-1) none pos) (tFmt t) := by
  intro pins s σ H Q I hw
  refine PyProof.Rows.FormattedValue_plain (thn (h pins s σ H _ I hw) fun v s1 ⟨x, H1, I1, r1, a, ex, hl, q⟩ => ?_)
  subst ex
  obtain ⟨t, rfl⟩ := r1
  exact PyProof.Rows.formatField_str (fun t' tk => ⟨.str a, H1, I1.tok tk, ⟨t', rfl⟩, q⟩) hl
def tJoin : List TE → Str → TE
  | [], acc => fun _ H Q => Q (.str acc) H
  | t :: r, acc => fun σ H Q => t σ H fun x H1 => ∃ y, x = .str y ∧ (acc ++ y).length ≤ sizeLine ∧ tJoin r (acc ++ y) σ H1 Q
inductive PEs (X : Cx) : List Expr → List TE → Prop
  | nil : PEs X [] []
  | cons {e : Expr} {es : List Expr} {t : TE} {ts : List TE} : PE X e t → PEs X es ts → PEs X (e :: es) (t :: ts)
theorem pj {es : List Expr} {ts : List TE} (h : PEs X es ts) : ∀ (acc : Str) (pins : List (Addr × Obj)) (s : Shared) (σ : L2.St) (H : Hp) (Q : VK), Inv X pins σ H s → acc.length ≤ sizeLine → tJoin ts acc σ H Q → wpAny (model X.prog X.w) X.A (joinParts acc (evalEach es X.env)) (EP X pins σ Q) X.xe s := by
  induction h with
  | nil => exact fun acc pins s σ H Q I hl hw => PyProof.Rows.joinParts_nil ⟨.str acc, H, I.tok _, ⟨_, rfl⟩, hw⟩ hl
  | cons he _ ih =>
    intro acc pins s σ H Q I hl hw
    refine PyProof.Rows.joinParts_cons (thn (he pins s σ H _ I hw) fun v s1 ⟨x, H1, I1, r1, y, ex, hl2, q⟩ => ?_)
    subst ex
    obtain ⟨t, rfl⟩ := r1
    exact ⟨hl2, ih (acc ++ y) pins s1 σ H1 Q I1 hl2 q⟩
theorem pe_joined {v1 v2 : Expr} {rest : List Expr} {pos : Pos} {ts : List TE} (h : PEs X (v1 :: v2 :: rest) ts) : PE X (.JoinedStr (v1 :: v2 :: rest) pos) (tJoin ts Str.empty) :=
  fun pins s σ H Q I hw => PyProof.Rows.JoinedStr_many (pj h Str.empty pins s σ H Q I (by decide) hw)
/-! ### a call of what a name holds -/
def tCallL (X : Cx) (k : Nat) (tf : TE) (t : TA) : TE := fun σ H Q => tf σ H fun v H1 => ∃ f fd ps sp, v = .ref f ∧ FnOk X.prog X.w X.K X.mg X.base CX0 k f fd ps sp ∧ PySem.W.keepIn X.K (.ref f) = true ∧ Binds X.K fd ps [] ∧ t σ H1 fun vs H2 => sp (vs ++ []) H2 Q E0
theorem pe_callL {k : Nat} {x : Str} {p pos : Pos} {e : Expr} {es : List Expr} {tf : TE} {t : TA} (hf : PE X (.Name x p) tf) (hr : Room k X.A) (ha : PA X (e :: es) t)
    (he : starEach (e :: es) X.env = (false, eval e X.env) :: starEach es X.env := by rfl) (hpl : (backTo pos (starEach es X.env)).any (·.1) = false := by rfl) : PE X (.Call (.Name x p) (e :: es) [] pos) (tCallL X k tf t) := by
  intro pins s σ H Q I h
  refine wpAny_Call_Name_kw (thn (hf pins s σ H _ I h) fun u s1 ⟨v, H1, I1, rv, f, fd, ps, sp, ev, F, hk, hb, q⟩ => ?_)
  subst ev
  obtain rfl : u = Value.ref f := rv
  refine PySem.W.callWith_K (h₀ := X.base) I1.ok.mod.kin hk (thn (ha pos pins s1 σ H1 _ I1 q) fun us s2 ⟨vs, H2, I2, r, q2⟩ => ⟨I2.kIn, ?_⟩) he hpl
  exact run_fn F hr hb .nil pass0 I2 r q2
end
/-! ### readings -/
section
variable {σ : L2.St} {H : Hp} {Q : VK} {D : Ends}
theorem r_arg1 {i : Int} {R : Int → Prop} (q : R i) : ∃ j, [V.int i] = [.int j] ∧ R j := ⟨i, rfl, q⟩
theorem r_argS {x : Str} {R : Str → Prop} (q : R x) : ∃ y, [V.str x] = [.str y] ∧ R y := ⟨x, rfl, q⟩
theorem r_isS {x : Str} {R : Str → Prop} (q : R x) : ∃ y, V.str x = .str y ∧ R y := ⟨x, rfl, q⟩
theorem r_m1 {r : V → List V → Hp → VK → Prop} {to te : TE} (q : to σ H fun x H1 => (∃ a, x = .str a) ∧ te σ H1 fun y H2 => r x [y] H2 Q) : tM1 r to te σ H Q := q
theorem r_fmt {t : TE} (q : t σ H fun x H1 => ∃ a, x = .str a ∧ a.length ≤ sizeLine ∧ Q (.str a) H1) : tFmt t σ H Q := q
theorem r_joinC {t : TE} {r : List TE} {acc : Str} (q : t σ H fun x H1 => ∃ y, x = .str y ∧ (acc ++ y).length ≤ sizeLine ∧ tJoin r (acc ++ y) σ H1 Q) : tJoin (t :: r) acc σ H Q := q
theorem r_joinN {acc : Str} (q : Q (.str acc) H) : tJoin [] acc σ H Q := q
theorem r_callL {X : Cx} {k : Nat} {tf : TE} {t : TA} (q : tf σ H fun v H1 => ∃ f fd ps sp, v = .ref f ∧ FnOk X.prog X.w X.K X.mg X.base CX0 k f fd ps sp ∧ PySem.W.keepIn X.K (.ref f) = true ∧ Binds X.K fd ps [] ∧ t σ H1 fun vs H2 => sp (vs ++ []) H2 Q E0) : tCallL X k tf t σ H Q := q
theorem r_kinT {K : PySem.W.Frag} {ty td : TE} (q : ty σ H fun y H1 => td σ H1 fun x H2 => ∃ a kvs k, x = .ref a ∧ y = kV k ∧ KDict K a kvs ∧ Q (.bl (valV kvs k).isSome) H2) : tKIn K ty td σ H Q := q
theorem r_knotinT {K : PySem.W.Frag} {ty td : TE} (q : ty σ H fun y H1 => td σ H1 fun x H2 => ∃ a kvs k, x = .ref a ∧ y = kV k ∧ KDict K a kvs ∧ Q (.bl (!(valV kvs k).isSome)) H2) : tKNotIn K ty td σ H Q := q
theorem r_kin {K : PySem.W.Frag} {a : Addr} {kvs : List (Key × V)} {i : Int} {R : List (Key × V) → Key → Prop} (kd : KDict K a kvs) (q : R kvs (Sum.inl i)) : ∃ a' kvs k, V.ref a = .ref a' ∧ V.int i = kV k ∧ KDict K a' kvs ∧ R kvs k := ⟨a, kvs, Sum.inl i, rfl, rfl, kd, q⟩
theorem r_for {wi : TI} {g : TG} {tb : TS} (q : wi σ H fun J H1 => ∃ W : Nat → Nat → L2.St → Hp → Prop, (∃ m, W 0 m σ H1) ∧ ∀ i m σ H, W i m σ H →
  (J.stop i H ∧ D.nx σ H) ∨ (J.go i H ∧ ∃ N : L2.St → Hp → Prop, (∀ σ' H', N σ' H' → ∃ m', m' < m ∧ W (i + 1) m' σ' H') ∧ ∀ x H', J.yld i H x H' → g x σ H' fun σ2 H2 => tb { D with nx := N, ct := N, bk := D.nx } σ2 H2)) : tFor wi g tb D σ H := q
theorem r_rng1T {ta : TA} {R : It → Hp → Prop} (q : ta σ H fun vs H1 => ∃ j : Int, vs = [.int j] ∧ -(2 ^ 62) ≤ j ∧ j < 2 ^ 62 ∧ R (Itr 0 j.toNat) H1) : iRng1 ta σ H R := q
theorem r_rng1 {k : Nat} {R : Nat → Prop} (h : k < 2 ^ 62) (q : R k) : ∃ j : Int, [V.int (k : Int)] = [.int j] ∧ -(2 ^ 62) ≤ j ∧ j < 2 ^ 62 ∧ R j.toNat := ⟨k, rfl, by omega, by omega, q⟩
theorem r_rng3T {ta : TA} {R : It → Hp → Prop} (q : ta σ H fun vs H1 => ∃ (i j c : Int) (n : Nat), vs = [.int i, .int j, .int c] ∧ RgC i j c n ∧ R (Itc i c n) H1) : iRng3 ta σ H R := q
theorem r_listT {K : PySem.W.Frag} {tl : TE} {R : It → Hp → Prop} (q : tl σ H fun x H1 => ∃ a, x = .ref a ∧ (∃ xs, SqL K H1 a xs) ∧ R (Itl K a) H1) : iList K tl σ H R := q
theorem r_list {K : PySem.W.Frag} {a : Addr} {xs : List V} {R : Addr → Prop} (h : SqL K H a xs) (q : R a) : ∃ a', V.ref a = .ref a' ∧ (∃ xs, SqL K H a' xs) ∧ R a' := ⟨a, rfl, ⟨xs, h⟩, q⟩
theorem r_enumT {K : PySem.W.Frag} {ta : TA} {R : It → Hp → Prop} (q : ta σ H fun vs H1 => ∃ a xs, vs = [.ref a] ∧ SqL K H1 a xs ∧ R (Ite K a) H1) : iEnum K ta σ H R := q
theorem r_enum {K : PySem.W.Frag} {a : Addr} {xs : List V} {R : Addr → Prop} (h : SqL K H a xs) (q : R a) : ∃ a' xs, [V.ref a] = [.ref a'] ∧ SqL K H a' xs ∧ R a' := ⟨a, xs, rfl, h, q⟩
theorem r_strT {te : TE} {R : It → Hp → Prop} (q : te σ H fun v H1 => ∃ x, v = .str x ∧ R (Its x) H1) : iStr te σ H R := q
/-- enumerate over a list that the body leaves as it is, the pair taken apart into two names -/
theorem for_enum2 {K : PySem.W.Frag} {a : Addr} {xs : List V} {i1 i2 : Nat} {tb : TS} (Pv : Nat → L2.St → Hp → Prop) (h0 : Pv 0 σ H) (hl : ∀ i σ H, i ≤ xs.length → Pv i σ H → SqL K H a xs)
    (hs : ∀ i x σ H H', xs[i]? = some x → Pv i σ H → Same H H' → tb { D with nx := Pv (i + 1), ct := Pv (i + 1), bk := D.nx } ((σ.set i1 (some (.int (i : Nat)))).set i2 (some x)) H') (hd : ∀ σ H, Pv xs.length σ H → D.nx σ H) :
    ∃ W : Nat → Nat → L2.St → Hp → Prop, (∃ m, W 0 m σ H) ∧ ∀ i m σ H, W i m σ H →
      ((Ite K a).stop i H ∧ D.nx σ H) ∨ ((Ite K a).go i H ∧ ∃ N : L2.St → Hp → Prop, (∀ σ' H', N σ' H' → ∃ m', m' < m ∧ W (i + 1) m' σ' H') ∧ ∀ x H', (Ite K a).yld i H x H' → gTup K 2 (gCons (gName i1) (gCons (gName i2) gNil)) x σ H' fun σ2 H2 => tb { D with nx := N, ct := N, bk := D.nx } σ2 H2) := by
  refine ⟨fun i m σ H => m = xs.length - i ∧ i ≤ xs.length ∧ Pv i σ H, ⟨xs.length, by simp, Nat.zero_le _, h0⟩, ?_⟩
  rintro i m σ H ⟨rfl, hi, p⟩
  have q := hl i σ H hi p
  by_cases hlt : i < xs.length
  · refine .inr ⟨⟨xs, xs[i], q, by simp [hlt]⟩, Pv (i + 1), fun σ' H' p' => ⟨xs.length - (i + 1), by omega, rfl, hlt, p'⟩, fun x H' y => ?_⟩
    obtain ⟨t, x', rfl, ht, rfl, y⟩ := y
    have hx := y xs q
    refine ⟨t, _, rfl, SqT.of upd_same, rfl, _, _, rfl, _, _, rfl, rfl, ?_⟩
    refine hs i x' σ H _ hx p fun b o e => ?_
    rw [upd_ne (ne_of_none e ht)]
    exact e
  · have e : i = xs.length := by omega
    subst e
    exact .inl ⟨⟨xs, q, Nat.le_refl _⟩, hd σ H p⟩
/-- over a text's signs, in a comprehension -/
theorem lc_str {x : Str} {g : TG} {tt : TT} {te : TE} {vs : List Nat} {H1 : Hp} {E : Addr} {Qd : Hp → Prop} (Pv : Nat → Hp → Prop) (h0 : Pv 0 (upd H1 E (.lst [])))
    (hs : ∀ i c H, x.cps[i]? = some c → Pv i H → g (.str ⟨#[c]⟩) (wipe σ vs) H fun σ2 H2 => wipe σ2 vs = wipe σ vs ∧ tt σ2 H2 fun b H3 =>
      if b = true then te σ2 H3 fun y H4 => ∃ acc, H4 E = some (.lst acc) ∧ acc.length < sizeLine ∧ Pv (i + 1) (upd H4 E (.lst (acc ++ [y]))) else Pv (i + 1) H3) (hd : ∀ H, Pv x.cps.size H → Qd H) :
    ∃ W : Nat → Nat → Hp → Prop, (∃ m, W 0 m (upd H1 E (.lst []))) ∧ ∀ i m H, W i m H →
      ((Its x).stop i H ∧ Qd H) ∨ ((Its x).go i H ∧ ∃ Nx : Hp → Prop, (∀ H', Nx H' → ∃ m', m' < m ∧ W (i + 1) m' H') ∧ ∀ z H', (Its x).yld i H z H' → g z (wipe σ vs) H' fun σ2 H2 => wipe σ2 vs = wipe σ vs ∧ tt σ2 H2 fun b H3 =>
        if b = true then te σ2 H3 fun y H4 => ∃ acc, H4 E = some (.lst acc) ∧ acc.length < sizeLine ∧ Nx (upd H4 E (.lst (acc ++ [y]))) else Nx H3) := by
  refine ⟨fun i m H => m = x.cps.size - i ∧ i ≤ x.cps.size ∧ Pv i H, ⟨x.cps.size, by simp, Nat.zero_le _, h0⟩, ?_⟩
  rintro i m H ⟨rfl, hi, p⟩
  by_cases hlt : i < x.cps.size
  · refine .inr ⟨hlt, Pv (i + 1), fun H' p' => ⟨x.cps.size - (i + 1), by omega, rfl, hlt, p'⟩, fun z H' y => ?_⟩
    obtain ⟨rfl, c, hc, rfl⟩ := y
    exact hs i c _ hc p
  · have e : i = x.cps.size := by omega
    subst e
    exact .inl ⟨Nat.le_refl _, hd H p⟩
theorem r_lc {wi : TI} {g : TG} {tt : TT} {te : TE} {vs : List Nat} (q : wi σ H fun J H1 => ∀ D, H1 D = none → ∃ W : Nat → Nat → Hp → Prop, (∃ m, W 0 m (upd H1 D (.lst []))) ∧ ∀ i m H, W i m H →
  (J.stop i H ∧ Q (.ref D) H) ∨ (J.go i H ∧ ∃ Nx : Hp → Prop, (∀ H', Nx H' → ∃ m', m' < m ∧ W (i + 1) m' H') ∧ ∀ x H', J.yld i H x H' → g x (wipe σ vs) H' fun σ2 H2 => wipe σ2 vs = wipe σ vs ∧ tt σ2 H2 fun b H3 =>
    if b = true then te σ2 H3 fun y H4 => ∃ acc, H4 D = some (.lst acc) ∧ acc.length < sizeLine ∧ Nx (upd H4 D (.lst (acc ++ [y]))) else Nx H3)) : tLc wi g tt te vs σ H Q := q
theorem r_yes {Qb : Bool → Hp → Prop} (q : Qb true H) : tYes σ H Qb := q
theorem r_one {t : TE} (q : t σ H Q) : t σ H Q := q
theorem r_fldaugT {K : PySem.W.Frag} {ta tv : TE} {rd : V → V → Hp → VK → Prop} {f : Str} (q : ta σ H fun x H1 => ∃ a C dx fs v, x = .ref a ∧ H1 a = some (.ins C dx fs) ∧ Cls K C ∧ NoAttr K C f ∧ fs.lookup f = some v ∧
  tv σ H1 fun y H2 => rd v y H2 fun z H3 => ∃ dx' fs', H3 a = some (.ins C dx' fs') ∧ fs'.length < 1000 ∧ D.nx σ (upd H3 a (.ins C dx' (putF f z fs')))) : sFldAug K ta tv rd f D σ H := q
theorem r_augI {i : Nat} {te : TE} {f : Int → Int → Int} {c : Int} (hx : σ[i]? = some (some (.int c))) (q : te σ H fun y H1 => ∃ j, y = .int j ∧ D.nx (σ.set i (some (.int (f c j)))) H1) : tAug i te (ipI f) D σ H := by
  refine ⟨.int c, hx, ?_⟩
  have e : (fun y H1 => ∃ j, y = V.int j ∧ D.nx (σ.set i (some (.int (f c j)))) H1) = fun y H1 => ipI f (.int c) y H1 fun z H2 => D.nx (σ.set i (some z)) H2 := by
    funext y H1
    refine propext ⟨fun ⟨j, e, q⟩ => ⟨c, j, rfl, e, q⟩, fun ⟨i', j, e1, e2, q⟩ => ?_⟩
    cases e1
    exact ⟨j, e2, q⟩
  rw [← e]
  exact q
theorem r_addF {i j : Int} (q : Q (.int (i + j)) H) : rAdd (.int i) (.int j) H Q := ⟨i, j, rfl, rfl, q⟩
theorem r_isStr {x : Str} {R : Prop} (q : R) : (∃ a, V.str x = .str a) ∧ R := ⟨⟨x, rfl⟩, q⟩
theorem r_fdiv {i j : Int} (h : 0 < j) (h2 : j ≤ 1000000000000000000000) (q : Q (.int (i / j)) H) : rI CDivB (fun i j => .int (i / j)) (.int i) (.int j) H Q := ⟨i, j, rfl, rfl, ⟨h, by omega⟩, q⟩
theorem r_mod {i j : Int} (h : 0 < j) (q : Q (.int (i % j)) H) : rI (fun _ j => 0 < j) (fun i j => .int (i % j)) (.int i) (.int j) H Q := ⟨i, j, rfl, rfl, h, q⟩
theorem r_mul {i j : Int} (h1 : i.natAbs < 2 ^ 200) (h2 : j.natAbs < 2 ^ 200) (q : Q (.int (i * j)) H) : rI CMulB (fun i j => .int (i * j)) (.int i) (.int j) H Q := ⟨i, j, rfl, rfl, ⟨h1, h2⟩, q⟩
theorem bl_of {c c' : Bool} (e : c' = c) (k : Q (.bl c) H) : Q (.bl c') H := by
  rw [e]
  exact k
theorem int_of {c c' : Int} (e : c' = c) (k : Q (.int c) H) : Q (.int c') H := by
  rw [e]
  exact k
theorem Same.upd_new {H : Hp} {q : Addr} {o : HO} (h : H q = none) : Same H (upd H q o) := fun b u e => by
  rw [upd_ne (ne_of_none e h)]
  exact e
theorem cut_nat {xs : List Int} {i j : Nat} (hi : i ≤ xs.length) (hj : j ≤ xs.length) : cutV (xs.map V.int) (some (i : Int)) (some (j : Int)) = ((xs.drop i).take (j - i)).map V.int := by
  unfold cutV
  rw [HT.sIx_nat, HT.sIx_nat, List.length_map, Nat.min_eq_left hi, Nat.min_eq_left hj, List.map_take, List.map_drop]
theorem cut_head {xs : List V} {j : Nat} (hj : j ≤ xs.length) : cutV xs none (some (j : Int)) = xs.take j := by
  unfold cutV
  rw [HT.sIx_nat, Nat.min_eq_left hj]
  show List.take (j - 0) (xs.drop 0) = _
  rw [Nat.sub_zero, List.drop_zero]
theorem r_cat {l b : Addr} {xs zs : List V} (h : H l = some (.lst xs)) (hb : H b = some (.lst zs)) (hl : xs.length + zs.length ≤ sizeLine) (q : ∀ p, H p = none → Q (.ref p) (upd H p (.lst (xs ++ zs)))) : rCat (.ref l) (.ref b) H Q := ⟨l, b, xs, zs, rfl, rfl, h, hb, hl, q⟩
/-! the loops with what lies behind them told by its parts -/
section
variable {nx : L2.St → Hp → Prop} {rt : VK} {g : TG} {tb : TS}
theorem for_rangeN {lo : Int} {n : Nat} (Pv : Nat → L2.St → Hp → Prop) (h0 : Pv 0 σ H)
    (hs : ∀ i σ H, i < n → Pv i σ H → g (.int (lo + i)) σ H fun σ2 H2 => tb { nx := Pv (i + 1), rt := rt, bk := nx, ct := Pv (i + 1) } σ2 H2) (hd : ∀ σ H, Pv n σ H → nx σ H) :
    ∃ W : Nat → Nat → L2.St → Hp → Prop, (∃ m, W 0 m σ H) ∧ ∀ i m σ H, W i m σ H →
      ((Itr lo n).stop i H ∧ nx σ H) ∨ ((Itr lo n).go i H ∧ ∃ N : L2.St → Hp → Prop, (∀ σ' H', N σ' H' → ∃ m', m' < m ∧ W (i + 1) m' σ' H') ∧ ∀ x H', (Itr lo n).yld i H x H' → g x σ H' fun σ2 H2 => tb { nx := N, rt := rt, bk := nx, ct := N } σ2 H2) :=
  for_range (D := { nx := nx, rt := rt }) Pv h0 hs hd
theorem for_rangeCN {lo c : Int} {n : Nat} (Pv : Nat → L2.St → Hp → Prop) (h0 : Pv 0 σ H)
    (hs : ∀ i σ H, i < n → Pv i σ H → g (.int (lo + (i : Nat) * c)) σ H fun σ2 H2 => tb { nx := Pv (i + 1), rt := rt, bk := nx, ct := Pv (i + 1) } σ2 H2) (hd : ∀ σ H, Pv n σ H → nx σ H) :
    ∃ W : Nat → Nat → L2.St → Hp → Prop, (∃ m, W 0 m σ H) ∧ ∀ i m σ H, W i m σ H →
      ((Itc lo c n).stop i H ∧ nx σ H) ∨ ((Itc lo c n).go i H ∧ ∃ N : L2.St → Hp → Prop, (∀ σ' H', N σ' H' → ∃ m', m' < m ∧ W (i + 1) m' σ' H') ∧ ∀ x H', (Itc lo c n).yld i H x H' → g x σ H' fun σ2 H2 => tb { nx := N, rt := rt, bk := nx, ct := N } σ2 H2) :=
  for_rangeC (D := { nx := nx, rt := rt }) Pv h0 hs hd
theorem for_listN {K : PySem.W.Frag} {a : Addr} {xs : List V} (Pv : Nat → L2.St → Hp → Prop) (h0 : Pv 0 σ H) (hl : ∀ i σ H, i ≤ xs.length → Pv i σ H → SqL K H a xs)
    (hs : ∀ i x σ H, xs[i]? = some x → Pv i σ H → g x σ H fun σ2 H2 => tb { nx := Pv (i + 1), rt := rt, bk := nx, ct := Pv (i + 1) } σ2 H2) (hd : ∀ σ H, Pv xs.length σ H → nx σ H) :
    ∃ W : Nat → Nat → L2.St → Hp → Prop, (∃ m, W 0 m σ H) ∧ ∀ i m σ H, W i m σ H →
      ((Itl K a).stop i H ∧ nx σ H) ∨ ((Itl K a).go i H ∧ ∃ N : L2.St → Hp → Prop, (∀ σ' H', N σ' H' → ∃ m', m' < m ∧ W (i + 1) m' σ' H') ∧ ∀ x H', (Itl K a).yld i H x H' → g x σ H' fun σ2 H2 => tb { nx := N, rt := rt, bk := nx, ct := N } σ2 H2) :=
  for_list (D := { nx := nx, rt := rt }) Pv h0 hl hs hd
theorem for_enumN {K : PySem.W.Frag} {a : Addr} {xs : List V} {i1 i2 : Nat} (Pv : Nat → L2.St → Hp → Prop) (h0 : Pv 0 σ H) (hl : ∀ i σ H, i ≤ xs.length → Pv i σ H → SqL K H a xs)
    (hs : ∀ i x σ H H', xs[i]? = some x → Pv i σ H → Same H H' → tb { nx := Pv (i + 1), rt := rt, bk := nx, ct := Pv (i + 1) } ((σ.set i1 (some (.int (i : Nat)))).set i2 (some x)) H') (hd : ∀ σ H, Pv xs.length σ H → nx σ H) :
    ∃ W : Nat → Nat → L2.St → Hp → Prop, (∃ m, W 0 m σ H) ∧ ∀ i m σ H, W i m σ H →
      ((Ite K a).stop i H ∧ nx σ H) ∨ ((Ite K a).go i H ∧ ∃ N : L2.St → Hp → Prop, (∀ σ' H', N σ' H' → ∃ m', m' < m ∧ W (i + 1) m' σ' H') ∧ ∀ x H', (Ite K a).yld i H x H' → gTup K 2 (gCons (gName i1) (gCons (gName i2) gNil)) x σ H' fun σ2 H2 => tb { nx := N, rt := rt, bk := nx, ct := N } σ2 H2) :=
  for_enum2 (D := { nx := nx, rt := rt }) Pv h0 hl hs hd
end
end
end TD
end
section
set_option Elab.async false
set_option linter.all false
set_option maxRecDepth 100000
namespace TD
open PySem PySem.Spec PyProof.Rows L2
theorem str_nat (n : Nat) : Str.ofString (toString (n : Int)) = ⟨((Nat.toDigits 10 n).map Char.toNat).toArray⟩ := by
  rw [Str.ofString_eq_toList, Int.toString_eq_repr, Int.repr_eq_if, if_pos (by omega), Nat.toList_repr]
  rfl
theorem dchar : ∀ k < 10, (Nat.digitChar k).toNat = 48 + k := by decide
/-- filled up to four -/
theorem zf_list {c : Nat} {l : List Nat} (hl : l.length ≤ 3) (hc : 48 ≤ c) : (Txt.zfill ⟨(c :: l).toArray⟩ 4).cps.toList = List.replicate (3 - l.length) 48 ++ (c :: l) := by
  have e : (⟨(c :: l).toArray⟩ : Str).length = l.length + 1 := rfl
  unfold Txt.zfill
  by_cases h : (4 : Int) ≤ ((⟨(c :: l).toArray⟩ : Str).length : Int)
  · rw [if_pos h]
    rw [e] at h
    rw [show 3 - l.length = 0 by omega]
    rfl
  · rw [if_neg h, e]
    have z : zfilled ⟨(c :: l).toArray⟩ ((4 : Int).toNat - (l.length + 1)) = Builtin.Str.padded ⟨(c :: l).toArray⟩ ((4 : Int).toNat - (l.length + 1)) 0 48 := by
      unfold zfilled
      split
      · rename_i q
        have q' : some c = some 43 := q
        cases q'
        omega
      · rename_i q
        have q' : some c = some 45 := q
        cases q'
        omega
      · rfl
    rw [z]
    unfold Builtin.Str.padded
    rw [show (4 : Int).toNat - (l.length + 1) = 3 - l.length by show 4 - (l.length + 1) = _; omega]
    simp
theorem four_list (n : Nat) : (Drum.four n).map UInt8.toNat = [48 + n / 1000 % 10, 48 + n / 100 % 10, 48 + n / 10 % 10, 48 + n % 10] := by
  have h : ∀ k < 10, (UInt8.ofNat (48 + k)).toNat = 48 + k := by decide
  unfold Drum.four Drum.digit
  simp only [List.range, List.range.loop, List.map_cons, List.map_nil]
  rw [h _ (Nat.mod_lt _ (by decide)), h _ (Nat.mod_lt _ (by decide)), h _ (Nat.mod_lt _ (by decide)), h _ (Nat.mod_lt _ (by decide))]
  simp
theorem four_at {n : Nat} (h : n < 10000) : (Txt.zfill ((toString (n : Int) : String) : Str) 4).cps.toList = (Drum.four n).map UInt8.toNat := by
  have m : ∀ k, k % 10 < 10 := fun k => Nat.mod_lt _ (by decide)
  rw [str_nat, four_list]
  by_cases h1 : n < 10
  · rw [Nat.toDigits_of_lt_base h1]
    show (Txt.zfill ⟨((Nat.digitChar n).toNat :: []).toArray⟩ 4).cps.toList = _
    rw [dchar n h1, zf_list (by simp) (by omega), show n / 1000 % 10 = 0 by omega, show n / 100 % 10 = 0 by omega, show n / 10 % 10 = 0 by omega, show n % 10 = n by omega]
    rfl
  · rw [Nat.toDigits_of_base_le (by decide) (by omega)]
    by_cases h2 : n < 100
    · rw [Nat.toDigits_of_lt_base (show n / 10 < 10 by omega)]
      show (Txt.zfill ⟨((Nat.digitChar (n / 10)).toNat :: [(Nat.digitChar (n % 10)).toNat]).toArray⟩ 4).cps.toList = _
      rw [dchar _ (show n / 10 < 10 by omega), dchar _ (m n), zf_list (by simp) (by omega), show n / 1000 % 10 = 0 by omega, show n / 100 % 10 = 0 by omega, show n / 10 % 10 = n / 10 by omega]
      rfl
    · rw [Nat.toDigits_of_base_le (n := n / 10) (by decide) (by omega), Nat.div_div_eq_div_mul]
      by_cases h3 : n < 1000
      · rw [Nat.toDigits_of_lt_base (show n / (10 * 10) < 10 by omega)]
        show (Txt.zfill ⟨((Nat.digitChar (n / 100)).toNat :: [(Nat.digitChar (n / 10 % 10)).toNat, (Nat.digitChar (n % 10)).toNat]).toArray⟩ 4).cps.toList = _
        rw [dchar _ (show n / 100 < 10 by omega), dchar _ (m _), dchar _ (m n), zf_list (by simp) (by omega), show n / 1000 % 10 = 0 by omega, show n / 100 % 10 = n / 100 by omega]
        rfl
      · rw [Nat.toDigits_of_base_le (n := n / (10 * 10)) (by decide) (by omega), Nat.div_div_eq_div_mul, Nat.toDigits_of_lt_base (show n / (10 * 10 * 10) < 10 by omega)]
        show (Txt.zfill ⟨((Nat.digitChar (n / 1000)).toNat :: [(Nat.digitChar (n / 100 % 10)).toNat, (Nat.digitChar (n / 10 % 10)).toNat, (Nat.digitChar (n % 10)).toNat]).toArray⟩ 4).cps.toList = _
        rw [dchar _ (show n / 1000 < 10 by omega), dchar _ (m _), dchar _ (m _), dchar _ (m n), zf_list (by simp) (by omega), show n / 1000 % 10 = n / 1000 by omega]
        rfl
theorem four_size {n : Nat} (h : n < 10000) : (Txt.zfill ((toString (n : Int) : String) : Str) 4).length = 4 := by
  have e := congrArg List.length (four_at h)
  rw [List.length_map] at e
  exact e
end TD
end
section
set_option linter.all false
set_option maxRecDepth 100000
set_option maxHeartbeats 4000000
namespace TD
open PySem PySem.Spec PyProof.Rows L2
/-! ### the text by places -/
def top (i : Nat) : Stmt := PySem.Challenge.pw_turndrum_s01_answers.main.body.getD i (.Pass ⟨0, 0, 0, 0⟩)
abbrev s_is_word : Stmt := top 6
abbrev s_is_long : Stmt := top 7
abbrev s_with_sign_of : Stmt := top 8
abbrev s_divided : Stmt := top 9
abbrev s_divided_rounded : Stmt := top 10
abbrev s_upper_word : Stmt := top 11
abbrev s_lower_word : Stmt := top 12
abbrev s_lower_twenty : Stmt := top 13
abbrev s_digit_sum : Stmt := top 14
abbrev s_power_of_ten : Stmt := top 15
abbrev s_tens_that_fit : Stmt := top 16
abbrev s_is_address : Stmt := top 21
abbrev s_is_tick : Stmt := top 22
abbrev s_next_around : Stmt := top 23
abbrev s_band_from : Stmt := top 24
abbrev s_waited : Stmt := top 25
abbrev s_Machine_init : Stmt := inClass (top 26) 0
abbrev s_Machine_begin : Stmt := inClass (top 26) 1
abbrev s_Machine_keep : Stmt := inClass (top 26) 2
abbrev s_Machine_pass_to : Stmt := inClass (top 26) 3
abbrev s_Cards_init : Stmt := inClass (top 29) 0
abbrev s_Cards_is_left : Stmt := inClass (top 29) 1
abbrev s_Cards_read_to : Stmt := inClass (top 29) 2
abbrev s_Cards_punch_from : Stmt := inClass (top 29) 3
abbrev s_code_of : Stmt := top 44
abbrev s_data_of : Stmt := top 45
abbrev s_next_of : Stmt := top 46
abbrev s_is_order : Stmt := top 47
abbrev s_writing : Stmt := top 48
abbrev s_loads_d : Stmt := top 49
abbrev s_waits : Stmt := top 50
abbrev s_shifts_by_data : Stmt := top 51
abbrev s_has_data_address : Stmt := top 52
abbrev s_stopping_state : Stmt := top 53
abbrev s_nothing_more : Stmt := top 56
abbrev s_load_a : Stmt := top 57
abbrev s_load_negated : Stmt := top 58
abbrev s_add : Stmt := top 59
abbrev s_subtract : Stmt := top 60
abbrev s_add_unsigned : Stmt := top 61
abbrev s_subtract_unsigned : Stmt := top 62
abbrev s_add_upper : Stmt := top 63
abbrev s_subtract_upper : Stmt := top 64
abbrev s_multiply : Stmt := top 65
abbrev s_divide : Stmt := top 66
abbrev s_store_lower : Stmt := top 67
abbrev s_store_upper : Stmt := top 68
abbrev s_store_d : Stmt := top 69
abbrev s_shift_left : Stmt := top 70
abbrev s_shift_right : Stmt := top 71
abbrev s_shift_right_rounded : Stmt := top 72
abbrev s_shift_and_count : Stmt := top 73
abbrev s_branch_below_zero : Stmt := top 74
abbrev s_branch_not_zero : Stmt := top 75
abbrev s_branch_over : Stmt := top 76
abbrev s_look_up : Stmt := top 77
abbrev s_act : Stmt := top 82
abbrev s_carry_out : Stmt := top 83
abbrev s_one_order : Stmt := top 84
abbrev s_run_orders : Stmt := top 85
abbrev s_new : Stmt := top 102
abbrev s_poke : Stmt := top 103
abbrev s_peek : Stmt := top 104
abbrev s_told : Stmt := top 105
abbrev s_are_cards : Stmt := top 106
abbrev s_run : Stmt := top 107
abbrev s_order : Stmt := top 108
abbrev s_drum : Stmt := top 109
abbrev s_is_drum_form : Stmt := top 110
abbrev s_are_values : Stmt := top 111
abbrev s_drum_of : Stmt := top 112
abbrev s_load : Stmt := top 113
abbrev s_answer_one : Stmt := top 114
abbrev s_answers : Stmt := top 115
theorem sc_is_word : FnScope ["number"] ["number"] (defScope s_is_word) := ⟨rfl, rfl, rfl, by decide +kernel, rfl, by decide +kernel, by decide +kernel⟩
theorem sc_is_long : FnScope ["number"] ["number"] (defScope s_is_long) := ⟨rfl, rfl, rfl, by decide +kernel, rfl, by decide +kernel, by decide +kernel⟩
theorem sc_with_sign_of : FnScope ["number", "size"] ["number", "size"] (defScope s_with_sign_of) := ⟨rfl, rfl, rfl, by decide +kernel, rfl, by decide +kernel, by decide +kernel⟩
theorem sc_divided : FnScope ["number", "divisor"] ["number", "divisor"] (defScope s_divided) := ⟨rfl, rfl, rfl, by decide +kernel, rfl, by decide +kernel, by decide +kernel⟩
theorem sc_divided_rounded : FnScope ["number", "divisor"] ["number", "divisor"] (defScope s_divided_rounded) := ⟨rfl, rfl, rfl, by decide +kernel, rfl, by decide +kernel, by decide +kernel⟩
theorem sc_upper_word : FnScope ["number"] ["number"] (defScope s_upper_word) := ⟨rfl, rfl, rfl, by decide +kernel, rfl, by decide +kernel, by decide +kernel⟩
theorem sc_lower_word : FnScope ["number"] ["number"] (defScope s_lower_word) := ⟨rfl, rfl, rfl, by decide +kernel, rfl, by decide +kernel, by decide +kernel⟩
theorem sc_lower_twenty : FnScope ["number"] ["number"] (defScope s_lower_twenty) := ⟨rfl, rfl, rfl, by decide +kernel, rfl, by decide +kernel, by decide +kernel⟩
theorem sc_digit_sum : FnScope ["number", "rest", "total"] ["number"] (defScope s_digit_sum) := ⟨rfl, rfl, rfl, by decide +kernel, rfl, by decide +kernel, by decide +kernel⟩
theorem sc_power_of_ten : FnScope ["exponent", "power", "step"] ["exponent"] (defScope s_power_of_ten) := ⟨rfl, rfl, rfl, by decide +kernel, rfl, by decide +kernel, by decide +kernel⟩
theorem sc_tens_that_fit : FnScope ["number", "count", "shifted"] ["number"] (defScope s_tens_that_fit) := ⟨rfl, rfl, rfl, by decide +kernel, rfl, by decide +kernel, by decide +kernel⟩
theorem sc_is_address : FnScope ["number"] ["number"] (defScope s_is_address) := ⟨rfl, rfl, rfl, by decide +kernel, rfl, by decide +kernel, by decide +kernel⟩
theorem sc_is_tick : FnScope ["number"] ["number"] (defScope s_is_tick) := ⟨rfl, rfl, rfl, by decide +kernel, rfl, by decide +kernel, by decide +kernel⟩
theorem sc_next_around : FnScope ["address", "following"] ["address"] (defScope s_next_around) := ⟨rfl, rfl, rfl, by decide +kernel, rfl, by decide +kernel, by decide +kernel⟩
theorem sc_band_from : FnScope ["drum", "address", "first"] ["drum", "address"] (defScope s_band_from) := ⟨rfl, rfl, rfl, by decide +kernel, rfl, by decide +kernel, by decide +kernel⟩
theorem sc_waited : FnScope ["tick", "address"] ["tick", "address"] (defScope s_waited) := ⟨rfl, rfl, rfl, by decide +kernel, rfl, by decide +kernel, by decide +kernel⟩
theorem sc_Machine_init : FnScope ["self"] ["self"] (defScope s_Machine_init) := ⟨rfl, rfl, rfl, by decide +kernel, rfl, by decide +kernel, by decide +kernel⟩
theorem sc_Machine_begin : FnScope ["self", "start"] ["self", "start"] (defScope s_Machine_begin) := ⟨rfl, rfl, rfl, by decide +kernel, rfl, by decide +kernel, by decide +kernel⟩
theorem sc_Machine_keep : FnScope ["self", "number"] ["self", "number"] (defScope s_Machine_keep) := ⟨rfl, rfl, rfl, by decide +kernel, rfl, by decide +kernel, by decide +kernel⟩
theorem sc_Machine_pass_to : FnScope ["self", "tick"] ["self", "tick"] (defScope s_Machine_pass_to) := ⟨rfl, rfl, rfl, by decide +kernel, rfl, by decide +kernel, by decide +kernel⟩
theorem sc_Cards_init : FnScope ["self", "words"] ["self", "words"] (defScope s_Cards_init) := ⟨rfl, rfl, rfl, by decide +kernel, rfl, by decide +kernel, by decide +kernel⟩
theorem sc_Cards_is_left : FnScope ["self"] ["self"] (defScope s_Cards_is_left) := ⟨rfl, rfl, rfl, by decide +kernel, rfl, by decide +kernel, by decide +kernel⟩
theorem sc_Cards_read_to : FnScope ["self", "drum", "address", "begin", "place", "word"] ["self", "drum", "address"] (defScope s_Cards_read_to) := ⟨rfl, rfl, rfl, by decide +kernel, rfl, by decide +kernel, by decide +kernel⟩
theorem sc_Cards_punch_from : FnScope ["self", "drum", "address"] ["self", "drum", "address"] (defScope s_Cards_punch_from) := ⟨rfl, rfl, rfl, by decide +kernel, rfl, by decide +kernel, by decide +kernel⟩
theorem sc_code_of : FnScope ["word"] ["word"] (defScope s_code_of) := ⟨rfl, rfl, rfl, by decide +kernel, rfl, by decide +kernel, by decide +kernel⟩
theorem sc_data_of : FnScope ["word"] ["word"] (defScope s_data_of) := ⟨rfl, rfl, rfl, by decide +kernel, rfl, by decide +kernel, by decide +kernel⟩
theorem sc_next_of : FnScope ["word"] ["word"] (defScope s_next_of) := ⟨rfl, rfl, rfl, by decide +kernel, rfl, by decide +kernel, by decide +kernel⟩
theorem sc_is_order : FnScope ["word"] ["word"] (defScope s_is_order) := ⟨rfl, rfl, rfl, by decide +kernel, rfl, by decide +kernel, by decide +kernel⟩
theorem sc_writing : FnScope ["word", "name", "data", "following"] ["word"] (defScope s_writing) := ⟨rfl, rfl, rfl, by decide +kernel, rfl, by decide +kernel, by decide +kernel⟩
theorem sc_loads_d : FnScope ["code"] ["code"] (defScope s_loads_d) := ⟨rfl, rfl, rfl, by decide +kernel, rfl, by decide +kernel, by decide +kernel⟩
theorem sc_waits : FnScope ["code"] ["code"] (defScope s_waits) := ⟨rfl, rfl, rfl, by decide +kernel, rfl, by decide +kernel, by decide +kernel⟩
theorem sc_shifts_by_data : FnScope ["code"] ["code"] (defScope s_shifts_by_data) := ⟨rfl, rfl, rfl, by decide +kernel, rfl, by decide +kernel, by decide +kernel⟩
theorem sc_has_data_address : FnScope ["code"] ["code"] (defScope s_has_data_address) := ⟨rfl, rfl, rfl, by decide +kernel, rfl, by decide +kernel, by decide +kernel⟩
theorem sc_stopping_state : FnScope ["word", "is_card_left", "code"] ["word", "is_card_left"] (defScope s_stopping_state) := ⟨rfl, rfl, rfl, by decide +kernel, rfl, by decide +kernel, by decide +kernel⟩
theorem sc_nothing_more : FnScope ["machine", "address"] ["machine", "address"] (defScope s_nothing_more) := ⟨rfl, rfl, rfl, by decide +kernel, rfl, by decide +kernel, by decide +kernel⟩
theorem sc_load_a : FnScope ["machine", "address"] ["machine", "address"] (defScope s_load_a) := ⟨rfl, rfl, rfl, by decide +kernel, rfl, by decide +kernel, by decide +kernel⟩
theorem sc_load_negated : FnScope ["machine", "address"] ["machine", "address"] (defScope s_load_negated) := ⟨rfl, rfl, rfl, by decide +kernel, rfl, by decide +kernel, by decide +kernel⟩
theorem sc_add : FnScope ["machine", "address"] ["machine", "address"] (defScope s_add) := ⟨rfl, rfl, rfl, by decide +kernel, rfl, by decide +kernel, by decide +kernel⟩
theorem sc_subtract : FnScope ["machine", "address"] ["machine", "address"] (defScope s_subtract) := ⟨rfl, rfl, rfl, by decide +kernel, rfl, by decide +kernel, by decide +kernel⟩
theorem sc_add_unsigned : FnScope ["machine", "address"] ["machine", "address"] (defScope s_add_unsigned) := ⟨rfl, rfl, rfl, by decide +kernel, rfl, by decide +kernel, by decide +kernel⟩
theorem sc_subtract_unsigned : FnScope ["machine", "address"] ["machine", "address"] (defScope s_subtract_unsigned) := ⟨rfl, rfl, rfl, by decide +kernel, rfl, by decide +kernel, by decide +kernel⟩
theorem sc_add_upper : FnScope ["machine", "address"] ["machine", "address"] (defScope s_add_upper) := ⟨rfl, rfl, rfl, by decide +kernel, rfl, by decide +kernel, by decide +kernel⟩
theorem sc_subtract_upper : FnScope ["machine", "address"] ["machine", "address"] (defScope s_subtract_upper) := ⟨rfl, rfl, rfl, by decide +kernel, rfl, by decide +kernel, by decide +kernel⟩
theorem sc_multiply : FnScope ["machine", "address"] ["machine", "address"] (defScope s_multiply) := ⟨rfl, rfl, rfl, by decide +kernel, rfl, by decide +kernel, by decide +kernel⟩
theorem sc_divide : FnScope ["machine", "address", "quotient"] ["machine", "address"] (defScope s_divide) := ⟨rfl, rfl, rfl, by decide +kernel, rfl, by decide +kernel, by decide +kernel⟩
theorem sc_store_lower : FnScope ["machine", "address"] ["machine", "address"] (defScope s_store_lower) := ⟨rfl, rfl, rfl, by decide +kernel, rfl, by decide +kernel, by decide +kernel⟩
theorem sc_store_upper : FnScope ["machine", "address"] ["machine", "address"] (defScope s_store_upper) := ⟨rfl, rfl, rfl, by decide +kernel, rfl, by decide +kernel, by decide +kernel⟩
theorem sc_store_d : FnScope ["machine", "address"] ["machine", "address"] (defScope s_store_d) := ⟨rfl, rfl, rfl, by decide +kernel, rfl, by decide +kernel, by decide +kernel⟩
theorem sc_shift_left : FnScope ["machine", "address"] ["machine", "address"] (defScope s_shift_left) := ⟨rfl, rfl, rfl, by decide +kernel, rfl, by decide +kernel, by decide +kernel⟩
theorem sc_shift_right : FnScope ["machine", "address"] ["machine", "address"] (defScope s_shift_right) := ⟨rfl, rfl, rfl, by decide +kernel, rfl, by decide +kernel, by decide +kernel⟩
theorem sc_shift_right_rounded : FnScope ["machine", "address"] ["machine", "address"] (defScope s_shift_right_rounded) := ⟨rfl, rfl, rfl, by decide +kernel, rfl, by decide +kernel, by decide +kernel⟩
theorem sc_shift_and_count : FnScope ["machine", "address"] ["machine", "address"] (defScope s_shift_and_count) := ⟨rfl, rfl, rfl, by decide +kernel, rfl, by decide +kernel, by decide +kernel⟩
theorem sc_branch_below_zero : FnScope ["machine", "address"] ["machine", "address"] (defScope s_branch_below_zero) := ⟨rfl, rfl, rfl, by decide +kernel, rfl, by decide +kernel, by decide +kernel⟩
theorem sc_branch_not_zero : FnScope ["machine", "address"] ["machine", "address"] (defScope s_branch_not_zero) := ⟨rfl, rfl, rfl, by decide +kernel, rfl, by decide +kernel, by decide +kernel⟩
theorem sc_branch_over : FnScope ["machine", "address"] ["machine", "address"] (defScope s_branch_over) := ⟨rfl, rfl, rfl, by decide +kernel, rfl, by decide +kernel, by decide +kernel⟩
theorem sc_look_up : FnScope ["machine", "address", "before", "word"] ["machine", "address"] (defScope s_look_up) := ⟨rfl, rfl, rfl, by decide +kernel, rfl, by decide +kernel, by decide +kernel⟩
theorem sc_act : FnScope ["machine", "cards", "code", "address", "action"] ["machine", "cards", "code", "address"] (defScope s_act) := ⟨rfl, rfl, rfl, by decide +kernel, rfl, by decide +kernel, by decide +kernel⟩
theorem sc_carry_out : FnScope ["machine", "cards", "word", "tick", "code", "address", "behind"] ["machine", "cards", "word", "tick"] (defScope s_carry_out) := ⟨rfl, rfl, rfl, by decide +kernel, rfl, by decide +kernel, by decide +kernel⟩
theorem sc_one_order : FnScope ["machine", "cards", "word", "tick", "state"] ["machine", "cards"] (defScope s_one_order) := ⟨rfl, rfl, rfl, by decide +kernel, rfl, by decide +kernel, by decide +kernel⟩
theorem sc_run_orders : FnScope ["machine", "cards", "orders", "until", "begun"] ["machine", "cards", "orders", "until"] (defScope s_run_orders) := ⟨rfl, rfl, rfl, by decide +kernel, rfl, by decide +kernel, by decide +kernel⟩
theorem sc_new : FnScope ["machine", "start"] ["machine", "start"] (defScope s_new) := ⟨rfl, rfl, rfl, by decide +kernel, rfl, by decide +kernel, by decide +kernel⟩
theorem sc_poke : FnScope ["machine", "address", "word"] ["machine", "address", "word"] (defScope s_poke) := ⟨rfl, rfl, rfl, by decide +kernel, rfl, by decide +kernel, by decide +kernel⟩
theorem sc_peek : FnScope ["machine", "address"] ["machine", "address"] (defScope s_peek) := ⟨rfl, rfl, rfl, by decide +kernel, rfl, by decide +kernel, by decide +kernel⟩
theorem sc_told : FnScope ["machine"] ["machine"] (defScope s_told) := ⟨rfl, rfl, rfl, by decide +kernel, rfl, by decide +kernel, by decide +kernel⟩
theorem sc_are_cards : FnScope ["words", "word"] ["words"] (defScope s_are_cards) := ⟨rfl, rfl, rfl, by decide +kernel, rfl, by decide +kernel, by decide +kernel⟩
theorem sc_run : FnScope ["machine", "orders", "until", "words", "cards", "begun"] ["machine", "orders", "until", "words"] (defScope s_run) := ⟨rfl, rfl, rfl, by decide +kernel, rfl, by decide +kernel, by decide +kernel⟩
theorem sc_order : FnScope ["word", "sign"] ["word"] (defScope s_order) := ⟨rfl, rfl, rfl, by decide +kernel, rfl, by decide +kernel, by decide +kernel⟩
theorem sc_drum : FnScope ["machine", "answer", "address", "word"] ["machine"] (defScope s_drum) := ⟨rfl, rfl, rfl, by decide +kernel, rfl, by decide +kernel, by decide +kernel⟩
theorem sc_is_drum_form : FnScope ["numbers", "before", "at", "address", "word"] ["numbers"] (defScope s_is_drum_form) := ⟨rfl, rfl, rfl, by decide +kernel, rfl, by decide +kernel, by decide +kernel⟩
theorem sc_are_values : FnScope ["state", "over", "n", "t", "a", "d"] ["state", "over", "n", "t", "a", "d"] (defScope s_are_values) := ⟨rfl, rfl, rfl, by decide +kernel, rfl, by decide +kernel, by decide +kernel⟩
theorem sc_drum_of : FnScope ["numbers", "words", "at"] ["numbers"] (defScope s_drum_of) := ⟨rfl, rfl, rfl, by decide +kernel, rfl, by decide +kernel, by decide +kernel⟩
theorem sc_load : FnScope ["machine", "state", "over", "n", "t", "a", "d", "numbers"] ["machine", "state", "over", "n", "t", "a", "d", "numbers"] (defScope s_load) := ⟨rfl, rfl, rfl, by decide +kernel, rfl, by decide +kernel, by decide +kernel⟩
theorem sc_answer_one : FnScope ["machine", "call", "arguments", "numbers"] ["machine", "call", "arguments", "numbers"] (defScope s_answer_one) := ⟨rfl, rfl, rfl, by decide +kernel, rfl, by decide +kernel, by decide +kernel⟩
theorem sc_answers : FnScope ["calls", "machine", "given", "at", "call", "behind", "arguments", "numbers", "begin", "answer"] ["calls"] (defScope s_answers) := ⟨rfl, rfl, rfl, by decide +kernel, rfl, by decide +kernel, by decide +kernel⟩
structure Ad where
  is_word : Addr
  is_long : Addr
  with_sign_of : Addr
  divided : Addr
  divided_rounded : Addr
  upper_word : Addr
  lower_word : Addr
  lower_twenty : Addr
  digit_sum : Addr
  power_of_ten : Addr
  tens_that_fit : Addr
  is_address : Addr
  is_tick : Addr
  next_around : Addr
  band_from : Addr
  waited : Addr
  Machine_init : Addr
  Machine_begin : Addr
  Machine_keep : Addr
  Machine_pass_to : Addr
  Cards_init : Addr
  Cards_is_left : Addr
  Cards_read_to : Addr
  Cards_punch_from : Addr
  code_of : Addr
  data_of : Addr
  next_of : Addr
  is_order : Addr
  writing : Addr
  loads_d : Addr
  waits : Addr
  shifts_by_data : Addr
  has_data_address : Addr
  stopping_state : Addr
  nothing_more : Addr
  load_a : Addr
  load_negated : Addr
  add : Addr
  subtract : Addr
  add_unsigned : Addr
  subtract_unsigned : Addr
  add_upper : Addr
  subtract_upper : Addr
  multiply : Addr
  divide : Addr
  store_lower : Addr
  store_upper : Addr
  store_d : Addr
  shift_left : Addr
  shift_right : Addr
  shift_right_rounded : Addr
  shift_and_count : Addr
  branch_below_zero : Addr
  branch_not_zero : Addr
  branch_over : Addr
  look_up : Addr
  act : Addr
  carry_out : Addr
  one_order : Addr
  run_orders : Addr
  new : Addr
  poke : Addr
  peek : Addr
  told : Addr
  are_cards : Addr
  run : Addr
  order : Addr
  drum : Addr
  is_drum_form : Addr
  are_values : Addr
  drum_of : Addr
  load : Addr
  answer_one : Addr
  answers : Addr
  Machine : Addr
  Cards : Addr
  NAMES : Addr
  ACTIONS : Addr
  ARGUMENT_COUNTS : Addr
  CALLS_WITH_A_LIST : Addr
structure Fds where
  is_word : FuncData
  is_long : FuncData
  with_sign_of : FuncData
  divided : FuncData
  divided_rounded : FuncData
  upper_word : FuncData
  lower_word : FuncData
  lower_twenty : FuncData
  digit_sum : FuncData
  power_of_ten : FuncData
  tens_that_fit : FuncData
  is_address : FuncData
  is_tick : FuncData
  next_around : FuncData
  band_from : FuncData
  waited : FuncData
  Machine_init : FuncData
  Machine_begin : FuncData
  Machine_keep : FuncData
  Machine_pass_to : FuncData
  Cards_init : FuncData
  Cards_is_left : FuncData
  Cards_read_to : FuncData
  Cards_punch_from : FuncData
  code_of : FuncData
  data_of : FuncData
  next_of : FuncData
  is_order : FuncData
  writing : FuncData
  loads_d : FuncData
  waits : FuncData
  shifts_by_data : FuncData
  has_data_address : FuncData
  stopping_state : FuncData
  nothing_more : FuncData
  load_a : FuncData
  load_negated : FuncData
  add : FuncData
  subtract : FuncData
  add_unsigned : FuncData
  subtract_unsigned : FuncData
  add_upper : FuncData
  subtract_upper : FuncData
  multiply : FuncData
  divide : FuncData
  store_lower : FuncData
  store_upper : FuncData
  store_d : FuncData
  shift_left : FuncData
  shift_right : FuncData
  shift_right_rounded : FuncData
  shift_and_count : FuncData
  branch_below_zero : FuncData
  branch_not_zero : FuncData
  branch_over : FuncData
  look_up : FuncData
  act : FuncData
  carry_out : FuncData
  one_order : FuncData
  run_orders : FuncData
  new : FuncData
  poke : FuncData
  peek : FuncData
  told : FuncData
  are_cards : FuncData
  run : FuncData
  order : FuncData
  drum : FuncData
  is_drum_form : FuncData
  are_values : FuncData
  drum_of : FuncData
  load : FuncData
  answer_one : FuncData
  answers : FuncData
def kv_NAMES : List (Key × V) := [(Sum.inl 0, .str "HLT"), (Sum.inl 1, .str "NOP"), (Sum.inl 10, .str "LDA"), (Sum.inl 11, .str "LDN"), (Sum.inl 12, .str "ADD"), (Sum.inl 13, .str "SUB"), (Sum.inl 14, .str "ADM"), (Sum.inl 15, .str "SBM"), (Sum.inl 16, .str "ADU"), (Sum.inl 17, .str "SBU"), (Sum.inl 18, .str "LDD"), (Sum.inl 20, .str "MUL"), (Sum.inl 21, .str "DIV"), (Sum.inl 30, .str "STL"), (Sum.inl 31, .str "STU"), (Sum.inl 32, .str "STD"), (Sum.inl 40, .str "SHL"), (Sum.inl 41, .str "SHR"), (Sum.inl 42, .str "SRR"), (Sum.inl 43, .str "SCT"), (Sum.inl 50, .str "BMI"), (Sum.inl 51, .str "BNZ"), (Sum.inl 52, .str "BOV"), (Sum.inl 60, .str "TLU"), (Sum.inl 70, .str "RDC"), (Sum.inl 71, .str "PCH")]
def kv_ACTIONS (a : Ad) : List (Key × V) := [(Sum.inl 1, .ref a.nothing_more), (Sum.inl 10, .ref a.load_a), (Sum.inl 11, .ref a.load_negated), (Sum.inl 12, .ref a.add), (Sum.inl 13, .ref a.subtract), (Sum.inl 14, .ref a.add_unsigned), (Sum.inl 15, .ref a.subtract_unsigned), (Sum.inl 16, .ref a.add_upper), (Sum.inl 17, .ref a.subtract_upper), (Sum.inl 18, .ref a.nothing_more), (Sum.inl 20, .ref a.multiply), (Sum.inl 21, .ref a.divide), (Sum.inl 30, .ref a.store_lower), (Sum.inl 31, .ref a.store_upper), (Sum.inl 32, .ref a.store_d), (Sum.inl 40, .ref a.shift_left), (Sum.inl 41, .ref a.shift_right), (Sum.inl 42, .ref a.shift_right_rounded), (Sum.inl 43, .ref a.shift_and_count), (Sum.inl 50, .ref a.branch_below_zero), (Sum.inl 51, .ref a.branch_not_zero), (Sum.inl 52, .ref a.branch_over), (Sum.inl 60, .ref a.look_up)]
def kv_ARGUMENT_COUNTS : List (Key × V) := [(Sum.inl 1, .int 1), (Sum.inl 2, .int 2), (Sum.inl 3, .int 1), (Sum.inl 4, .int 0), (Sum.inl 5, .int 2), (Sum.inl 6, .int 1), (Sum.inl 7, .int 0), (Sum.inl 8, .int 6)]
structure Txt (K : PySem.W.Frag) (mg : Str → Option Value) (a : Ad) (d : Fds) : Prop where
  F_is_word : Fun K "is_word" "is_word" s_is_word a.is_word d.is_word
  B_is_word : Binds K d.is_word ["number"] []
  F_is_long : Fun K "is_long" "is_long" s_is_long a.is_long d.is_long
  B_is_long : Binds K d.is_long ["number"] []
  F_with_sign_of : Fun K "with_sign_of" "with_sign_of" s_with_sign_of a.with_sign_of d.with_sign_of
  B_with_sign_of : Binds K d.with_sign_of ["number", "size"] []
  F_divided : Fun K "divided" "divided" s_divided a.divided d.divided
  B_divided : Binds K d.divided ["number", "divisor"] []
  F_divided_rounded : Fun K "divided_rounded" "divided_rounded" s_divided_rounded a.divided_rounded d.divided_rounded
  B_divided_rounded : Binds K d.divided_rounded ["number", "divisor"] []
  F_upper_word : Fun K "upper_word" "upper_word" s_upper_word a.upper_word d.upper_word
  B_upper_word : Binds K d.upper_word ["number"] []
  F_lower_word : Fun K "lower_word" "lower_word" s_lower_word a.lower_word d.lower_word
  B_lower_word : Binds K d.lower_word ["number"] []
  F_lower_twenty : Fun K "lower_twenty" "lower_twenty" s_lower_twenty a.lower_twenty d.lower_twenty
  B_lower_twenty : Binds K d.lower_twenty ["number"] []
  F_digit_sum : Fun K "digit_sum" "digit_sum" s_digit_sum a.digit_sum d.digit_sum
  B_digit_sum : Binds K d.digit_sum ["number"] []
  F_power_of_ten : Fun K "power_of_ten" "power_of_ten" s_power_of_ten a.power_of_ten d.power_of_ten
  B_power_of_ten : Binds K d.power_of_ten ["exponent"] []
  F_tens_that_fit : Fun K "tens_that_fit" "tens_that_fit" s_tens_that_fit a.tens_that_fit d.tens_that_fit
  B_tens_that_fit : Binds K d.tens_that_fit ["number"] []
  F_is_address : Fun K "is_address" "is_address" s_is_address a.is_address d.is_address
  B_is_address : Binds K d.is_address ["number"] []
  F_is_tick : Fun K "is_tick" "is_tick" s_is_tick a.is_tick d.is_tick
  B_is_tick : Binds K d.is_tick ["number"] []
  F_next_around : Fun K "next_around" "next_around" s_next_around a.next_around d.next_around
  B_next_around : Binds K d.next_around ["address"] []
  F_band_from : Fun K "band_from" "band_from" s_band_from a.band_from d.band_from
  B_band_from : Binds K d.band_from ["drum", "address"] []
  F_waited : Fun K "waited" "waited" s_waited a.waited d.waited
  B_waited : Binds K d.waited ["tick", "address"] []
  F_Machine_init : Fun K "__init__" "Machine.__init__" s_Machine_init a.Machine_init d.Machine_init
  B_Machine_init : Binds K d.Machine_init ["self"] []
  F_Machine_begin : Fun K "begin" "Machine.begin" s_Machine_begin a.Machine_begin d.Machine_begin
  B_Machine_begin : Binds K d.Machine_begin ["self", "start"] []
  F_Machine_keep : Fun K "keep" "Machine.keep" s_Machine_keep a.Machine_keep d.Machine_keep
  B_Machine_keep : Binds K d.Machine_keep ["self", "number"] []
  F_Machine_pass_to : Fun K "pass_to" "Machine.pass_to" s_Machine_pass_to a.Machine_pass_to d.Machine_pass_to
  B_Machine_pass_to : Binds K d.Machine_pass_to ["self", "tick"] []
  F_Cards_init : Fun K "__init__" "Cards.__init__" s_Cards_init a.Cards_init d.Cards_init
  B_Cards_init : Binds K d.Cards_init ["self", "words"] []
  F_Cards_is_left : Fun K "is_left" "Cards.is_left" s_Cards_is_left a.Cards_is_left d.Cards_is_left
  B_Cards_is_left : Binds K d.Cards_is_left ["self"] []
  F_Cards_read_to : Fun K "read_to" "Cards.read_to" s_Cards_read_to a.Cards_read_to d.Cards_read_to
  B_Cards_read_to : Binds K d.Cards_read_to ["self", "drum", "address"] []
  F_Cards_punch_from : Fun K "punch_from" "Cards.punch_from" s_Cards_punch_from a.Cards_punch_from d.Cards_punch_from
  B_Cards_punch_from : Binds K d.Cards_punch_from ["self", "drum", "address"] []
  F_code_of : Fun K "code_of" "code_of" s_code_of a.code_of d.code_of
  B_code_of : Binds K d.code_of ["word"] []
  F_data_of : Fun K "data_of" "data_of" s_data_of a.data_of d.data_of
  B_data_of : Binds K d.data_of ["word"] []
  F_next_of : Fun K "next_of" "next_of" s_next_of a.next_of d.next_of
  B_next_of : Binds K d.next_of ["word"] []
  F_is_order : Fun K "is_order" "is_order" s_is_order a.is_order d.is_order
  B_is_order : Binds K d.is_order ["word"] []
  F_writing : Fun K "writing" "writing" s_writing a.writing d.writing
  B_writing : Binds K d.writing ["word"] []
  F_loads_d : Fun K "loads_d" "loads_d" s_loads_d a.loads_d d.loads_d
  B_loads_d : Binds K d.loads_d ["code"] []
  F_waits : Fun K "waits" "waits" s_waits a.waits d.waits
  B_waits : Binds K d.waits ["code"] []
  F_shifts_by_data : Fun K "shifts_by_data" "shifts_by_data" s_shifts_by_data a.shifts_by_data d.shifts_by_data
  B_shifts_by_data : Binds K d.shifts_by_data ["code"] []
  F_has_data_address : Fun K "has_data_address" "has_data_address" s_has_data_address a.has_data_address d.has_data_address
  B_has_data_address : Binds K d.has_data_address ["code"] []
  F_stopping_state : Fun K "stopping_state" "stopping_state" s_stopping_state a.stopping_state d.stopping_state
  B_stopping_state : Binds K d.stopping_state ["word", "is_card_left"] []
  F_nothing_more : Fun K "nothing_more" "nothing_more" s_nothing_more a.nothing_more d.nothing_more
  B_nothing_more : Binds K d.nothing_more ["machine", "address"] []
  F_load_a : Fun K "load_a" "load_a" s_load_a a.load_a d.load_a
  B_load_a : Binds K d.load_a ["machine", "address"] []
  F_load_negated : Fun K "load_negated" "load_negated" s_load_negated a.load_negated d.load_negated
  B_load_negated : Binds K d.load_negated ["machine", "address"] []
  F_add : Fun K "add" "add" s_add a.add d.add
  B_add : Binds K d.add ["machine", "address"] []
  F_subtract : Fun K "subtract" "subtract" s_subtract a.subtract d.subtract
  B_subtract : Binds K d.subtract ["machine", "address"] []
  F_add_unsigned : Fun K "add_unsigned" "add_unsigned" s_add_unsigned a.add_unsigned d.add_unsigned
  B_add_unsigned : Binds K d.add_unsigned ["machine", "address"] []
  F_subtract_unsigned : Fun K "subtract_unsigned" "subtract_unsigned" s_subtract_unsigned a.subtract_unsigned d.subtract_unsigned
  B_subtract_unsigned : Binds K d.subtract_unsigned ["machine", "address"] []
  F_add_upper : Fun K "add_upper" "add_upper" s_add_upper a.add_upper d.add_upper
  B_add_upper : Binds K d.add_upper ["machine", "address"] []
  F_subtract_upper : Fun K "subtract_upper" "subtract_upper" s_subtract_upper a.subtract_upper d.subtract_upper
  B_subtract_upper : Binds K d.subtract_upper ["machine", "address"] []
  F_multiply : Fun K "multiply" "multiply" s_multiply a.multiply d.multiply
  B_multiply : Binds K d.multiply ["machine", "address"] []
  F_divide : Fun K "divide" "divide" s_divide a.divide d.divide
  B_divide : Binds K d.divide ["machine", "address"] []
  F_store_lower : Fun K "store_lower" "store_lower" s_store_lower a.store_lower d.store_lower
  B_store_lower : Binds K d.store_lower ["machine", "address"] []
  F_store_upper : Fun K "store_upper" "store_upper" s_store_upper a.store_upper d.store_upper
  B_store_upper : Binds K d.store_upper ["machine", "address"] []
  F_store_d : Fun K "store_d" "store_d" s_store_d a.store_d d.store_d
  B_store_d : Binds K d.store_d ["machine", "address"] []
  F_shift_left : Fun K "shift_left" "shift_left" s_shift_left a.shift_left d.shift_left
  B_shift_left : Binds K d.shift_left ["machine", "address"] []
  F_shift_right : Fun K "shift_right" "shift_right" s_shift_right a.shift_right d.shift_right
  B_shift_right : Binds K d.shift_right ["machine", "address"] []
  F_shift_right_rounded : Fun K "shift_right_rounded" "shift_right_rounded" s_shift_right_rounded a.shift_right_rounded d.shift_right_rounded
  B_shift_right_rounded : Binds K d.shift_right_rounded ["machine", "address"] []
  F_shift_and_count : Fun K "shift_and_count" "shift_and_count" s_shift_and_count a.shift_and_count d.shift_and_count
  B_shift_and_count : Binds K d.shift_and_count ["machine", "address"] []
  F_branch_below_zero : Fun K "branch_below_zero" "branch_below_zero" s_branch_below_zero a.branch_below_zero d.branch_below_zero
  B_branch_below_zero : Binds K d.branch_below_zero ["machine", "address"] []
  F_branch_not_zero : Fun K "branch_not_zero" "branch_not_zero" s_branch_not_zero a.branch_not_zero d.branch_not_zero
  B_branch_not_zero : Binds K d.branch_not_zero ["machine", "address"] []
  F_branch_over : Fun K "branch_over" "branch_over" s_branch_over a.branch_over d.branch_over
  B_branch_over : Binds K d.branch_over ["machine", "address"] []
  F_look_up : Fun K "look_up" "look_up" s_look_up a.look_up d.look_up
  B_look_up : Binds K d.look_up ["machine", "address"] []
  F_act : Fun K "act" "act" s_act a.act d.act
  B_act : Binds K d.act ["machine", "cards", "code", "address"] []
  F_carry_out : Fun K "carry_out" "carry_out" s_carry_out a.carry_out d.carry_out
  B_carry_out : Binds K d.carry_out ["machine", "cards", "word", "tick"] []
  F_one_order : Fun K "one_order" "one_order" s_one_order a.one_order d.one_order
  B_one_order : Binds K d.one_order ["machine", "cards"] []
  F_run_orders : Fun K "run_orders" "run_orders" s_run_orders a.run_orders d.run_orders
  B_run_orders : Binds K d.run_orders ["machine", "cards", "orders", "until"] []
  F_new : Fun K "new" "new" s_new a.new d.new
  B_new : Binds K d.new ["machine", "start"] []
  F_poke : Fun K "poke" "poke" s_poke a.poke d.poke
  B_poke : Binds K d.poke ["machine", "address", "word"] []
  F_peek : Fun K "peek" "peek" s_peek a.peek d.peek
  B_peek : Binds K d.peek ["machine", "address"] []
  F_told : Fun K "told" "told" s_told a.told d.told
  B_told : Binds K d.told ["machine"] []
  F_are_cards : Fun K "are_cards" "are_cards" s_are_cards a.are_cards d.are_cards
  B_are_cards : Binds K d.are_cards ["words"] []
  F_run : Fun K "run" "run" s_run a.run d.run
  B_run : Binds K d.run ["machine", "orders", "until", "words"] []
  F_order : Fun K "order" "order" s_order a.order d.order
  B_order : Binds K d.order ["word"] []
  F_drum : Fun K "drum" "drum" s_drum a.drum d.drum
  B_drum : Binds K d.drum ["machine"] []
  F_is_drum_form : Fun K "is_drum_form" "is_drum_form" s_is_drum_form a.is_drum_form d.is_drum_form
  B_is_drum_form : Binds K d.is_drum_form ["numbers"] []
  F_are_values : Fun K "are_values" "are_values" s_are_values a.are_values d.are_values
  B_are_values : Binds K d.are_values ["state", "over", "n", "t", "a", "d"] []
  F_drum_of : Fun K "drum_of" "drum_of" s_drum_of a.drum_of d.drum_of
  B_drum_of : Binds K d.drum_of ["numbers"] []
  F_load : Fun K "load" "load" s_load a.load d.load
  B_load : Binds K d.load ["machine", "state", "over", "n", "t", "a", "d", "numbers"] []
  F_answer_one : Fun K "answer_one" "answer_one" s_answer_one a.answer_one d.answer_one
  B_answer_one : Binds K d.answer_one ["machine", "call", "arguments", "numbers"] []
  F_answers : Fun K "answers" "answers" s_answers a.answers d.answers
  B_answers : Binds K d.answers ["calls"] []
  G_is_word : mg "is_word" = some (.ref a.is_word)
  G_is_long : mg "is_long" = some (.ref a.is_long)
  G_with_sign_of : mg "with_sign_of" = some (.ref a.with_sign_of)
  G_divided : mg "divided" = some (.ref a.divided)
  G_divided_rounded : mg "divided_rounded" = some (.ref a.divided_rounded)
  G_upper_word : mg "upper_word" = some (.ref a.upper_word)
  G_lower_word : mg "lower_word" = some (.ref a.lower_word)
  G_lower_twenty : mg "lower_twenty" = some (.ref a.lower_twenty)
  G_digit_sum : mg "digit_sum" = some (.ref a.digit_sum)
  G_power_of_ten : mg "power_of_ten" = some (.ref a.power_of_ten)
  G_tens_that_fit : mg "tens_that_fit" = some (.ref a.tens_that_fit)
  G_is_address : mg "is_address" = some (.ref a.is_address)
  G_is_tick : mg "is_tick" = some (.ref a.is_tick)
  G_next_around : mg "next_around" = some (.ref a.next_around)
  G_band_from : mg "band_from" = some (.ref a.band_from)
  G_waited : mg "waited" = some (.ref a.waited)
  G_code_of : mg "code_of" = some (.ref a.code_of)
  G_data_of : mg "data_of" = some (.ref a.data_of)
  G_next_of : mg "next_of" = some (.ref a.next_of)
  G_is_order : mg "is_order" = some (.ref a.is_order)
  G_writing : mg "writing" = some (.ref a.writing)
  G_loads_d : mg "loads_d" = some (.ref a.loads_d)
  G_waits : mg "waits" = some (.ref a.waits)
  G_shifts_by_data : mg "shifts_by_data" = some (.ref a.shifts_by_data)
  G_has_data_address : mg "has_data_address" = some (.ref a.has_data_address)
  G_stopping_state : mg "stopping_state" = some (.ref a.stopping_state)
  G_nothing_more : mg "nothing_more" = some (.ref a.nothing_more)
  G_load_a : mg "load_a" = some (.ref a.load_a)
  G_load_negated : mg "load_negated" = some (.ref a.load_negated)
  G_add : mg "add" = some (.ref a.add)
  G_subtract : mg "subtract" = some (.ref a.subtract)
  G_add_unsigned : mg "add_unsigned" = some (.ref a.add_unsigned)
  G_subtract_unsigned : mg "subtract_unsigned" = some (.ref a.subtract_unsigned)
  G_add_upper : mg "add_upper" = some (.ref a.add_upper)
  G_subtract_upper : mg "subtract_upper" = some (.ref a.subtract_upper)
  G_multiply : mg "multiply" = some (.ref a.multiply)
  G_divide : mg "divide" = some (.ref a.divide)
  G_store_lower : mg "store_lower" = some (.ref a.store_lower)
  G_store_upper : mg "store_upper" = some (.ref a.store_upper)
  G_store_d : mg "store_d" = some (.ref a.store_d)
  G_shift_left : mg "shift_left" = some (.ref a.shift_left)
  G_shift_right : mg "shift_right" = some (.ref a.shift_right)
  G_shift_right_rounded : mg "shift_right_rounded" = some (.ref a.shift_right_rounded)
  G_shift_and_count : mg "shift_and_count" = some (.ref a.shift_and_count)
  G_branch_below_zero : mg "branch_below_zero" = some (.ref a.branch_below_zero)
  G_branch_not_zero : mg "branch_not_zero" = some (.ref a.branch_not_zero)
  G_branch_over : mg "branch_over" = some (.ref a.branch_over)
  G_look_up : mg "look_up" = some (.ref a.look_up)
  G_act : mg "act" = some (.ref a.act)
  G_carry_out : mg "carry_out" = some (.ref a.carry_out)
  G_one_order : mg "one_order" = some (.ref a.one_order)
  G_run_orders : mg "run_orders" = some (.ref a.run_orders)
  G_new : mg "new" = some (.ref a.new)
  G_poke : mg "poke" = some (.ref a.poke)
  G_peek : mg "peek" = some (.ref a.peek)
  G_told : mg "told" = some (.ref a.told)
  G_are_cards : mg "are_cards" = some (.ref a.are_cards)
  G_run : mg "run" = some (.ref a.run)
  G_order : mg "order" = some (.ref a.order)
  G_drum : mg "drum" = some (.ref a.drum)
  G_is_drum_form : mg "is_drum_form" = some (.ref a.is_drum_form)
  G_are_values : mg "are_values" = some (.ref a.are_values)
  G_drum_of : mg "drum_of" = some (.ref a.drum_of)
  G_load : mg "load" = some (.ref a.load)
  G_answer_one : mg "answer_one" = some (.ref a.answer_one)
  G_answers : mg "answers" = some (.ref a.answers)
  cl_Machine : Cls K a.Machine
  G_Machine : mg "Machine" = some (.ref a.Machine)
  M_Machine : Mk K a.Machine a.Machine_init
  n_Machine_state : NoAttr K a.Machine "state"
  n_Machine_over : NoAttr K a.Machine "over"
  n_Machine_n : NoAttr K a.Machine "n"
  n_Machine_t : NoAttr K a.Machine "t"
  n_Machine_a : NoAttr K a.Machine "a"
  n_Machine_d : NoAttr K a.Machine "d"
  n_Machine_drum : NoAttr K a.Machine "drum"
  cl_Cards : Cls K a.Cards
  G_Cards : mg "Cards" = some (.ref a.Cards)
  M_Cards : Mk K a.Cards a.Cards_init
  n_Cards_words : NoAttr K a.Cards "words"
  n_Cards_read_count : NoAttr K a.Cards "read_count"
  n_Cards_punched : NoAttr K a.Cards "punched"
  m_Machine_begin : Meth K a.Machine "begin" a.Machine_begin
  m_Machine_keep : Meth K a.Machine "keep" a.Machine_keep
  m_Machine_pass_to : Meth K a.Machine "pass_to" a.Machine_pass_to
  m_Cards_is_left : Meth K a.Cards "is_left" a.Cards_is_left
  m_Cards_read_to : Meth K a.Cards "read_to" a.Cards_read_to
  m_Cards_punch_from : Meth K a.Cards "punch_from" a.Cards_punch_from
  c_LARGEST_WORD : ∃ t, mg "LARGEST_WORD" = some (.int 9999999999 t)
  c_LARGEST_LONG : ∃ t, mg "LARGEST_LONG" = some (.int 99999999999999999999 t)
  c_WORD_BASE : ∃ t, mg "WORD_BASE" = some (.int 10000000000 t)
  c_LONG_BASE : ∃ t, mg "LONG_BASE" = some (.int 100000000000000000000 t)
  c_LONG_DIGITS : ∃ t, mg "LONG_DIGITS" = some (.int 20 t)
  c_DRUM_SIZE : ∃ t, mg "DRUM_SIZE" = some (.int 2000 t)
  c_BAND_SIZE : ∃ t, mg "BAND_SIZE" = some (.int 40 t)
  c_TICK_COUNT : ∃ t, mg "TICK_COUNT" = some (.int 18446744073709551616 t)
  c_CARD_SIZE : ∃ t, mg "CARD_SIZE" = some (.int 8 t)
  c_HALT : ∃ t, mg "HALT" = some (.int 0 t)
  c_NO_OPERATION : ∃ t, mg "NO_OPERATION" = some (.int 1 t)
  c_READ_CARD : ∃ t, mg "READ_CARD" = some (.int 70 t)
  c_PUNCH_CARD : ∃ t, mg "PUNCH_CARD" = some (.int 71 t)
  c_NAMES : mg "NAMES" = some (.ref a.NAMES)
  k_NAMES : KDict K a.NAMES (kv_NAMES)
  c_LARGEST_SHIFT : ∃ t, mg "LARGEST_SHIFT" = some (.int 20 t)
  c_GOES_ON : ∃ t, mg "GOES_ON" = some (.int 0 t)
  c_STOPPED_BY_ORDER : ∃ t, mg "STOPPED_BY_ORDER" = some (.int 1 t)
  c_BELOW_ZERO : ∃ t, mg "BELOW_ZERO" = some (.int 2 t)
  c_NO_SUCH_CODE : ∃ t, mg "NO_SUCH_CODE" = some (.int 3 t)
  c_NO_ADDRESS : ∃ t, mg "NO_ADDRESS" = some (.int 4 t)
  c_NO_SHIFT : ∃ t, mg "NO_SHIFT" = some (.int 5 t)
  c_NO_CARD : ∃ t, mg "NO_CARD" = some (.int 6 t)
  c_PASSED_WHERE_NONE : ∃ t, mg "PASSED_WHERE_NONE" = some (.int 39 t)
  c_ACTIONS : mg "ACTIONS" = some (.ref a.ACTIONS)
  k_ACTIONS : KDict K a.ACTIONS (kv_ACTIONS a)
  c_TICKS_TO_TAKE_APART : ∃ t, mg "TICKS_TO_TAKE_APART" = some (.int 3 t)
  c_TICKS_OF_A_CARD : ∃ t, mg "TICKS_OF_A_CARD" = some (.int 60 t)
  c_NEW : ∃ t, mg "NEW" = some (.int 1 t)
  c_POKE : ∃ t, mg "POKE" = some (.int 2 t)
  c_PEEK : ∃ t, mg "PEEK" = some (.int 3 t)
  c_TOLD : ∃ t, mg "TOLD" = some (.int 4 t)
  c_RUN : ∃ t, mg "RUN" = some (.int 5 t)
  c_ORDER : ∃ t, mg "ORDER" = some (.int 6 t)
  c_DRUM : ∃ t, mg "DRUM" = some (.int 7 t)
  c_ARGUMENT_COUNTS : mg "ARGUMENT_COUNTS" = some (.ref a.ARGUMENT_COUNTS)
  k_ARGUMENT_COUNTS : KDict K a.ARGUMENT_COUNTS (kv_ARGUMENT_COUNTS)
  c_CALLS_WITH_A_LIST : mg "CALLS_WITH_A_LIST" = some (.ref a.CALLS_WITH_A_LIST)
  k_CALLS_WITH_A_LIST : KTup K a.CALLS_WITH_A_LIST [.int 5, .int 8]
  c_DONE : ∃ t, mg "DONE" = some (.int 0 t)
  c_NOT_GRANTED : ∃ t, mg "NOT_GRANTED" = some (.int (-1) t)
  c_NOT_OF_THE_FORM : ∃ t, mg "NOT_OF_THE_FORM" = some (.int (-6) t)
  c_MOST_ORDERS : ∃ t, mg "MOST_ORDERS" = some (.int 10000 t)
  c_MOST_CARD_WORDS : ∃ t, mg "MOST_CARD_WORDS" = some (.int 512 t)
  c_LAST_STATE : ∃ t, mg "LAST_STATE" = some (.int 6 t)
  b_abs : mg "abs" = none
  b_all : mg "all" = none
  b_enumerate : mg "enumerate" = none
  b_len : mg "len" = none
  b_ord : mg "ord" = none
  b_range : mg "range" = none
  b_str : mg "str" = none
/-! ### the fields of Machine -/
theorem sne_Machine_state_over : ((("state" : Str) = "over")) = False := eq_false (by decide +kernel)
theorem sne_Machine_state_n : ((("state" : Str) = "n")) = False := eq_false (by decide +kernel)
theorem sne_Machine_state_t : ((("state" : Str) = "t")) = False := eq_false (by decide +kernel)
theorem sne_Machine_state_a : ((("state" : Str) = "a")) = False := eq_false (by decide +kernel)
theorem sne_Machine_state_d : ((("state" : Str) = "d")) = False := eq_false (by decide +kernel)
theorem sne_Machine_state_drum : ((("state" : Str) = "drum")) = False := eq_false (by decide +kernel)
theorem sne_Machine_state_begin : ((("state" : Str) = "begin")) = False := eq_false (by decide +kernel)
theorem sne_Machine_state_keep : ((("state" : Str) = "keep")) = False := eq_false (by decide +kernel)
theorem sne_Machine_state_pass_to : ((("state" : Str) = "pass_to")) = False := eq_false (by decide +kernel)
theorem sne_Machine_over_state : ((("over" : Str) = "state")) = False := eq_false (by decide +kernel)
theorem sne_Machine_over_n : ((("over" : Str) = "n")) = False := eq_false (by decide +kernel)
theorem sne_Machine_over_t : ((("over" : Str) = "t")) = False := eq_false (by decide +kernel)
theorem sne_Machine_over_a : ((("over" : Str) = "a")) = False := eq_false (by decide +kernel)
theorem sne_Machine_over_d : ((("over" : Str) = "d")) = False := eq_false (by decide +kernel)
theorem sne_Machine_over_drum : ((("over" : Str) = "drum")) = False := eq_false (by decide +kernel)
theorem sne_Machine_over_begin : ((("over" : Str) = "begin")) = False := eq_false (by decide +kernel)
theorem sne_Machine_over_keep : ((("over" : Str) = "keep")) = False := eq_false (by decide +kernel)
theorem sne_Machine_over_pass_to : ((("over" : Str) = "pass_to")) = False := eq_false (by decide +kernel)
theorem sne_Machine_n_state : ((("n" : Str) = "state")) = False := eq_false (by decide +kernel)
theorem sne_Machine_n_over : ((("n" : Str) = "over")) = False := eq_false (by decide +kernel)
theorem sne_Machine_n_t : ((("n" : Str) = "t")) = False := eq_false (by decide +kernel)
theorem sne_Machine_n_a : ((("n" : Str) = "a")) = False := eq_false (by decide +kernel)
theorem sne_Machine_n_d : ((("n" : Str) = "d")) = False := eq_false (by decide +kernel)
theorem sne_Machine_n_drum : ((("n" : Str) = "drum")) = False := eq_false (by decide +kernel)
theorem sne_Machine_n_begin : ((("n" : Str) = "begin")) = False := eq_false (by decide +kernel)
theorem sne_Machine_n_keep : ((("n" : Str) = "keep")) = False := eq_false (by decide +kernel)
theorem sne_Machine_n_pass_to : ((("n" : Str) = "pass_to")) = False := eq_false (by decide +kernel)
theorem sne_Machine_t_state : ((("t" : Str) = "state")) = False := eq_false (by decide +kernel)
theorem sne_Machine_t_over : ((("t" : Str) = "over")) = False := eq_false (by decide +kernel)
theorem sne_Machine_t_n : ((("t" : Str) = "n")) = False := eq_false (by decide +kernel)
theorem sne_Machine_t_a : ((("t" : Str) = "a")) = False := eq_false (by decide +kernel)
theorem sne_Machine_t_d : ((("t" : Str) = "d")) = False := eq_false (by decide +kernel)
theorem sne_Machine_t_drum : ((("t" : Str) = "drum")) = False := eq_false (by decide +kernel)
theorem sne_Machine_t_begin : ((("t" : Str) = "begin")) = False := eq_false (by decide +kernel)
theorem sne_Machine_t_keep : ((("t" : Str) = "keep")) = False := eq_false (by decide +kernel)
theorem sne_Machine_t_pass_to : ((("t" : Str) = "pass_to")) = False := eq_false (by decide +kernel)
theorem sne_Machine_a_state : ((("a" : Str) = "state")) = False := eq_false (by decide +kernel)
theorem sne_Machine_a_over : ((("a" : Str) = "over")) = False := eq_false (by decide +kernel)
theorem sne_Machine_a_n : ((("a" : Str) = "n")) = False := eq_false (by decide +kernel)
theorem sne_Machine_a_t : ((("a" : Str) = "t")) = False := eq_false (by decide +kernel)
theorem sne_Machine_a_d : ((("a" : Str) = "d")) = False := eq_false (by decide +kernel)
theorem sne_Machine_a_drum : ((("a" : Str) = "drum")) = False := eq_false (by decide +kernel)
theorem sne_Machine_a_begin : ((("a" : Str) = "begin")) = False := eq_false (by decide +kernel)
theorem sne_Machine_a_keep : ((("a" : Str) = "keep")) = False := eq_false (by decide +kernel)
theorem sne_Machine_a_pass_to : ((("a" : Str) = "pass_to")) = False := eq_false (by decide +kernel)
theorem sne_Machine_d_state : ((("d" : Str) = "state")) = False := eq_false (by decide +kernel)
theorem sne_Machine_d_over : ((("d" : Str) = "over")) = False := eq_false (by decide +kernel)
theorem sne_Machine_d_n : ((("d" : Str) = "n")) = False := eq_false (by decide +kernel)
theorem sne_Machine_d_t : ((("d" : Str) = "t")) = False := eq_false (by decide +kernel)
theorem sne_Machine_d_a : ((("d" : Str) = "a")) = False := eq_false (by decide +kernel)
theorem sne_Machine_d_drum : ((("d" : Str) = "drum")) = False := eq_false (by decide +kernel)
theorem sne_Machine_d_begin : ((("d" : Str) = "begin")) = False := eq_false (by decide +kernel)
theorem sne_Machine_d_keep : ((("d" : Str) = "keep")) = False := eq_false (by decide +kernel)
theorem sne_Machine_d_pass_to : ((("d" : Str) = "pass_to")) = False := eq_false (by decide +kernel)
theorem sne_Machine_drum_state : ((("drum" : Str) = "state")) = False := eq_false (by decide +kernel)
theorem sne_Machine_drum_over : ((("drum" : Str) = "over")) = False := eq_false (by decide +kernel)
theorem sne_Machine_drum_n : ((("drum" : Str) = "n")) = False := eq_false (by decide +kernel)
theorem sne_Machine_drum_t : ((("drum" : Str) = "t")) = False := eq_false (by decide +kernel)
theorem sne_Machine_drum_a : ((("drum" : Str) = "a")) = False := eq_false (by decide +kernel)
theorem sne_Machine_drum_d : ((("drum" : Str) = "d")) = False := eq_false (by decide +kernel)
theorem sne_Machine_drum_begin : ((("drum" : Str) = "begin")) = False := eq_false (by decide +kernel)
theorem sne_Machine_drum_keep : ((("drum" : Str) = "keep")) = False := eq_false (by decide +kernel)
theorem sne_Machine_drum_pass_to : ((("drum" : Str) = "pass_to")) = False := eq_false (by decide +kernel)
def fs_Machine (v_state : Int) (v_over : Int) (v_n : Int) (v_t : Int) (v_a : Int) (v_d : Int) (v_drum : Addr) : List (Str × V) := [("state", .int v_state), ("over", .int v_over), ("n", .int v_n), ("t", .int v_t), ("a", .int v_a), ("d", .int v_d), ("drum", .ref v_drum)]
theorem lk_Machine_state {v_state : Int} {v_over : Int} {v_n : Int} {v_t : Int} {v_a : Int} {v_d : Int} {v_drum : Addr} : (fs_Machine v_state v_over v_n v_t v_a v_d v_drum).lookup ("state" : Str) = some (.int v_state) := lk_hit
theorem lk_Machine_over {v_state : Int} {v_over : Int} {v_n : Int} {v_t : Int} {v_a : Int} {v_d : Int} {v_drum : Addr} : (fs_Machine v_state v_over v_n v_t v_a v_d v_drum).lookup ("over" : Str) = some (.int v_over) := (lk_skip (by decide +kernel)).trans (lk_hit)
theorem lk_Machine_n {v_state : Int} {v_over : Int} {v_n : Int} {v_t : Int} {v_a : Int} {v_d : Int} {v_drum : Addr} : (fs_Machine v_state v_over v_n v_t v_a v_d v_drum).lookup ("n" : Str) = some (.int v_n) := (lk_skip (by decide +kernel)).trans ((lk_skip (by decide +kernel)).trans (lk_hit))
theorem lk_Machine_t {v_state : Int} {v_over : Int} {v_n : Int} {v_t : Int} {v_a : Int} {v_d : Int} {v_drum : Addr} : (fs_Machine v_state v_over v_n v_t v_a v_d v_drum).lookup ("t" : Str) = some (.int v_t) := (lk_skip (by decide +kernel)).trans ((lk_skip (by decide +kernel)).trans ((lk_skip (by decide +kernel)).trans (lk_hit)))
theorem lk_Machine_a {v_state : Int} {v_over : Int} {v_n : Int} {v_t : Int} {v_a : Int} {v_d : Int} {v_drum : Addr} : (fs_Machine v_state v_over v_n v_t v_a v_d v_drum).lookup ("a" : Str) = some (.int v_a) := (lk_skip (by decide +kernel)).trans ((lk_skip (by decide +kernel)).trans ((lk_skip (by decide +kernel)).trans ((lk_skip (by decide +kernel)).trans (lk_hit))))
theorem lk_Machine_d {v_state : Int} {v_over : Int} {v_n : Int} {v_t : Int} {v_a : Int} {v_d : Int} {v_drum : Addr} : (fs_Machine v_state v_over v_n v_t v_a v_d v_drum).lookup ("d" : Str) = some (.int v_d) := (lk_skip (by decide +kernel)).trans ((lk_skip (by decide +kernel)).trans ((lk_skip (by decide +kernel)).trans ((lk_skip (by decide +kernel)).trans ((lk_skip (by decide +kernel)).trans (lk_hit)))))
theorem lk_Machine_drum {v_state : Int} {v_over : Int} {v_n : Int} {v_t : Int} {v_a : Int} {v_d : Int} {v_drum : Addr} : (fs_Machine v_state v_over v_n v_t v_a v_d v_drum).lookup ("drum" : Str) = some (.ref v_drum) := (lk_skip (by decide +kernel)).trans ((lk_skip (by decide +kernel)).trans ((lk_skip (by decide +kernel)).trans ((lk_skip (by decide +kernel)).trans ((lk_skip (by decide +kernel)).trans ((lk_skip (by decide +kernel)).trans (lk_hit))))))
theorem no_Machine_begin {v_state : Int} {v_over : Int} {v_n : Int} {v_t : Int} {v_a : Int} {v_d : Int} {v_drum : Addr} : (fs_Machine v_state v_over v_n v_t v_a v_d v_drum).lookup ("begin" : Str) = none := (lk_skip (by decide +kernel)).trans ((lk_skip (by decide +kernel)).trans ((lk_skip (by decide +kernel)).trans ((lk_skip (by decide +kernel)).trans ((lk_skip (by decide +kernel)).trans ((lk_skip (by decide +kernel)).trans ((lk_skip (by decide +kernel)).trans (rfl)))))))
theorem no_Machine_keep {v_state : Int} {v_over : Int} {v_n : Int} {v_t : Int} {v_a : Int} {v_d : Int} {v_drum : Addr} : (fs_Machine v_state v_over v_n v_t v_a v_d v_drum).lookup ("keep" : Str) = none := (lk_skip (by decide +kernel)).trans ((lk_skip (by decide +kernel)).trans ((lk_skip (by decide +kernel)).trans ((lk_skip (by decide +kernel)).trans ((lk_skip (by decide +kernel)).trans ((lk_skip (by decide +kernel)).trans ((lk_skip (by decide +kernel)).trans (rfl)))))))
theorem no_Machine_pass_to {v_state : Int} {v_over : Int} {v_n : Int} {v_t : Int} {v_a : Int} {v_d : Int} {v_drum : Addr} : (fs_Machine v_state v_over v_n v_t v_a v_d v_drum).lookup ("pass_to" : Str) = none := (lk_skip (by decide +kernel)).trans ((lk_skip (by decide +kernel)).trans ((lk_skip (by decide +kernel)).trans ((lk_skip (by decide +kernel)).trans ((lk_skip (by decide +kernel)).trans ((lk_skip (by decide +kernel)).trans ((lk_skip (by decide +kernel)).trans (rfl)))))))
theorem pf_Machine_state {v_state : Int} {v_over : Int} {v_n : Int} {v_t : Int} {v_a : Int} {v_d : Int} {v_drum : Addr} {y : Int} : putF ("state" : Str) (.int y) (fs_Machine v_state v_over v_n v_t v_a v_d v_drum) = fs_Machine y v_over v_n v_t v_a v_d v_drum := by
  unfold fs_Machine
  rw [pf_hit]
theorem pf_Machine_over {v_state : Int} {v_over : Int} {v_n : Int} {v_t : Int} {v_a : Int} {v_d : Int} {v_drum : Addr} {y : Int} : putF ("over" : Str) (.int y) (fs_Machine v_state v_over v_n v_t v_a v_d v_drum) = fs_Machine v_state y v_n v_t v_a v_d v_drum := by
  unfold fs_Machine
  rw [pf_skip (by decide +kernel), pf_hit]
theorem pf_Machine_n {v_state : Int} {v_over : Int} {v_n : Int} {v_t : Int} {v_a : Int} {v_d : Int} {v_drum : Addr} {y : Int} : putF ("n" : Str) (.int y) (fs_Machine v_state v_over v_n v_t v_a v_d v_drum) = fs_Machine v_state v_over y v_t v_a v_d v_drum := by
  unfold fs_Machine
  rw [pf_skip (by decide +kernel), pf_skip (by decide +kernel), pf_hit]
theorem pf_Machine_t {v_state : Int} {v_over : Int} {v_n : Int} {v_t : Int} {v_a : Int} {v_d : Int} {v_drum : Addr} {y : Int} : putF ("t" : Str) (.int y) (fs_Machine v_state v_over v_n v_t v_a v_d v_drum) = fs_Machine v_state v_over v_n y v_a v_d v_drum := by
  unfold fs_Machine
  rw [pf_skip (by decide +kernel), pf_skip (by decide +kernel), pf_skip (by decide +kernel), pf_hit]
theorem pf_Machine_a {v_state : Int} {v_over : Int} {v_n : Int} {v_t : Int} {v_a : Int} {v_d : Int} {v_drum : Addr} {y : Int} : putF ("a" : Str) (.int y) (fs_Machine v_state v_over v_n v_t v_a v_d v_drum) = fs_Machine v_state v_over v_n v_t y v_d v_drum := by
  unfold fs_Machine
  rw [pf_skip (by decide +kernel), pf_skip (by decide +kernel), pf_skip (by decide +kernel), pf_skip (by decide +kernel), pf_hit]
theorem pf_Machine_d {v_state : Int} {v_over : Int} {v_n : Int} {v_t : Int} {v_a : Int} {v_d : Int} {v_drum : Addr} {y : Int} : putF ("d" : Str) (.int y) (fs_Machine v_state v_over v_n v_t v_a v_d v_drum) = fs_Machine v_state v_over v_n v_t v_a y v_drum := by
  unfold fs_Machine
  rw [pf_skip (by decide +kernel), pf_skip (by decide +kernel), pf_skip (by decide +kernel), pf_skip (by decide +kernel), pf_skip (by decide +kernel), pf_hit]
theorem pf_Machine_drum {v_state : Int} {v_over : Int} {v_n : Int} {v_t : Int} {v_a : Int} {v_d : Int} {v_drum : Addr} {y : Addr} : putF ("drum" : Str) (.ref y) (fs_Machine v_state v_over v_n v_t v_a v_d v_drum) = fs_Machine v_state v_over v_n v_t v_a v_d y := by
  unfold fs_Machine
  rw [pf_skip (by decide +kernel), pf_skip (by decide +kernel), pf_skip (by decide +kernel), pf_skip (by decide +kernel), pf_skip (by decide +kernel), pf_skip (by decide +kernel), pf_hit]
theorem len_Machine {v_state : Int} {v_over : Int} {v_n : Int} {v_t : Int} {v_a : Int} {v_d : Int} {v_drum : Addr} : (fs_Machine v_state v_over v_n v_t v_a v_d v_drum).length < 1000 := (by decide : 7 < 1000)
/-! ### the fields of Cards -/
theorem sne_Cards_words_read_count : ((("words" : Str) = "read_count")) = False := eq_false (by decide +kernel)
theorem sne_Cards_words_punched : ((("words" : Str) = "punched")) = False := eq_false (by decide +kernel)
theorem sne_Cards_words_is_left : ((("words" : Str) = "is_left")) = False := eq_false (by decide +kernel)
theorem sne_Cards_words_read_to : ((("words" : Str) = "read_to")) = False := eq_false (by decide +kernel)
theorem sne_Cards_words_punch_from : ((("words" : Str) = "punch_from")) = False := eq_false (by decide +kernel)
theorem sne_Cards_read_count_words : ((("read_count" : Str) = "words")) = False := eq_false (by decide +kernel)
theorem sne_Cards_read_count_punched : ((("read_count" : Str) = "punched")) = False := eq_false (by decide +kernel)
theorem sne_Cards_read_count_is_left : ((("read_count" : Str) = "is_left")) = False := eq_false (by decide +kernel)
theorem sne_Cards_read_count_read_to : ((("read_count" : Str) = "read_to")) = False := eq_false (by decide +kernel)
theorem sne_Cards_read_count_punch_from : ((("read_count" : Str) = "punch_from")) = False := eq_false (by decide +kernel)
theorem sne_Cards_punched_words : ((("punched" : Str) = "words")) = False := eq_false (by decide +kernel)
theorem sne_Cards_punched_read_count : ((("punched" : Str) = "read_count")) = False := eq_false (by decide +kernel)
theorem sne_Cards_punched_is_left : ((("punched" : Str) = "is_left")) = False := eq_false (by decide +kernel)
theorem sne_Cards_punched_read_to : ((("punched" : Str) = "read_to")) = False := eq_false (by decide +kernel)
theorem sne_Cards_punched_punch_from : ((("punched" : Str) = "punch_from")) = False := eq_false (by decide +kernel)
def fs_Cards (v_words : Addr) (v_read_count : Int) (v_punched : Addr) : List (Str × V) := [("words", .ref v_words), ("read_count", .int v_read_count), ("punched", .ref v_punched)]
theorem lk_Cards_words {v_words : Addr} {v_read_count : Int} {v_punched : Addr} : (fs_Cards v_words v_read_count v_punched).lookup ("words" : Str) = some (.ref v_words) := lk_hit
theorem lk_Cards_read_count {v_words : Addr} {v_read_count : Int} {v_punched : Addr} : (fs_Cards v_words v_read_count v_punched).lookup ("read_count" : Str) = some (.int v_read_count) := (lk_skip (by decide +kernel)).trans (lk_hit)
theorem lk_Cards_punched {v_words : Addr} {v_read_count : Int} {v_punched : Addr} : (fs_Cards v_words v_read_count v_punched).lookup ("punched" : Str) = some (.ref v_punched) := (lk_skip (by decide +kernel)).trans ((lk_skip (by decide +kernel)).trans (lk_hit))
theorem no_Cards_is_left {v_words : Addr} {v_read_count : Int} {v_punched : Addr} : (fs_Cards v_words v_read_count v_punched).lookup ("is_left" : Str) = none := (lk_skip (by decide +kernel)).trans ((lk_skip (by decide +kernel)).trans ((lk_skip (by decide +kernel)).trans (rfl)))
theorem no_Cards_read_to {v_words : Addr} {v_read_count : Int} {v_punched : Addr} : (fs_Cards v_words v_read_count v_punched).lookup ("read_to" : Str) = none := (lk_skip (by decide +kernel)).trans ((lk_skip (by decide +kernel)).trans ((lk_skip (by decide +kernel)).trans (rfl)))
theorem no_Cards_punch_from {v_words : Addr} {v_read_count : Int} {v_punched : Addr} : (fs_Cards v_words v_read_count v_punched).lookup ("punch_from" : Str) = none := (lk_skip (by decide +kernel)).trans ((lk_skip (by decide +kernel)).trans ((lk_skip (by decide +kernel)).trans (rfl)))
theorem pf_Cards_words {v_words : Addr} {v_read_count : Int} {v_punched : Addr} {y : Addr} : putF ("words" : Str) (.ref y) (fs_Cards v_words v_read_count v_punched) = fs_Cards y v_read_count v_punched := by
  unfold fs_Cards
  rw [pf_hit]
theorem pf_Cards_read_count {v_words : Addr} {v_read_count : Int} {v_punched : Addr} {y : Int} : putF ("read_count" : Str) (.int y) (fs_Cards v_words v_read_count v_punched) = fs_Cards v_words y v_punched := by
  unfold fs_Cards
  rw [pf_skip (by decide +kernel), pf_hit]
theorem pf_Cards_punched {v_words : Addr} {v_read_count : Int} {v_punched : Addr} {y : Addr} : putF ("punched" : Str) (.ref y) (fs_Cards v_words v_read_count v_punched) = fs_Cards v_words v_read_count y := by
  unfold fs_Cards
  rw [pf_skip (by decide +kernel), pf_skip (by decide +kernel), pf_hit]
theorem len_Cards {v_words : Addr} {v_read_count : Int} {v_punched : Addr} : (fs_Cards v_words v_read_count v_punched).length < 1000 := (by decide : 3 < 1000)
local macro_rules | `(tactic| walk_at "rd1") => `(tactic| first
  | with_reducible refine r_seq ?_
  | with_reducible refine r_ret ?_
  | with_reducible refine r_asg ?_
  | with_reducible refine r_name ?_
  | with_reducible refine r_ifS ?_
  | with_reducible refine r_drop ?_
  | with_reducible refine r_next ?_
  | with_reducible refine r_test ?_
  | with_reducible refine r_tB ?_
  | with_reducible refine r_not ?_
  | with_reducible refine r_and ?_
  | with_reducible refine r_or ?_
  | with_reducible refine r_op ?_
  | with_reducible refine r_un ?_
  | with_reducible refine r_chain ?_
  | with_reducible refine r_call ?_
  | with_reducible refine r_cons ?_
  | with_reducible refine r_nil ?_
  | with_reducible refine r_cb ?_
  | with_reducible refine r_lst ?_
  | with_reducible refine r_bm ?_
  | with_reducible refine r_fldT ?_
  | with_reducible refine r_sfldT ?_
  | with_reducible refine r_kgetT ?_
  | with_reducible refine r_sub ?_
  | with_reducible refine r_sl ?_
  | with_reducible refine r_part ?_
  | with_reducible refine r_nopart ?_
  | with_reducible refine r_make ?_
  | with_reducible refine r_methT ?_
  | with_reducible refine r_m1 ?_
  | with_reducible refine r_isStr ?_
  | with_reducible refine r_fmt ?_
  | with_reducible refine r_joinC ?_
  | with_reducible refine r_joinN ?_
  | with_reducible refine r_callL ?_
  | with_reducible refine r_kinT ?_
  | with_reducible refine r_knotinT ?_
  | with_reducible refine r_for ?_
  | with_reducible refine r_rng1T ?_
  | with_reducible refine r_rng3T ?_
  | with_reducible refine r_listT ?_
  | with_reducible refine r_enumT ?_
  | with_reducible refine r_strT ?_
  | with_reducible refine r_lc ?_
  | with_reducible refine r_yes ?_
  | with_reducible refine r_fldaugT ?_
  | with_reducible refine r_addF ?_
  | with_reducible refine r_andV ?_
  | with_reducible refine r_orV ?_
  | with_reducible refine r_notV ?_
  | with_reducible refine r_if ?_
  | with_reducible refine r_arg1 ?_
  | with_reducible refine r_argS ?_
  | with_reducible refine r_isS ?_
  | with_reducible refine r_mod (by decide) ?_
  | with_reducible refine r_fdiv (by decide) (by decide) ?_
  | with_reducible refine r_c ?_
  | with_reducible refine r_i0 ?_
  | with_reducible refine r_u ?_
  | with_reducible refine r_eqI ?_
  | with_reducible refine r_neI ?_
  | with_reducible refine r_bl ?_
  | with_reducible refine r_int ?_
  | ((with_reducible refine r_var (v := ?vv) ?hvar ?_); (case hvar => rfl))
  | walk_at "rd2"
  | dsimp only)
local macro_rules | `(tactic| walk_at "rd") => `(tactic| repeat walk_at "rd1")
local macro_rules | `(tactic| walk_at "bl") => `(tactic| (apply Bool.eq_iff_iff.mpr; simp only [Bool.and_eq_true, Bool.or_eq_true, Bool.not_eq_true', decide_eq_true_eq, decide_eq_false_iff_not, beq_iff_eq, beq_eq_false_iff_ne, Bool.false_eq_true, false_iff, iff_false, true_iff, iff_true, Bool.and_eq_false_iff, Bool.or_eq_false_iff]; omega))
section
variable {P : Program} {w : World} {K : PySem.W.Frag} {mg : Str → Option Value} {base : Heap} {a : Ad} {d : Fds}
def sp_is_word (K : PySem.W.Frag) (a : Ad) : Sp := fun vs H Q _ => ∃ (n : Int), vs = [.int n] ∧ Q (.bl (Drum.isWord n)) H
theorem r_is_word {K : PySem.W.Frag} {a : Ad} {H : Hp} {Q : VK} {E : XK} {n : Int}  (q : Q (.bl (Drum.isWord n)) H) : sp_is_word K a ([.int n] ++ []) H Q E := ⟨n, rfl, q⟩
local macro_rules | `(tactic| walk_at "rd2") => `(tactic| with_reducible refine r_is_word ?_)
theorem ok_is_word (T : Txt K mg a d) : FnOk P w K mg base CX0 1 a.is_word d.is_word ["number"] (sp_is_word K a) := by
  refine T.F_is_word.ok sc_is_word (fun vs H Q E h => ?_) (fun cdv A outer s H vs Q E hr h => ?_)
  · obtain ⟨n, rfl, k⟩ := h
    rfl
  · obtain ⟨n, rfl, k⟩ := h
    refine ⟨_, (pss_one (ps_ret (pe_chain op_le op_le (pe_un un_neg (pe_gi T.c_LARGEST_WORD)) (pv 0) (pe_gi T.c_LARGEST_WORD)))), ?_⟩
    try dsimp only [cxOf]
    walk_at "rd"
    refine r_ite (fun c => ?_) (fun c => ?_)
    · walk_at "rd"
      refine bl_of ?_ k
      simp at c
      unfold Drum.isWord Drum.TEN
      simp
      omega
    · refine bl_of ?_ k
      simp at c
      unfold Drum.isWord Drum.TEN
      simp
      omega
def sp_is_long (K : PySem.W.Frag) (a : Ad) : Sp := fun vs H Q _ => ∃ (n : Int), vs = [.int n] ∧ Q (.bl (Drum.isLong n)) H
theorem r_is_long {K : PySem.W.Frag} {a : Ad} {H : Hp} {Q : VK} {E : XK} {n : Int}  (q : Q (.bl (Drum.isLong n)) H) : sp_is_long K a ([.int n] ++ []) H Q E := ⟨n, rfl, q⟩
local macro_rules | `(tactic| walk_at "rd2") => `(tactic| with_reducible refine r_is_long ?_)
theorem ok_is_long (T : Txt K mg a d) : FnOk P w K mg base CX0 1 a.is_long d.is_long ["number"] (sp_is_long K a) := by
  refine T.F_is_long.ok sc_is_long (fun vs H Q E h => ?_) (fun cdv A outer s H vs Q E hr h => ?_)
  · obtain ⟨n, rfl, k⟩ := h
    rfl
  · obtain ⟨n, rfl, k⟩ := h
    refine ⟨_, (pss_one (ps_ret (pe_chain op_le op_le (pe_un un_neg (pe_gi T.c_LARGEST_LONG)) (pv 0) (pe_gi T.c_LARGEST_LONG)))), ?_⟩
    try dsimp only [cxOf]
    walk_at "rd"
    refine r_ite (fun c => ?_) (fun c => ?_)
    · walk_at "rd"
      refine bl_of ?_ k
      simp at c
      unfold Drum.isLong Drum.TEN
      simp
      omega
    · refine bl_of ?_ k
      simp at c
      unfold Drum.isLong Drum.TEN
      simp
      omega
def sp_with_sign_of (K : PySem.W.Frag) (a : Ad) : Sp := fun vs H Q _ => ∃ (n : Int) (s : Int), vs = [.int n, .int s] ∧ Q (.int (sgn n s)) H
theorem r_with_sign_of {K : PySem.W.Frag} {a : Ad} {H : Hp} {Q : VK} {E : XK} {n : Int} {s : Int}  (q : Q (.int (sgn n s)) H) : sp_with_sign_of K a ([.int n, .int s] ++ []) H Q E := ⟨n, s, rfl, q⟩
local macro_rules | `(tactic| walk_at "rd2") => `(tactic| with_reducible refine r_with_sign_of ?_)
theorem ok_with_sign_of (T : Txt K mg a d) : FnOk P w K mg base CX0 1 a.with_sign_of d.with_sign_of ["number", "size"] (sp_with_sign_of K a) := by
  refine T.F_with_sign_of.ok sc_with_sign_of (fun vs H Q E h => ?_) (fun cdv A outer s H vs Q E hr h => ?_)
  · obtain ⟨n, s, rfl, k⟩ := h
    rfl
  · obtain ⟨n, s, rfl, k⟩ := h
    refine ⟨_, (pss_one (ps_ret (pe_ifExp (pt_cmpR op_lt (pv 0) pe_int (nomark _)) (pe_un un_neg (pv 1)) (pv 1)))), ?_⟩
    try dsimp only [cxOf]
    walk_at "rd"
    refine r_ite (fun c => ?_) (fun c => ?_)
    · walk_at "rd"
      refine int_of ?_ k
      unfold sgn
      rw [if_pos (by simpa using c)]
    · walk_at "rd"
      refine int_of ?_ k
      unfold sgn
      rw [if_neg (by simpa using c)]
def sp_divided (K : PySem.W.Frag) (a : Ad) : Sp := fun vs H Q _ => ∃ (n : Int) (v : Int), vs = [.int n, .int v] ∧ v ≠ 0 ∧ n.natAbs < 2 ^ 100 ∧ v.natAbs < 2 ^ 100 ∧ Q (.int (n.tdiv v)) H
theorem r_divided {K : PySem.W.Frag} {a : Ad} {H : Hp} {Q : VK} {E : XK} {n : Int} {v : Int} (h0 : v ≠ 0) (h1 : n.natAbs < 2 ^ 100) (h2 : v.natAbs < 2 ^ 100) (q : Q (.int (n.tdiv v)) H) : sp_divided K a ([.int n, .int v] ++ []) H Q E := ⟨n, v, rfl, h0, h1, h2, q⟩
local macro_rules | `(tactic| walk_at "rd2") => `(tactic| with_reducible refine r_divided (by first | assumption | omega | decide) (by first | assumption | omega | decide) (by first | assumption | omega | decide) ?_)
theorem ok_divided (T : Txt K mg a d) : FnOk P w K mg base CX0 2 a.divided d.divided ["number", "divisor"] (sp_divided K a) := by
  refine T.F_divided.ok sc_divided (fun vs H Q E h => ?_) (fun cdv A outer s H vs Q E hr h => ?_)
  · obtain ⟨n, v, rfl, h0, h1, h2, k⟩ := h
    rfl
  · obtain ⟨n, v, rfl, h0, h1, h2, k⟩ := h
    refine ⟨_, (pss_one (ps_ret (pe_call (ok_with_sign_of T) (hr.mono (by decide)) rfl T.G_with_sign_of T.F_with_sign_of.kp T.B_with_sign_of .nil pass0 (pa_cons (pe_op op_mulB (pv 0) (pv 1)) (pa_cons (pe_op op_fdivB (pe_callB call_abs (by rfl) T.b_abs (by decide +kernel) (pa_cons (pv 0) pa_nil)) (pe_callB call_abs (by rfl) T.b_abs (by decide +kernel) (pa_cons (pv 1) pa_nil))) pa_nil))))), ?_⟩
    try dsimp only [cxOf]
    walk_at "rd"
    refine r_mul (by omega) (by omega) ?_
    walk_at "rd"
    refine r_i (C := CDivB) ⟨by split <;> omega, by split <;> omega⟩ ?_
    walk_at "rd"
    refine int_of ?_ k
    exact td_eq h0
def sp_divided_rounded (K : PySem.W.Frag) (a : Ad) : Sp := fun vs H Q _ => ∃ (n : Int) (v : Int), vs = [.int n, .int v] ∧ 0 < v ∧ n.natAbs < 2 ^ 100 ∧ v.natAbs < 2 ^ 100 ∧ Q (.int (sgn n ((2 * (n.natAbs : Int) + v) / (2 * v)))) H
theorem r_divided_rounded {K : PySem.W.Frag} {a : Ad} {H : Hp} {Q : VK} {E : XK} {n : Int} {v : Int} (h0 : 0 < v) (h1 : n.natAbs < 2 ^ 100) (h2 : v.natAbs < 2 ^ 100) (q : Q (.int (sgn n ((2 * (n.natAbs : Int) + v) / (2 * v)))) H) : sp_divided_rounded K a ([.int n, .int v] ++ []) H Q E := ⟨n, v, rfl, h0, h1, h2, q⟩
local macro_rules | `(tactic| walk_at "rd2") => `(tactic| with_reducible refine r_divided_rounded (by first | assumption | omega | decide) (by first | assumption | omega | decide) (by first | assumption | omega | decide) ?_)
theorem ok_divided_rounded (T : Txt K mg a d) : FnOk P w K mg base CX0 2 a.divided_rounded d.divided_rounded ["number", "divisor"] (sp_divided_rounded K a) := by
  refine T.F_divided_rounded.ok sc_divided_rounded (fun vs H Q E h => ?_) (fun cdv A outer s H vs Q E hr h => ?_)
  · obtain ⟨n, v, rfl, h0, h1, h2, k⟩ := h
    rfl
  · obtain ⟨n, v, rfl, h0, h1, h2, k⟩ := h
    refine ⟨_, (pss_one (ps_ret (pe_call (ok_with_sign_of T) (hr.mono (by decide)) rfl T.G_with_sign_of T.F_with_sign_of.kp T.B_with_sign_of .nil pass0 (pa_cons (pv 0) (pa_cons (pe_op op_fdivB (pe_op op_add (pe_op op_mulB pe_int (pe_callB call_abs (by rfl) T.b_abs (by decide +kernel) (pa_cons (pv 0) pa_nil))) (pv 1)) (pe_op op_mulB pe_int (pv 1))) pa_nil))))), ?_⟩
    try dsimp only [cxOf]
    walk_at "rd"
    refine r_mul (by decide) (by split <;> omega) ?_
    walk_at "rd"
    refine r_mul (by decide) (by omega) ?_
    walk_at "rd"
    refine r_i (C := CDivB) ⟨by omega, by omega⟩ ?_
    walk_at "rd"
    refine int_of ?_ k
    rw [abs_if]
def sp_upper_word (K : PySem.W.Frag) (a : Ad) : Sp := fun vs H Q _ => ∃ (n : Int), vs = [.int n] ∧ n.natAbs < 2 ^ 100 ∧ Q (.int (Drum.upper n)) H
theorem r_upper_word {K : PySem.W.Frag} {a : Ad} {H : Hp} {Q : VK} {E : XK} {n : Int} (h0 : n.natAbs < 2 ^ 100) (q : Q (.int (Drum.upper n)) H) : sp_upper_word K a ([.int n] ++ []) H Q E := ⟨n, rfl, h0, q⟩
local macro_rules | `(tactic| walk_at "rd2") => `(tactic| with_reducible refine r_upper_word (by first | assumption | omega | decide) ?_)
theorem ok_upper_word (T : Txt K mg a d) : FnOk P w K mg base CX0 3 a.upper_word d.upper_word ["number"] (sp_upper_word K a) := by
  refine T.F_upper_word.ok sc_upper_word (fun vs H Q E h => ?_) (fun cdv A outer s H vs Q E hr h => ?_)
  · obtain ⟨n, rfl, h0, k⟩ := h
    rfl
  · obtain ⟨n, rfl, h0, k⟩ := h
    refine ⟨_, (pss_one (ps_ret (pe_call (ok_divided T) (hr.mono (by decide)) rfl T.G_divided T.F_divided.kp T.B_divided .nil pass0 (pa_cons (pv 0) (pa_cons (pe_gi T.c_WORD_BASE) pa_nil))))), ?_⟩
    try dsimp only [cxOf]
    walk_at "rd"
    refine int_of ?_ k
    exact tdiv_upper n
def sp_lower_word (K : PySem.W.Frag) (a : Ad) : Sp := fun vs H Q _ => ∃ (n : Int), vs = [.int n] ∧ Q (.int (Drum.lower n)) H
theorem r_lower_word {K : PySem.W.Frag} {a : Ad} {H : Hp} {Q : VK} {E : XK} {n : Int}  (q : Q (.int (Drum.lower n)) H) : sp_lower_word K a ([.int n] ++ []) H Q E := ⟨n, rfl, q⟩
local macro_rules | `(tactic| walk_at "rd2") => `(tactic| with_reducible refine r_lower_word ?_)
theorem ok_lower_word (T : Txt K mg a d) : FnOk P w K mg base CX0 2 a.lower_word d.lower_word ["number"] (sp_lower_word K a) := by
  refine T.F_lower_word.ok sc_lower_word (fun vs H Q E h => ?_) (fun cdv A outer s H vs Q E hr h => ?_)
  · obtain ⟨n, rfl, k⟩ := h
    rfl
  · obtain ⟨n, rfl, k⟩ := h
    refine ⟨_, (pss_one (ps_ret (pe_call (ok_with_sign_of T) (hr.mono (by decide)) rfl T.G_with_sign_of T.F_with_sign_of.kp T.B_with_sign_of .nil pass0 (pa_cons (pv 0) (pa_cons (pe_op op_mod (pe_callB call_abs (by rfl) T.b_abs (by decide +kernel) (pa_cons (pv 0) pa_nil)) (pe_gi T.c_WORD_BASE)) pa_nil))))), ?_⟩
    try dsimp only [cxOf]
    walk_at "rd"
    refine int_of ?_ k
    rw [abs_if]
    exact sgn_lower n
def sp_lower_twenty (K : PySem.W.Frag) (a : Ad) : Sp := fun vs H Q _ => ∃ (n : Int), vs = [.int n] ∧ Q (.int (low20 n)) H
theorem r_lower_twenty {K : PySem.W.Frag} {a : Ad} {H : Hp} {Q : VK} {E : XK} {n : Int}  (q : Q (.int (low20 n)) H) : sp_lower_twenty K a ([.int n] ++ []) H Q E := ⟨n, rfl, q⟩
local macro_rules | `(tactic| walk_at "rd2") => `(tactic| with_reducible refine r_lower_twenty ?_)
theorem ok_lower_twenty (T : Txt K mg a d) : FnOk P w K mg base CX0 2 a.lower_twenty d.lower_twenty ["number"] (sp_lower_twenty K a) := by
  refine T.F_lower_twenty.ok sc_lower_twenty (fun vs H Q E h => ?_) (fun cdv A outer s H vs Q E hr h => ?_)
  · obtain ⟨n, rfl, k⟩ := h
    rfl
  · obtain ⟨n, rfl, k⟩ := h
    refine ⟨_, (pss_one (ps_ret (pe_call (ok_with_sign_of T) (hr.mono (by decide)) rfl T.G_with_sign_of T.F_with_sign_of.kp T.B_with_sign_of .nil pass0 (pa_cons (pv 0) (pa_cons (pe_op op_mod (pe_callB call_abs (by rfl) T.b_abs (by decide +kernel) (pa_cons (pv 0) pa_nil)) (pe_gi T.c_LONG_BASE)) pa_nil))))), ?_⟩
    try dsimp only [cxOf]
    walk_at "rd"
    refine int_of ?_ k
    rw [abs_if]
    exact sgn_low20 n
def sp_digit_sum (K : PySem.W.Frag) (a : Ad) : Sp := fun vs H Q _ => ∃ (n : Int), vs = [.int n] ∧ n.natAbs < 100000000000000000000 ∧ Q (.int (Drum.digitSum n : Int)) H
theorem r_digit_sum {K : PySem.W.Frag} {a : Ad} {H : Hp} {Q : VK} {E : XK} {n : Int} (h0 : n.natAbs < 100000000000000000000) (q : Q (.int (Drum.digitSum n : Int)) H) : sp_digit_sum K a ([.int n] ++ []) H Q E := ⟨n, rfl, h0, q⟩
local macro_rules | `(tactic| walk_at "rd2") => `(tactic| with_reducible refine r_digit_sum (by first | assumption | omega | decide) ?_)
theorem ok_digit_sum (T : Txt K mg a d) : FnOk P w K mg base CX0 1 a.digit_sum d.digit_sum ["number"] (sp_digit_sum K a) := by
  refine T.F_digit_sum.ok sc_digit_sum (fun vs H Q E h => ?_) (fun cdv A outer s H vs Q E hr h => ?_)
  · obtain ⟨n, rfl, hn, k⟩ := h
    rfl
  · obtain ⟨n, rfl, hn, k⟩ := h
    refine ⟨_, (pss_cons (ps_set (i := 1) sc_digit_sum.nd rfl (Or.inl rfl) (pe_callB call_abs (by rfl) T.b_abs (by decide +kernel) (pa_cons (pv 0) pa_nil)))
      (pss_cons (ps_set (i := 2) sc_digit_sum.nd rfl (Or.inl rfl) pe_int)
      (pss_cons (ps_while PassesOwn.never (pt_cmpR op_gt (pv 1) pe_int (nomark _))
        (pss_cons (ps_aug (i := 2) sc_digit_sum.nd rfl (Or.inl rfl) (pe_op op_mod (pv 1) pe_int) ip_add)
        (pss_one (ps_set (i := 1) sc_digit_sum.nd rfl (Or.inl rfl) (pe_op op_fdivB (pv 1) pe_int)))))
      (pss_one (ps_ret (pv 2)))))), ?_⟩
    try dsimp only [cxOf]
    walk_at "rd"
    rw [abs_if]
    refine r_while (fun m σ H' => ∃ rest tot : Nat, m = rest ∧ σ = [some (.int n), some (.int (rest : Int)), some (.int (tot : Int))] ∧ H' = H ∧ tot + dsum 20 rest = dsum 20 n.natAbs ∧ rest < 100000000000000000000) n.natAbs ⟨n.natAbs, 0, rfl, rfl, rfl, Nat.zero_add _, hn⟩ ?_
    rintro m σ H' ⟨rest, tot, rfl, rfl, rfl, e, hl⟩
    walk_at "rd"
    refine r_ite (fun c => ?_) (fun c => ?_)
    · refine r_turn (R := fun N => _) ?_
      have c' : 0 < m := by simpa using c
      walk_at "rd"
      refine r_augI rfl ?_
      walk_at "rd"
      refine ⟨m / 10, by omega, m / 10, tot + m % 10, rfl, by simp, rfl, ?_, by omega⟩
      have := dsum_step (k := 20) (n := m) hl
      omega
    · have c' : m = 0 := by simpa using c
      subst c'
      walk_at "rd"
      refine int_of ?_ k
      rw [dsum_zero] at e
      rw [digitSum_eq]
      omega
def sp_power_of_ten (K : PySem.W.Frag) (a : Ad) : Sp := fun vs H Q _ => ∃ (e : Nat), vs = [.int (e : Int)] ∧ e ≤ 40 ∧ Q (.int (10 ^ e)) H
theorem r_power_of_ten {K : PySem.W.Frag} {a : Ad} {H : Hp} {Q : VK} {E : XK} {e : Nat} (h0 : e ≤ 40) (q : Q (.int (10 ^ e)) H) : sp_power_of_ten K a ([.int (e : Int)] ++ []) H Q E := ⟨e, rfl, h0, q⟩
local macro_rules | `(tactic| walk_at "rd2") => `(tactic| with_reducible refine r_power_of_ten (by first | assumption | omega | decide) ?_)
theorem pow_small {i : Nat} (h : i ≤ 40) : (10 ^ i : Int).natAbs < 2 ^ 200 := by
  rw [Int.natAbs_pow]
  exact Nat.lt_of_le_of_lt (Nat.pow_le_pow_right (by decide) h) (by decide)
theorem ok_power_of_ten (T : Txt K mg a d) : FnOk P w K mg base CX0 1 a.power_of_ten d.power_of_ten ["exponent"] (sp_power_of_ten K a) := by
  refine T.F_power_of_ten.ok sc_power_of_ten (fun vs H Q E h => ?_) (fun cdv A outer s H vs Q E hr h => ?_)
  · obtain ⟨e, rfl, he, k⟩ := h
    rfl
  · obtain ⟨e, rfl, he, k⟩ := h
    refine ⟨_, (pss_cons (ps_set (i := 1) sc_power_of_ten.nd rfl (Or.inl rfl) pe_int)
      (pss_cons (ps_for PassesOwn.never rfl (pi_range1 rfl T.b_range (pa_cons (pv 0) pa_nil)) (pg_name (i := 2) sc_power_of_ten.nd rfl (Or.inl rfl))
        (pss_one (ps_set (i := 1) sc_power_of_ten.nd rfl (Or.inl rfl) (pe_op op_mulB (pv 1) pe_int))))
      (pss_one (ps_ret (pv 1))))), ?_⟩
    try dsimp only [cxOf]
    walk_at "rd"
    refine ⟨by omega, by omega, ?_⟩
    refine for_rangeN (n := e) (fun i σ H' => ∃ v, σ = [some (.int (e : Int)), some (.int (10 ^ i)), v] ∧ H' = H) ⟨_, rfl, rfl⟩ ?_ ?_
    · rintro i σ H' hi ⟨v, rfl, rfl⟩
      walk_at "rd"
      refine r_mul (pow_small (by omega)) (by decide) ?_
      walk_at "rd"
      exact ⟨_, rfl, rfl⟩
    · rintro σ H' ⟨v, rfl, rfl⟩
      walk_at "rd"
      exact k
def sp_tens_that_fit (K : PySem.W.Frag) (a : Ad) : Sp := fun vs H Q _ => ∃ (n : Int), vs = [.int n] ∧ Lg n ∧ Q (.int ((Drum.count n).2 : Int)) H
theorem r_tens_that_fit {K : PySem.W.Frag} {a : Ad} {H : Hp} {Q : VK} {E : XK} {n : Int} (h0 : Lg n) (q : Q (.int ((Drum.count n).2 : Int)) H) : sp_tens_that_fit K a ([.int n] ++ []) H Q E := ⟨n, rfl, h0, q⟩
local macro_rules | `(tactic| walk_at "rd2") => `(tactic| with_reducible refine r_tens_that_fit (by first | assumption | omega | decide) ?_)
theorem ok_tens_that_fit (T : Txt K mg a d) : FnOk P w K mg base CX0 2 a.tens_that_fit d.tens_that_fit ["number"] (sp_tens_that_fit K a) := by
  refine T.F_tens_that_fit.ok sc_tens_that_fit (fun vs H Q E h => ?_) (fun cdv A outer s H vs Q E hr h => ?_)
  · obtain ⟨n, rfl, hn, k⟩ := h
    rfl
  · obtain ⟨n, rfl, hn, k⟩ := h
    refine ⟨_, (pss_cons (ps_if (pt_cmpR op_eq (pv 0) pe_int (nomark _))
        (pss_one (ps_ret (pe_gi T.c_LONG_DIGITS)))
        pss_nil)
      (pss_cons (ps_set (i := 1) sc_tens_that_fit.nd rfl (Or.inl rfl) pe_int)
      (pss_cons (ps_set (i := 2) sc_tens_that_fit.nd rfl (Or.inl rfl) (pe_op op_mulB (pv 0) pe_int))
      (pss_cons (ps_while PassesOwn.never (pt_val (pe_call (ok_is_long T) (hr.mono (by decide)) rfl T.G_is_long T.F_is_long.kp T.B_is_long .nil pass0 (pa_cons (pv 2) pa_nil)))
        (pss_cons (ps_aug (i := 1) sc_tens_that_fit.nd rfl (Or.inl rfl) pe_int ip_add)
        (pss_one (ps_set (i := 2) sc_tens_that_fit.nd rfl (Or.inl rfl) (pe_op op_mulB (pv 2) pe_int)))))
      (pss_one (ps_ret (pv 1))))))), ?_⟩
    try dsimp only [cxOf]
    walk_at "rd"
    refine r_ite (fun c => ?_) (fun c => ?_)
    · have c' : n = 0 := by simpa using c
      subst c'
      walk_at "rd"
      exact k
    · have c' : n ≠ 0 := by simpa using c
      walk_at "rd"
      refine r_mul (by unfold Lg at hn; omega) (by decide) ?_
      walk_at "rd"
      refine r_while (fun m σ H' => ∃ (x : Int) (t : Nat), m = (Drum.count x).2 ∧ σ = [some (.int n), some (.int (t : Int)), some (.int (x * 10))] ∧ H' = H ∧ t + (Drum.count x).2 = (Drum.count n).2 ∧ x ≠ 0 ∧ Lg x) _ ⟨n, 0, rfl, rfl, rfl, Nat.zero_add _, c', hn⟩ ?_
      rintro m σ H' ⟨x, t, rfl, rfl, rfl, e, hx, hl⟩
      walk_at "rd"
      refine r_ite (fun c => ?_) (fun c => ?_)
      · refine r_turn (R := fun N => _) ?_
        have c2 : Lg (x * 10) := isLong_iff.mp c
        have cm := count_more hx (by unfold Lg at c2; omega)
        have cm2 : (Drum.count x).2 = (Drum.count (x * 10)).2 + 1 := by rw [cm]
        walk_at "rd"
        refine r_augI rfl ?_
        walk_at "rd"
        refine r_mul (by unfold Lg at hl; omega) (by decide) ?_
        walk_at "rd"
        refine ⟨_, ?_, x * 10, t + 1, rfl, by simp, rfl, by omega, by omega, c2⟩
        omega
      · have c2 : ¬ Lg (x * 10) := fun z => by rw [isLong_iff.mpr z] at c; cases c
        have cf := count_full (a := x) (by unfold Lg at c2; omega) hl
        have cf2 : (Drum.count x).2 = 0 := by rw [cf]
        walk_at "rd"
        refine int_of ?_ k
        omega
def sp_is_address (K : PySem.W.Frag) (a : Ad) : Sp := fun vs H Q _ => ∃ (n : Int), vs = [.int n] ∧ Q (.bl (DrumMachineSeed.within n Drum.WORDS)) H
theorem r_is_address {K : PySem.W.Frag} {a : Ad} {H : Hp} {Q : VK} {E : XK} {n : Int}  (q : Q (.bl (DrumMachineSeed.within n Drum.WORDS)) H) : sp_is_address K a ([.int n] ++ []) H Q E := ⟨n, rfl, q⟩
local macro_rules | `(tactic| walk_at "rd2") => `(tactic| with_reducible refine r_is_address ?_)
theorem ok_is_address (T : Txt K mg a d) : FnOk P w K mg base CX0 1 a.is_address d.is_address ["number"] (sp_is_address K a) := by
  refine T.F_is_address.ok sc_is_address (fun vs H Q E h => ?_) (fun cdv A outer s H vs Q E hr h => ?_)
  · obtain ⟨n, rfl, k⟩ := h
    rfl
  · obtain ⟨n, rfl, k⟩ := h
    refine ⟨_, (pss_one (ps_ret (pe_chain op_le op_lt pe_int (pv 0) (pe_gi T.c_DRUM_SIZE)))), ?_⟩
    try dsimp only [cxOf]
    walk_at "rd"
    refine r_ite (fun c => ?_) (fun c => ?_)
    · walk_at "rd"
      refine bl_of ?_ k
      simp at c
      unfold DrumMachineSeed.within Drum.WORDS
      simp [c]
    · refine bl_of ?_ k
      simp at c
      unfold DrumMachineSeed.within Drum.WORDS
      simp
      omega
def sp_is_tick (K : PySem.W.Frag) (a : Ad) : Sp := fun vs H Q _ => ∃ (n : Int), vs = [.int n] ∧ Q (.bl (DrumMachineSeed.within n Drum.WRAP)) H
theorem r_is_tick {K : PySem.W.Frag} {a : Ad} {H : Hp} {Q : VK} {E : XK} {n : Int}  (q : Q (.bl (DrumMachineSeed.within n Drum.WRAP)) H) : sp_is_tick K a ([.int n] ++ []) H Q E := ⟨n, rfl, q⟩
local macro_rules | `(tactic| walk_at "rd2") => `(tactic| with_reducible refine r_is_tick ?_)
theorem ok_is_tick (T : Txt K mg a d) : FnOk P w K mg base CX0 1 a.is_tick d.is_tick ["number"] (sp_is_tick K a) := by
  refine T.F_is_tick.ok sc_is_tick (fun vs H Q E h => ?_) (fun cdv A outer s H vs Q E hr h => ?_)
  · obtain ⟨n, rfl, k⟩ := h
    rfl
  · obtain ⟨n, rfl, k⟩ := h
    refine ⟨_, (pss_one (ps_ret (pe_chain op_le op_lt pe_int (pv 0) (pe_gi T.c_TICK_COUNT)))), ?_⟩
    try dsimp only [cxOf]
    walk_at "rd"
    refine r_ite (fun c => ?_) (fun c => ?_)
    · walk_at "rd"
      refine bl_of ?_ k
      simp at c
      unfold DrumMachineSeed.within Drum.WRAP
      simp [c]
    · refine bl_of ?_ k
      simp at c
      unfold DrumMachineSeed.within Drum.WRAP
      simp
      omega
def sp_next_around (K : PySem.W.Frag) (a : Ad) : Sp := fun vs H Q _ => ∃ (x : Nat), vs = [.int (x : Int)] ∧ Q (.int (Drum.around x 1 : Int)) H
theorem r_next_around {K : PySem.W.Frag} {a : Ad} {H : Hp} {Q : VK} {E : XK} {x : Nat}  (q : Q (.int (Drum.around x 1 : Int)) H) : sp_next_around K a ([.int (x : Int)] ++ []) H Q E := ⟨x, rfl, q⟩
local macro_rules | `(tactic| walk_at "rd2") => `(tactic| with_reducible refine r_next_around ?_)
theorem ok_next_around (T : Txt K mg a d) : FnOk P w K mg base CX0 1 a.next_around d.next_around ["address"] (sp_next_around K a) := by
  refine T.F_next_around.ok sc_next_around (fun vs H Q E h => ?_) (fun cdv A outer s H vs Q E hr h => ?_)
  · obtain ⟨x, rfl, k⟩ := h
    rfl
  · obtain ⟨x, rfl, k⟩ := h
    refine ⟨_, (pss_cons (ps_set (i := 1) sc_next_around.nd rfl (Or.inl rfl) (pe_op op_add (pv 0) pe_int))
      (pss_one (ps_ret (pe_ifExp (pt_cmpR op_ne (pe_op op_mod (pv 1) (pe_gi T.c_BAND_SIZE)) pe_int (nomark _)) (pv 1) (pe_op op_sub (pv 1) (pe_gi T.c_BAND_SIZE)))))), ?_⟩
    try dsimp only [cxOf]
    walk_at "rd"
    refine r_ite (fun c => ?_) (fun c => ?_)
    · walk_at "rd"
      refine int_of ?_ k
      have c' : ¬ ((x : Int) + 1) % 40 = 0 := by simpa using c
      rw [around_int, if_neg c']
    · walk_at "rd"
      refine int_of ?_ k
      have c' : ((x : Int) + 1) % 40 = 0 := by simpa using c
      rw [around_int, if_pos c']
def sp_waited (K : PySem.W.Frag) (a : Ad) : Sp := fun vs H Q _ => ∃ (t : Nat) (x : Nat), vs = [.int (t : Int), .int (x : Int)] ∧ Q (.int (Drum.comes t (Drum.place x) : Int)) H
theorem r_waited {K : PySem.W.Frag} {a : Ad} {H : Hp} {Q : VK} {E : XK} {t : Nat} {x : Nat}  (q : Q (.int (Drum.comes t (Drum.place x) : Int)) H) : sp_waited K a ([.int (t : Int), .int (x : Int)] ++ []) H Q E := ⟨t, x, rfl, q⟩
local macro_rules | `(tactic| walk_at "rd2") => `(tactic| with_reducible refine r_waited ?_)
theorem ok_waited (T : Txt K mg a d) : FnOk P w K mg base CX0 1 a.waited d.waited ["tick", "address"] (sp_waited K a) := by
  refine T.F_waited.ok sc_waited (fun vs H Q E h => ?_) (fun cdv A outer s H vs Q E hr h => ?_)
  · obtain ⟨t, x, rfl, k⟩ := h
    rfl
  · obtain ⟨t, x, rfl, k⟩ := h
    refine ⟨_, (pss_one (ps_ret (pe_op op_add (pv 0) (pe_op op_mod (pe_op op_sub (pv 1) (pv 0)) (pe_gi T.c_BAND_SIZE))))), ?_⟩
    try dsimp only [cxOf]
    walk_at "rd"
    refine int_of ?_ k
    rw [comes_wait]
def sp_band_from (K : PySem.W.Frag) (a : Ad) : Sp := fun vs H Q _ => ∃ (l : Addr) (xs : List Int) (x : Nat), vs = [.ref l, .int (x : Int)] ∧ H l = some (.lst (xs.map V.int)) ∧ xs.length = 2000 ∧ x < 2000 ∧
  ∀ (H' : Hp) (q : Addr), H q = none → H' q = some (.lst ((rot xs x).map V.int)) → Same H H' → Q (.ref q) H'
theorem ok_band_from (T : Txt K mg a d) : FnOk P w K mg base CX0 1 a.band_from d.band_from ["drum", "address"] (sp_band_from K a) := by
  refine T.F_band_from.ok sc_band_from (fun vs H Q E h => ?_) (fun cdv A outer s H vs Q E hr h => ?_)
  · obtain ⟨l, xs, x, rfl, hl, hn, hx, k⟩ := h
    rfl
  · obtain ⟨l, xs, x, rfl, hl, hn, hx, k⟩ := h
    refine ⟨_, (pss_cons (ps_set (i := 2) sc_band_from.nd rfl (Or.inl rfl) (pe_op op_sub (pv 1) (pe_op op_mod (pv 1) (pe_gi T.c_BAND_SIZE))))
      (pss_one (ps_ret (pe_op op_cat (pe_slice sl_list (pv 0) (po_some (pv 1)) (po_some (pe_op op_add (pv 2) (pe_gi T.c_BAND_SIZE)))) (pe_slice sl_list (pv 0) (po_some (pv 2)) (po_some (pv 1))))))), ?_⟩
    try dsimp only [cxOf]
    walk_at "rd"
    have e1 : (x : Int) - (x : Int) % 40 + 40 = ((x - x % 40 + 40 : Nat) : Int) := by omega
    have e2 : (x : Int) - (x : Int) % 40 = ((x - x % 40 : Nat) : Int) := by omega
    refine r_slL (SqL.of hl) (fun s1 h1 => ?_)
    walk_at "rd"
    rw [e1, cut_nat (by omega) (by omega)]
    have f1 := Same.upd_new (o := .lst (((xs.drop x).take (x - x % 40 + 40 - x)).map V.int)) h1
    refine r_slL (SqL.of (f1 _ _ hl)) (fun s2 h2 => ?_)
    walk_at "rd"
    rw [e2, cut_nat (by omega) (by omega)]
    have f2 := Same.upd_new (o := .lst (((xs.drop (x - x % 40)).take (x - (x - x % 40))).map V.int)) h2
    refine r_cat (f2 _ _ upd_same) upd_same ?_ (fun q hq => ?_)
    · rw [List.length_map, List.length_map, List.length_take, List.length_take]
      have : 2000 < sizeLine := by decide
      omega
    · have f3 := f1.trans (f2.trans (Same.upd_new (o := .lst (((xs.drop x).take (x - x % 40 + 40 - x)).map V.int ++ ((xs.drop (x - x % 40)).take (x - (x - x % 40))).map V.int)) hq))
      refine k _ q ((f1.trans f2).free hq) ?_ f3
      rw [upd_same, ← List.map_append, rot_eq hn hx]
end
local macro_rules | `(tactic| walk_at "rd2") => `(tactic| with_reducible refine r_is_word ?_)
local macro_rules | `(tactic| walk_at "rd2") => `(tactic| with_reducible refine r_is_long ?_)
local macro_rules | `(tactic| walk_at "rd2") => `(tactic| with_reducible refine r_with_sign_of ?_)
local macro_rules | `(tactic| walk_at "rd2") => `(tactic| with_reducible refine r_divided (by first | assumption | omega | decide) (by first | assumption | omega | decide) (by first | assumption | omega | decide) ?_)
local macro_rules | `(tactic| walk_at "rd2") => `(tactic| with_reducible refine r_divided_rounded (by first | assumption | omega | decide) (by first | assumption | omega | decide) (by first | assumption | omega | decide) ?_)
local macro_rules | `(tactic| walk_at "rd2") => `(tactic| with_reducible refine r_upper_word (by first | assumption | omega | decide) ?_)
local macro_rules | `(tactic| walk_at "rd2") => `(tactic| with_reducible refine r_lower_word ?_)
local macro_rules | `(tactic| walk_at "rd2") => `(tactic| with_reducible refine r_lower_twenty ?_)
local macro_rules | `(tactic| walk_at "rd2") => `(tactic| with_reducible refine r_digit_sum (by first | assumption | omega | decide) ?_)
local macro_rules | `(tactic| walk_at "rd2") => `(tactic| with_reducible refine r_power_of_ten (by first | assumption | omega | decide) ?_)
local macro_rules | `(tactic| walk_at "rd2") => `(tactic| with_reducible refine r_tens_that_fit (by first | assumption | omega | decide) ?_)
local macro_rules | `(tactic| walk_at "rd2") => `(tactic| with_reducible refine r_is_address ?_)
local macro_rules | `(tactic| walk_at "rd2") => `(tactic| with_reducible refine r_is_tick ?_)
local macro_rules | `(tactic| walk_at "rd2") => `(tactic| with_reducible refine r_next_around ?_)
local macro_rules | `(tactic| walk_at "rd2") => `(tactic| with_reducible refine r_waited ?_)
section
variable {P : Program} {w : World} {K : PySem.W.Frag} {mg : Str → Option Value} {base : Heap} {a : Ad} {d : Fds}
def sp_code_of (K : PySem.W.Frag) (a : Ad) : Sp := fun vs H Q _ => ∃ (v : Int), vs = [.int v] ∧ 0 ≤ v ∧ Q (.int ((Drum.orderOf v).code : Int)) H
theorem r_code_of {K : PySem.W.Frag} {a : Ad} {H : Hp} {Q : VK} {E : XK} {v : Int} (h0 : 0 ≤ v) (q : Q (.int ((Drum.orderOf v).code : Int)) H) : sp_code_of K a ([.int v] ++ []) H Q E := ⟨v, rfl, h0, q⟩
local macro_rules | `(tactic| walk_at "rd2") => `(tactic| with_reducible refine r_code_of (by first | assumption | omega | decide) ?_)
theorem ok_code_of (T : Txt K mg a d) : FnOk P w K mg base CX0 1 a.code_of d.code_of ["word"] (sp_code_of K a) := by
  refine T.F_code_of.ok sc_code_of (fun vs H Q E h => ?_) (fun cdv A outer s H vs Q E hr h => ?_)
  · obtain ⟨v, rfl, h0, k⟩ := h
    rfl
  · obtain ⟨v, rfl, h0, k⟩ := h
    refine ⟨_, (pss_one (ps_ret (pe_op op_fdivB (pv 0) pe_int))), ?_⟩
    try dsimp only [cxOf]
    walk_at "rd"
    refine int_of ?_ k
    rw [code_int h0]
def sp_data_of (K : PySem.W.Frag) (a : Ad) : Sp := fun vs H Q _ => ∃ (v : Int), vs = [.int v] ∧ 0 ≤ v ∧ Q (.int ((Drum.orderOf v).d : Int)) H
theorem r_data_of {K : PySem.W.Frag} {a : Ad} {H : Hp} {Q : VK} {E : XK} {v : Int} (h0 : 0 ≤ v) (q : Q (.int ((Drum.orderOf v).d : Int)) H) : sp_data_of K a ([.int v] ++ []) H Q E := ⟨v, rfl, h0, q⟩
local macro_rules | `(tactic| walk_at "rd2") => `(tactic| with_reducible refine r_data_of (by first | assumption | omega | decide) ?_)
theorem ok_data_of (T : Txt K mg a d) : FnOk P w K mg base CX0 1 a.data_of d.data_of ["word"] (sp_data_of K a) := by
  refine T.F_data_of.ok sc_data_of (fun vs H Q E h => ?_) (fun cdv A outer s H vs Q E hr h => ?_)
  · obtain ⟨v, rfl, h0, k⟩ := h
    rfl
  · obtain ⟨v, rfl, h0, k⟩ := h
    refine ⟨_, (pss_one (ps_ret (pe_op op_mod (pe_op op_fdivB (pv 0) pe_int) pe_int))), ?_⟩
    try dsimp only [cxOf]
    walk_at "rd"
    refine int_of ?_ k
    rw [data_int h0]
def sp_next_of (K : PySem.W.Frag) (a : Ad) : Sp := fun vs H Q _ => ∃ (v : Int), vs = [.int v] ∧ 0 ≤ v ∧ Q (.int ((Drum.orderOf v).n : Int)) H
theorem r_next_of {K : PySem.W.Frag} {a : Ad} {H : Hp} {Q : VK} {E : XK} {v : Int} (h0 : 0 ≤ v) (q : Q (.int ((Drum.orderOf v).n : Int)) H) : sp_next_of K a ([.int v] ++ []) H Q E := ⟨v, rfl, h0, q⟩
local macro_rules | `(tactic| walk_at "rd2") => `(tactic| with_reducible refine r_next_of (by first | assumption | omega | decide) ?_)
theorem ok_next_of (T : Txt K mg a d) : FnOk P w K mg base CX0 1 a.next_of d.next_of ["word"] (sp_next_of K a) := by
  refine T.F_next_of.ok sc_next_of (fun vs H Q E h => ?_) (fun cdv A outer s H vs Q E hr h => ?_)
  · obtain ⟨v, rfl, h0, k⟩ := h
    rfl
  · obtain ⟨v, rfl, h0, k⟩ := h
    refine ⟨_, (pss_one (ps_ret (pe_op op_mod (pv 0) pe_int))), ?_⟩
    try dsimp only [cxOf]
    walk_at "rd"
    refine int_of ?_ k
    rw [next_int h0]
theorem names_known : ∀ c < 100, (valV kv_NAMES (Sum.inl ((c : Nat) : Int))).isSome = Drum.known c := by decide +kernel
def sp_is_order (K : PySem.W.Frag) (a : Ad) : Sp := fun vs H Q _ => ∃ (v : Int), vs = [.int v] ∧ Wd v ∧ Q (.bl (decide (0 ≤ v) && Drum.known (Drum.orderOf v).code)) H
theorem r_is_order {K : PySem.W.Frag} {a : Ad} {H : Hp} {Q : VK} {E : XK} {v : Int} (h0 : Wd v) (q : Q (.bl (decide (0 ≤ v) && Drum.known (Drum.orderOf v).code)) H) : sp_is_order K a ([.int v] ++ []) H Q E := ⟨v, rfl, h0, q⟩
local macro_rules | `(tactic| walk_at "rd2") => `(tactic| with_reducible refine r_is_order (by first | assumption | omega | decide) ?_)
theorem ok_is_order (T : Txt K mg a d) : FnOk P w K mg base CX0 2 a.is_order d.is_order ["word"] (sp_is_order K a) := by
  refine T.F_is_order.ok sc_is_order (fun vs H Q E h => ?_) (fun cdv A outer s H vs Q E hr h => ?_)
  · obtain ⟨v, rfl, h0, k⟩ := h
    rfl
  · obtain ⟨v, rfl, h0, k⟩ := h
    refine ⟨_, (pss_one (ps_ret (pe_and (pe_cmpR op_ge (pv 0) pe_int (nomark _)) (pe_one (pe_cmp (pc_kin (pe_call (ok_code_of T) (hr.mono (by decide)) rfl T.G_code_of T.F_code_of.kp T.B_code_of .nil pass0 (pa_cons (pv 0) pa_nil)) (pe_gr T.c_NAMES))))))), ?_⟩
    try dsimp only [cxOf]
    walk_at "rd"
    refine r_ite (fun c => ?_) (fun c => ?_)
    · have c' : 0 ≤ v := by simpa using c
      walk_at "rd"
      refine r_kin T.k_NAMES ?_
      refine bl_of ?_ k
      rw [c, names_known _ (code_lt h0)]
      rfl
    · refine bl_of ?_ k
      rw [c]
      rfl
def nameOk (c : Nat) : Bool := match valV kv_NAMES (Sum.inl (c : Int)), Drum.names.find? fun x => x.1 == c with
  | some (.str s), some x => decide (s.cps.toList = (x.2.toList.map fun (c : Char) => UInt8.ofNat c.toNat).map UInt8.toNat) && decide (s.cps.size = 3)
  | _, _ => !Drum.known c
theorem nameOk_all : ∀ c < 100, nameOk c = true := by decide +kernel
theorem name_text {c : Nat} (h : c < 100) (hk : Drum.known c = true) : ∃ (s : Str) (x : Nat × String), valV kv_NAMES (Sum.inl (c : Int)) = some (.str s) ∧ (Drum.names.find? fun (x : Nat × String) => x.1 == c) = some x ∧ s.cps.toList = (x.2.toList.map fun (c : Char) => UInt8.ofNat c.toNat).map UInt8.toNat ∧ s.cps.size = 3 := by
  have z := nameOk_all c h
  unfold nameOk at z
  split at z
  · rename_i s x e1 e2
    rw [Bool.and_eq_true, decide_eq_true_eq, decide_eq_true_eq] at z
    exact ⟨s, x, e1, e2, z.1, z.2⟩
  · rw [hk] at z
    cases z
theorem str_app (x y : Str) : (x ++ y).cps.toList = x.cps.toList ++ y.cps.toList := by
  show (x.cps ++ y.cps).toList = _
  rw [Array.toList_append]
theorem len_app (x y : Str) : (x ++ y).length = x.length + y.length := strLen_append x y
def sp_writing (K : PySem.W.Frag) (a : Ad) : Sp := fun vs H Q _ => ∃ (v : Int), vs = [.int v] ∧ 0 ≤ v ∧ Wd v ∧ Drum.known (Drum.orderOf v).code = true ∧ ∀ (x : Str) (t : List UInt8), Drum.orderText v = some t → x.cps.toList = t.map UInt8.toNat → Q (.str x) H
theorem ok_writing (T : Txt K mg a d) : FnOk P w K mg base CX0 2 a.writing d.writing ["word"] (sp_writing K a) := by
  refine T.F_writing.ok sc_writing (fun vs H Q E h => ?_) (fun cdv A outer s H vs Q E hr h => ?_)
  · obtain ⟨v, rfl, h0, hw, hk, k⟩ := h
    rfl
  · obtain ⟨v, rfl, h0, hw, hk, k⟩ := h
    refine ⟨_, (pss_cons (ps_set (i := 1) sc_writing.nd rfl (Or.inl rfl) (pe_kget (pe_gr T.c_NAMES) (pe_call (ok_code_of T) (hr.mono (by decide)) rfl T.G_code_of T.F_code_of.kp T.B_code_of .nil pass0 (pa_cons (pv 0) pa_nil)) (fun _ _ => rfl)))
      (pss_cons (ps_set (i := 2) sc_writing.nd rfl (Or.inl rfl) (pe_m1 PySem.F.slot_str_zfill PySem.F.type_str_zfill mt_zfill (pe_callTy call_str_int (by rfl) T.b_str (by decide +kernel) (pa_cons (pe_call (ok_data_of T) (hr.mono (by decide)) rfl T.G_data_of T.F_data_of.kp T.B_data_of .nil pass0 (pa_cons (pv 0) pa_nil)) pa_nil)) pe_int))
      (pss_cons (ps_set (i := 3) sc_writing.nd rfl (Or.inl rfl) (pe_m1 PySem.F.slot_str_zfill PySem.F.type_str_zfill mt_zfill (pe_callTy call_str_int (by rfl) T.b_str (by decide +kernel) (pa_cons (pe_call (ok_next_of T) (hr.mono (by decide)) rfl T.G_next_of T.F_next_of.kp T.B_next_of .nil pass0 (pa_cons (pv 0) pa_nil)) pa_nil)) pe_int))
      (pss_one (ps_ret (pe_joined (.cons (pe_fmt (pv 1)) (.cons pe_str (.cons (pe_fmt (pv 2)) (.cons pe_str (.cons (pe_fmt (pv 3)) .nil))))))))))), ?_⟩
    try dsimp only [cxOf]
    obtain ⟨s, x, e1, e2, e3, e4⟩ := name_text (code_lt hw) hk
    have l1 : s.length = 3 := e4
    have l2 := four_size (d_lt v)
    have l3 := four_size (n_lt v)
    have big : 100 < sizeLine := by decide
    have lb : (" " : Str).length = 1 := by decide
    have le : Str.empty.length = 0 := by decide
    walk_at "rd"
    refine r_kget T.k_NAMES e1 ?_
    walk_at "rd"
    refine ⟨log2_small (d_lt v), ?_⟩
    walk_at "rd"
    refine ⟨_, _, rfl, rfl, by decide, ?_⟩
    walk_at "rd"
    refine ⟨log2_small (n_lt v), ?_⟩
    walk_at "rd"
    refine ⟨_, _, rfl, rfl, by decide, ?_⟩
    walk_at "rd"
    refine ⟨by omega, ?_⟩
    walk_at "rd"
    refine ⟨by simp only [len_app]; omega, ?_⟩
    walk_at "rd"
    refine ⟨by simp only [len_app]; omega, ?_⟩
    walk_at "rd"
    refine ⟨by omega, ?_⟩
    walk_at "rd"
    refine ⟨by simp only [len_app]; omega, ?_⟩
    walk_at "rd"
    refine ⟨by simp only [len_app]; omega, ?_⟩
    walk_at "rd"
    refine ⟨by omega, ?_⟩
    walk_at "rd"
    refine ⟨by simp only [len_app]; omega, ?_⟩
    walk_at "rd"
    have hv : ¬ v < 0 := by omega
    refine k _ _ (by unfold Drum.orderText; rw [if_neg hv, e2]; rfl) ?_
    simp only [str_app]
    rw [e3, four_at (d_lt v), four_at (n_lt v), show (Str.ofString " ").cps.toList = [32] by decide, show Str.empty.cps.toList = [] by decide]
    simp
def sp_loads_d (K : PySem.W.Frag) (a : Ad) : Sp := fun vs H Q _ => ∃ (c : Nat), vs = [.int (c : Int)] ∧ Q (.bl (Drum.loads c)) H
theorem r_loads_d {K : PySem.W.Frag} {a : Ad} {H : Hp} {Q : VK} {E : XK} {c : Nat}  (q : Q (.bl (Drum.loads c)) H) : sp_loads_d K a ([.int (c : Int)] ++ []) H Q E := ⟨c, rfl, q⟩
local macro_rules | `(tactic| walk_at "rd2") => `(tactic| with_reducible refine r_loads_d ?_)
theorem ok_loads_d (T : Txt K mg a d) : FnOk P w K mg base CX0 1 a.loads_d d.loads_d ["code"] (sp_loads_d K a) := by
  refine T.F_loads_d.ok sc_loads_d (fun vs H Q E h => ?_) (fun cdv A outer s H vs Q E hr h => ?_)
  · obtain ⟨c, rfl, k⟩ := h
    rfl
  · obtain ⟨c, rfl, k⟩ := h
    refine ⟨_, (pss_one (ps_ret (pe_chain op_le op_le pe_int (pv 0) pe_int))), ?_⟩
    try dsimp only [cxOf]
    walk_at "rd"
    refine r_ite (fun z => ?_) (fun z => ?_)
    · walk_at "rd"
      refine bl_of ?_ k
      simp only [decide_eq_true_eq, decide_eq_false_iff_not, Bool.not_eq_true', Bool.not_eq_false', beq_iff_eq, beq_eq_false_iff_ne] at z
      unfold Drum.loads
      walk_at "bl"
    · refine bl_of ?_ k
      simp only [decide_eq_true_eq, decide_eq_false_iff_not, Bool.not_eq_true', Bool.not_eq_false', beq_iff_eq, beq_eq_false_iff_ne] at z
      unfold Drum.loads
      walk_at "bl"
def sp_waits (K : PySem.W.Frag) (a : Ad) : Sp := fun vs H Q _ => ∃ (c : Nat), vs = [.int (c : Int)] ∧ c < 100 ∧ Drum.known c = true ∧ Q (.bl (Drum.waits c)) H
theorem r_waits {K : PySem.W.Frag} {a : Ad} {H : Hp} {Q : VK} {E : XK} {c : Nat} (h0 : c < 100) (h1 : Drum.known c = true) (q : Q (.bl (Drum.waits c)) H) : sp_waits K a ([.int (c : Int)] ++ []) H Q E := ⟨c, rfl, h0, h1, q⟩
local macro_rules | `(tactic| walk_at "rd2") => `(tactic| with_reducible refine r_waits (by first | assumption | omega | decide) (by first | assumption | omega | decide) ?_)
theorem ok_waits (T : Txt K mg a d) : FnOk P w K mg base CX0 1 a.waits d.waits ["code"] (sp_waits K a) := by
  refine T.F_waits.ok sc_waits (fun vs H Q E h => ?_) (fun cdv A outer s H vs Q E hr h => ?_)
  · obtain ⟨c, rfl, h0, h1, k⟩ := h
    rfl
  · obtain ⟨c, rfl, h0, h1, k⟩ := h
    refine ⟨_, (pss_one (ps_ret (pe_or (pe_chain op_le op_le pe_int (pv 0) pe_int) (pe_one (pe_cmpR op_eq (pv 0) pe_int (nomark _)))))), ?_⟩
    try dsimp only [cxOf]
    rw [← waits_known c h0 h1] at k
    walk_at "rd"
    refine r_ite (fun z => ?_) (fun z => ?_)
    · walk_at "rd"
      refine r_ite (fun z2 => ?_) (fun z2 => ?_)
      · refine bl_of ?_ k
        simp only [decide_eq_true_eq, decide_eq_false_iff_not, Bool.not_eq_true', Bool.not_eq_false', beq_iff_eq, beq_eq_false_iff_ne] at z z2
        walk_at "bl"
      · walk_at "rd"
        refine bl_of ?_ k
        simp only [decide_eq_true_eq, decide_eq_false_iff_not, Bool.not_eq_true', Bool.not_eq_false', beq_iff_eq, beq_eq_false_iff_ne] at z z2
        walk_at "bl"
    · walk_at "rd"
      refine r_ite (fun z2 => nomatch z2) (fun z2 => ?_)
      walk_at "rd"
      refine bl_of ?_ k
      simp only [decide_eq_true_eq, decide_eq_false_iff_not, Bool.not_eq_true', Bool.not_eq_false', beq_iff_eq, beq_eq_false_iff_ne] at z
      walk_at "bl"
def sp_shifts_by_data (K : PySem.W.Frag) (a : Ad) : Sp := fun vs H Q _ => ∃ (c : Nat), vs = [.int (c : Int)] ∧ Q (.bl (decide (40 ≤ c ∧ c ≤ 42))) H
theorem r_shifts_by_data {K : PySem.W.Frag} {a : Ad} {H : Hp} {Q : VK} {E : XK} {c : Nat}  (q : Q (.bl (decide (40 ≤ c ∧ c ≤ 42))) H) : sp_shifts_by_data K a ([.int (c : Int)] ++ []) H Q E := ⟨c, rfl, q⟩
local macro_rules | `(tactic| walk_at "rd2") => `(tactic| with_reducible refine r_shifts_by_data ?_)
theorem ok_shifts_by_data (T : Txt K mg a d) : FnOk P w K mg base CX0 1 a.shifts_by_data d.shifts_by_data ["code"] (sp_shifts_by_data K a) := by
  refine T.F_shifts_by_data.ok sc_shifts_by_data (fun vs H Q E h => ?_) (fun cdv A outer s H vs Q E hr h => ?_)
  · obtain ⟨c, rfl, k⟩ := h
    rfl
  · obtain ⟨c, rfl, k⟩ := h
    refine ⟨_, (pss_one (ps_ret (pe_chain op_le op_le pe_int (pv 0) pe_int))), ?_⟩
    try dsimp only [cxOf]
    walk_at "rd"
    refine r_ite (fun z => ?_) (fun z => ?_)
    · walk_at "rd"
      refine bl_of ?_ k
      simp only [decide_eq_true_eq, decide_eq_false_iff_not, Bool.not_eq_true', Bool.not_eq_false', beq_iff_eq, beq_eq_false_iff_ne] at z
      walk_at "bl"
    · refine bl_of ?_ k
      simp only [decide_eq_true_eq, decide_eq_false_iff_not, Bool.not_eq_true', Bool.not_eq_false', beq_iff_eq, beq_eq_false_iff_ne] at z
      walk_at "bl"
def sp_has_data_address (K : PySem.W.Frag) (a : Ad) : Sp := fun vs H Q _ => ∃ (c : Nat), vs = [.int (c : Int)] ∧ c ≠ 0 ∧ Q (.bl (Drum.addresses c)) H
theorem r_has_data_address {K : PySem.W.Frag} {a : Ad} {H : Hp} {Q : VK} {E : XK} {c : Nat} (h0 : c ≠ 0) (q : Q (.bl (Drum.addresses c)) H) : sp_has_data_address K a ([.int (c : Int)] ++ []) H Q E := ⟨c, rfl, h0, q⟩
local macro_rules | `(tactic| walk_at "rd2") => `(tactic| with_reducible refine r_has_data_address (by first | assumption | omega | decide) ?_)
theorem ok_has_data_address (T : Txt K mg a d) : FnOk P w K mg base CX0 1 a.has_data_address d.has_data_address ["code"] (sp_has_data_address K a) := by
  refine T.F_has_data_address.ok sc_has_data_address (fun vs H Q E h => ?_) (fun cdv A outer s H vs Q E hr h => ?_)
  · obtain ⟨c, rfl, h0, k⟩ := h
    rfl
  · obtain ⟨c, rfl, h0, k⟩ := h
    refine ⟨_, (pss_one (ps_ret (pe_and (pe_cmpR op_ne (pv 0) (pe_gi T.c_NO_OPERATION) (nomark _)) (pe_one (pe_not (pe_chain op_le op_le pe_int (pv 0) pe_int)))))), ?_⟩
    try dsimp only [cxOf]
    rw [addr_not0 h0] at k
    walk_at "rd"
    refine r_ite (fun z => ?_) (fun z => ?_)
    · walk_at "rd"
      refine r_ite (fun z2 => ?_) (fun z2 => ?_)
      · walk_at "rd"
        refine bl_of ?_ k
        simp only [decide_eq_true_eq, decide_eq_false_iff_not, Bool.not_eq_true', Bool.not_eq_false', beq_iff_eq, beq_eq_false_iff_ne] at z z2
        walk_at "bl"
      · walk_at "rd"
        refine bl_of ?_ k
        simp only [decide_eq_true_eq, decide_eq_false_iff_not, Bool.not_eq_true', Bool.not_eq_false', beq_iff_eq, beq_eq_false_iff_ne] at z z2
        walk_at "bl"
    · refine bl_of ?_ k
      simp only [decide_eq_true_eq, decide_eq_false_iff_not, Bool.not_eq_true', Bool.not_eq_false', beq_iff_eq, beq_eq_false_iff_ne] at z
      walk_at "bl"
def sp_stopping_state (K : PySem.W.Frag) (a : Ad) : Sp := fun vs H Q _ => ∃ (v : Int) (b : Bool), vs = [.int v, .bl b] ∧ Wd v ∧ Q (.int (stopOf v b : Int)) H
theorem r_stopping_state {K : PySem.W.Frag} {a : Ad} {H : Hp} {Q : VK} {E : XK} {v : Int} {b : Bool} (h0 : Wd v) (q : Q (.int (stopOf v b : Int)) H) : sp_stopping_state K a ([.int v, .bl b] ++ []) H Q E := ⟨v, b, rfl, h0, q⟩
local macro_rules | `(tactic| walk_at "rd2") => `(tactic| with_reducible refine r_stopping_state (by first | assumption | omega | decide) ?_)
theorem ok_stopping_state (T : Txt K mg a d) : FnOk P w K mg base CX0 2 a.stopping_state d.stopping_state ["word", "is_card_left"] (sp_stopping_state K a) := by
  refine T.F_stopping_state.ok sc_stopping_state (fun vs H Q E h => ?_) (fun cdv A outer s H vs Q E hr h => ?_)
  · obtain ⟨v, b, rfl, h0, k⟩ := h
    rfl
  · obtain ⟨v, b, rfl, h0, k⟩ := h
    refine ⟨_, (pss_cons (ps_if (pt_cmpR op_lt (pv 0) pe_int (nomark _))
        (pss_one (ps_ret (pe_gi T.c_BELOW_ZERO)))
        pss_nil)
      (pss_cons (ps_set (i := 2) sc_stopping_state.nd rfl (Or.inl rfl) (pe_call (ok_code_of T) (hr.mono (by decide)) rfl T.G_code_of T.F_code_of.kp T.B_code_of .nil pass0 (pa_cons (pv 0) pa_nil)))
      (pss_cons (ps_if (pt_cmp (pc_knotin (pv 2) (pe_gr T.c_NAMES)))
        (pss_one (ps_ret (pe_gi T.c_NO_SUCH_CODE)))
        pss_nil)
      (pss_cons (ps_if (pt_cmpR op_eq (pv 2) (pe_gi T.c_HALT) (nomark _))
        (pss_one (ps_ret (pe_gi T.c_STOPPED_BY_ORDER)))
        pss_nil)
      (pss_cons (ps_if (pt_not (pt_val (pe_call (ok_is_address T) (hr.mono (by decide)) rfl T.G_is_address T.F_is_address.kp T.B_is_address .nil pass0 (pa_cons (pe_call (ok_next_of T) (hr.mono (by decide)) rfl T.G_next_of T.F_next_of.kp T.B_next_of .nil pass0 (pa_cons (pv 0) pa_nil)) pa_nil))))
        (pss_one (ps_ret (pe_gi T.c_NO_ADDRESS)))
        pss_nil)
      (pss_cons (ps_if (PW.pt (pw_and (pt_val (pe_call (ok_has_data_address T) (hr.mono (by decide)) rfl T.G_has_data_address T.F_has_data_address.kp T.B_has_data_address .nil pass0 (pa_cons (pv 2) pa_nil))) (pw_and1 (pt_not (pt_val (pe_call (ok_is_address T) (hr.mono (by decide)) rfl T.G_is_address T.F_is_address.kp T.B_is_address .nil pass0 (pa_cons (pe_call (ok_data_of T) (hr.mono (by decide)) rfl T.G_data_of T.F_data_of.kp T.B_data_of .nil pass0 (pa_cons (pv 0) pa_nil)) pa_nil)))))))
        (pss_one (ps_ret (pe_gi T.c_NO_ADDRESS)))
        pss_nil)
      (pss_cons (ps_if (PW.pt (pw_and (pt_val (pe_call (ok_shifts_by_data T) (hr.mono (by decide)) rfl T.G_shifts_by_data T.F_shifts_by_data.kp T.B_shifts_by_data .nil pass0 (pa_cons (pv 2) pa_nil))) (pw_and1 (pt_cmpR op_gt (pe_call (ok_data_of T) (hr.mono (by decide)) rfl T.G_data_of T.F_data_of.kp T.B_data_of .nil pass0 (pa_cons (pv 0) pa_nil)) (pe_gi T.c_LARGEST_SHIFT) (nomark _)))))
        (pss_one (ps_ret (pe_gi T.c_NO_SHIFT)))
        pss_nil)
      (pss_cons (ps_if (PW.pt (pw_and (pt_cmpR op_eq (pv 2) (pe_gi T.c_READ_CARD) (nomark _)) (pw_and1 (pt_not (pt_val (pv 1))))))
        (pss_one (ps_ret (pe_gi T.c_NO_CARD)))
        pss_nil)
      (pss_one (ps_ret (pe_gi T.c_GOES_ON))))))))))), ?_⟩
    try dsimp only [cxOf]
    rw [stop_eq] at k
    walk_at "rd"
    refine r_ite (fun z => ?_) (fun z => ?_)
    · have z' : v < 0 := by simpa using z
      rw [if_pos z'] at k
      walk_at "rd"
      exact k
    · have z' : ¬ v < 0 := by simpa using z
      have h1 : 0 ≤ v := by omega
      rw [if_neg z'] at k
      walk_at "rd"
      refine r_kin T.k_NAMES ?_
      rw [names_known _ (code_lt h0)]
      walk_at "rd"
      refine r_ite (fun z => ?_) (fun z => ?_)
      · rw [if_pos (by simpa using z)] at k
        walk_at "rd"
        exact k
      · rw [if_neg (by simpa using z)] at k
        walk_at "rd"
        refine r_ite (fun z2 => ?_) (fun z2 => ?_)
        · have z2' : (Drum.orderOf v).code = 0 := by simp at z2; omega
          rw [if_pos z2'] at k
          walk_at "rd"
          exact k
        · have z2' : (Drum.orderOf v).code ≠ 0 := by simp at z2; omega
          rw [if_neg z2'] at k
          walk_at "rd"
          refine r_ite (fun z3 => ?_) (fun z3 => ?_)
          · have z3' : 2000 ≤ (Drum.orderOf v).n := by
              rw [Bool.not_eq_true', ← Bool.not_eq_true, within_iff] at z3
              unfold Drum.WORDS at z3
              omega
            rw [if_pos z3'] at k
            walk_at "rd"
            exact k
          · have z3' : ¬ 2000 ≤ (Drum.orderOf v).n := by
              rw [Bool.not_eq_false', within_iff] at z3
              unfold Drum.WORDS at z3
              omega
            rw [if_neg z3'] at k
            walk_at "rd"
            refine r_ite (fun z4 => ?_) (fun z4 => ?_)
            · walk_at "rd"
              refine r_ite (fun z5 => ?_) (fun z5 => ?_)
              · have z5' : 2000 ≤ (Drum.orderOf v).d := by
                  rw [Bool.not_eq_true', ← Bool.not_eq_true, within_iff] at z5
                  unfold Drum.WORDS at z5
                  omega
                rw [if_pos ⟨z4, z5'⟩] at k
                walk_at "rd"
                exact k
              · have z5' : ¬ 2000 ≤ (Drum.orderOf v).d := by
                  rw [Bool.not_eq_false', within_iff] at z5
                  unfold Drum.WORDS at z5
                  omega
                rw [if_neg (fun q => z5' q.2)] at k
                walk_at "rd"
                refine r_ite (fun z6 => ?_) (fun z6 => ?_)
                · have z6' := of_decide_eq_true z6
                  walk_at "rd"
                  refine r_ite (fun z7 => ?_) (fun z7 => ?_)
                  · have z7' : 20 < (Drum.orderOf v).d := by simp at z7; omega
                    rw [if_pos ⟨z6'.1, z6'.2, z7'⟩] at k
                    walk_at "rd"
                    exact k
                  · have z7' : ¬ 20 < (Drum.orderOf v).d := by simp at z7; omega
                    rw [if_neg (fun q => z7' q.2.2)] at k
                    walk_at "rd"
                    refine r_ite (fun z8 => ?_) (fun z8 => ?_)
                    · have z8' : (Drum.orderOf v).code = 70 := by simp at z8; omega
                      walk_at "rd"
                      refine r_ite (fun z9 => ?_) (fun z9 => ?_)
                      · rw [if_pos ⟨z8', by simpa using z9⟩] at k
                        walk_at "rd"
                        exact k
                      · rw [if_neg (fun q => by rw [q.2] at z9; cases z9)] at k
                        walk_at "rd"
                        exact k
                    · have z8' : (Drum.orderOf v).code ≠ 70 := by simp at z8; omega
                      rw [if_neg (fun q => z8' q.1)] at k
                      refine r_ite (fun z => nomatch z) (fun _ => ?_)
                      walk_at "rd"
                      exact k
                · have z6' := of_decide_eq_false z6
                  rw [if_neg (fun q => z6' ⟨q.1, q.2.1⟩)] at k
                  refine r_ite (fun z => nomatch z) (fun _ => ?_)
                  walk_at "rd"
                  refine r_ite (fun z8 => ?_) (fun z8 => ?_)
                  · have z8' : (Drum.orderOf v).code = 70 := by simp at z8; omega
                    walk_at "rd"
                    refine r_ite (fun z9 => ?_) (fun z9 => ?_)
                    · rw [if_pos ⟨z8', by simpa using z9⟩] at k
                      walk_at "rd"
                      exact k
                    · rw [if_neg (fun q => by rw [q.2] at z9; cases z9)] at k
                      walk_at "rd"
                      exact k
                  · have z8' : (Drum.orderOf v).code ≠ 70 := by simp at z8; omega
                    rw [if_neg (fun q => z8' q.1)] at k
                    refine r_ite (fun z => nomatch z) (fun _ => ?_)
                    walk_at "rd"
                    exact k
            · rw [if_neg (fun q => by rw [q.1] at z4; cases z4)] at k
              refine r_ite (fun z => nomatch z) (fun _ => ?_)
              walk_at "rd"
              refine r_ite (fun z6 => ?_) (fun z6 => ?_)
              · have z6' := of_decide_eq_true z6
                walk_at "rd"
                refine r_ite (fun z7 => ?_) (fun z7 => ?_)
                · have z7' : 20 < (Drum.orderOf v).d := by simp at z7; omega
                  rw [if_pos ⟨z6'.1, z6'.2, z7'⟩] at k
                  walk_at "rd"
                  exact k
                · have z7' : ¬ 20 < (Drum.orderOf v).d := by simp at z7; omega
                  rw [if_neg (fun q => z7' q.2.2)] at k
                  walk_at "rd"
                  refine r_ite (fun z8 => ?_) (fun z8 => ?_)
                  · have z8' : (Drum.orderOf v).code = 70 := by simp at z8; omega
                    walk_at "rd"
                    refine r_ite (fun z9 => ?_) (fun z9 => ?_)
                    · rw [if_pos ⟨z8', by simpa using z9⟩] at k
                      walk_at "rd"
                      exact k
                    · rw [if_neg (fun q => by rw [q.2] at z9; cases z9)] at k
                      walk_at "rd"
                      exact k
                  · have z8' : (Drum.orderOf v).code ≠ 70 := by simp at z8; omega
                    rw [if_neg (fun q => z8' q.1)] at k
                    refine r_ite (fun z => nomatch z) (fun _ => ?_)
                    walk_at "rd"
                    exact k
              · have z6' := of_decide_eq_false z6
                rw [if_neg (fun q => z6' ⟨q.1, q.2.1⟩)] at k
                refine r_ite (fun z => nomatch z) (fun _ => ?_)
                walk_at "rd"
                refine r_ite (fun z8 => ?_) (fun z8 => ?_)
                · have z8' : (Drum.orderOf v).code = 70 := by simp at z8; omega
                  walk_at "rd"
                  refine r_ite (fun z9 => ?_) (fun z9 => ?_)
                  · rw [if_pos ⟨z8', by simpa using z9⟩] at k
                    walk_at "rd"
                    exact k
                  · rw [if_neg (fun q => by rw [q.2] at z9; cases z9)] at k
                    walk_at "rd"
                    exact k
                · have z8' : (Drum.orderOf v).code ≠ 70 := by simp at z8; omega
                  rw [if_neg (fun q => z8' q.1)] at k
                  refine r_ite (fun z => nomatch z) (fun _ => ?_)
                  walk_at "rd"
                  exact k
end
local macro_rules | `(tactic| walk_at "rd2") => `(tactic| with_reducible refine r_code_of (by first | assumption | omega | decide) ?_)
local macro_rules | `(tactic| walk_at "rd2") => `(tactic| with_reducible refine r_data_of (by first | assumption | omega | decide) ?_)
local macro_rules | `(tactic| walk_at "rd2") => `(tactic| with_reducible refine r_next_of (by first | assumption | omega | decide) ?_)
local macro_rules | `(tactic| walk_at "rd2") => `(tactic| with_reducible refine r_is_order (by first | assumption | omega | decide) ?_)
local macro_rules | `(tactic| walk_at "rd2") => `(tactic| with_reducible refine r_loads_d ?_)
local macro_rules | `(tactic| walk_at "rd2") => `(tactic| with_reducible refine r_waits (by first | assumption | omega | decide) (by first | assumption | omega | decide) ?_)
local macro_rules | `(tactic| walk_at "rd2") => `(tactic| with_reducible refine r_shifts_by_data ?_)
local macro_rules | `(tactic| walk_at "rd2") => `(tactic| with_reducible refine r_has_data_address (by first | assumption | omega | decide) ?_)
local macro_rules | `(tactic| walk_at "rd2") => `(tactic| with_reducible refine r_stopping_state (by first | assumption | omega | decide) ?_)
/-- the machine m stands at p, its drum at l -/
structure MachAt (a : Ad) (H : Hp) (p : Addr) (m : Drum.Machine) (l : Addr) : Prop where
  ob : ∃ dx, H p = some (.ins a.Machine dx (fs_Machine (m.state : Int) (DrumMachineSeed.flag m.over) (m.next : Int) (m.tick : Int) m.a m.d l))
  dr : H l = some (.lst (m.drum.map V.int))
theorem MachAt.ne {a : Ad} {H : Hp} {p l : Addr} {m : Drum.Machine} (h : MachAt a H p m l) : p ≠ l := by
  obtain ⟨⟨dx, h1⟩, h2⟩ := h
  exact ne_of h1 h2 (by intro z; cases z)
theorem MachAt.same {a : Ad} {H H' : Hp} {p l : Addr} {m : Drum.Machine} (M : MachAt a H p m l) (s : Same H H') : MachAt a H' p m l := by
  obtain ⟨⟨dx, h1⟩, h2⟩ := M
  exact ⟨⟨dx, s _ _ h1⟩, s _ _ h2⟩
theorem MachAt.new {a : Ad} {H : Hp} {p l dx : Addr} {n : Int} (h0 : 0 ≤ n) (h : H p = some (.ins a.Machine dx (fs_Machine 0 0 n 0 0 0 l))) (hl : H l = some (.lst ((List.replicate 2000 (0 : Int)).map V.int))) : MachAt a H p (Drum.new n.toNat) l := by
  refine ⟨⟨dx, ?_⟩, hl⟩
  rw [h]
  have e : ((n.toNat : Nat) : Int) = n := Int.toNat_of_nonneg h0
  show _ = some (HO.ins a.Machine dx (fs_Machine 0 0 ((n.toNat : Nat) : Int) 0 0 0 l))
  rw [e]
/-- all but p and l is as it was -/
def Keep (p l : Addr) (H H' : Hp) : Prop := ∀ b o, H b = some o → b ≠ p → b ≠ l → H' b = some o
theorem Keep.refl (p l : Addr) (H : Hp) : Keep p l H H := fun _ _ h _ _ => h
theorem Keep.trans {p l : Addr} {H H1 H2 : Hp} (x : Keep p l H H1) (y : Keep p l H1 H2) : Keep p l H H2 := fun b o h n1 n2 => y b o (x b o h n1 n2) n1 n2
theorem Keep.same {p l : Addr} {H H1 : Hp} (x : Same H H1) : Keep p l H H1 := fun b o h _ _ => x b o h
theorem map_set (l : List Int) (j : Nat) (v : Int) : (l.map V.int).set j (V.int v) = (l.set j v).map V.int := (List.map_set).symm
theorem ixN_in {n : Nat} {i : Int} (h0 : 0 ≤ i) (h1 : i < n) : ixN n i = some i.toNat := by
  unfold ixN
  rw [if_pos h0, if_pos h1]
theorem at_map {l : List Int} {i : Int} (h0 : 0 ≤ i) (h1 : i < l.length) : atI (l.map V.int) i = some (V.int (l.getD i.toNat 0)) := by
  have e : i = ((i.toNat : Nat) : Int) := (Int.toNat_of_nonneg h0).symm
  have hl : i.toNat < l.length := by omega
  have q : atI (l.map V.int) ((i.toNat : Nat) : Int) = some (V.int (l.getD i.toNat 0)) := by
    refine atI_nat ?_
    rw [List.getElem?_map, List.getElem?_eq_getElem hl, List.getD_eq_getElem?_getD, List.getElem?_eq_getElem hl]
    rfl
  rw [← e] at q
  exact q
section
variable {K : PySem.W.Frag} {mg : Str → Option Value} {a : Ad} {d : Fds} {H : Hp} {p l : Addr} {m : Drum.Machine}
theorem r_gState (T : Txt K mg a d) (M : MachAt a H p m l) {R : V → Prop} (q : R (.int (m.state : Int))) : ∃ a' C dx fs v, V.ref p = .ref a' ∧ H a' = some (.ins C dx fs) ∧ Cls K C ∧ NoAttr K C "state" ∧ fs.lookup ("state" : Str) = some v ∧ R v := by
  obtain ⟨dx, ob⟩ := M.ob
  exact r_fld ob T.cl_Machine T.n_Machine_state lk_Machine_state q
theorem r_gOver (T : Txt K mg a d) (M : MachAt a H p m l) {R : V → Prop} (q : R (.int (DrumMachineSeed.flag m.over))) : ∃ a' C dx fs v, V.ref p = .ref a' ∧ H a' = some (.ins C dx fs) ∧ Cls K C ∧ NoAttr K C "over" ∧ fs.lookup ("over" : Str) = some v ∧ R v := by
  obtain ⟨dx, ob⟩ := M.ob
  exact r_fld ob T.cl_Machine T.n_Machine_over lk_Machine_over q
theorem r_gN (T : Txt K mg a d) (M : MachAt a H p m l) {R : V → Prop} (q : R (.int (m.next : Int))) : ∃ a' C dx fs v, V.ref p = .ref a' ∧ H a' = some (.ins C dx fs) ∧ Cls K C ∧ NoAttr K C "n" ∧ fs.lookup ("n" : Str) = some v ∧ R v := by
  obtain ⟨dx, ob⟩ := M.ob
  exact r_fld ob T.cl_Machine T.n_Machine_n lk_Machine_n q
theorem r_gT (T : Txt K mg a d) (M : MachAt a H p m l) {R : V → Prop} (q : R (.int (m.tick : Int))) : ∃ a' C dx fs v, V.ref p = .ref a' ∧ H a' = some (.ins C dx fs) ∧ Cls K C ∧ NoAttr K C "t" ∧ fs.lookup ("t" : Str) = some v ∧ R v := by
  obtain ⟨dx, ob⟩ := M.ob
  exact r_fld ob T.cl_Machine T.n_Machine_t lk_Machine_t q
theorem r_gA (T : Txt K mg a d) (M : MachAt a H p m l) {R : V → Prop} (q : R (.int m.a)) : ∃ a' C dx fs v, V.ref p = .ref a' ∧ H a' = some (.ins C dx fs) ∧ Cls K C ∧ NoAttr K C "a" ∧ fs.lookup ("a" : Str) = some v ∧ R v := by
  obtain ⟨dx, ob⟩ := M.ob
  exact r_fld ob T.cl_Machine T.n_Machine_a lk_Machine_a q
theorem r_gD (T : Txt K mg a d) (M : MachAt a H p m l) {R : V → Prop} (q : R (.int m.d)) : ∃ a' C dx fs v, V.ref p = .ref a' ∧ H a' = some (.ins C dx fs) ∧ Cls K C ∧ NoAttr K C "d" ∧ fs.lookup ("d" : Str) = some v ∧ R v := by
  obtain ⟨dx, ob⟩ := M.ob
  exact r_fld ob T.cl_Machine T.n_Machine_d lk_Machine_d q
theorem r_gDrum (T : Txt K mg a d) (M : MachAt a H p m l) {R : V → Prop} (q : R (.ref l)) : ∃ a' C dx fs v, V.ref p = .ref a' ∧ H a' = some (.ins C dx fs) ∧ Cls K C ∧ NoAttr K C "drum" ∧ fs.lookup ("drum" : Str) = some v ∧ R v := by
  obtain ⟨dx, ob⟩ := M.ob
  exact r_fld ob T.cl_Machine T.n_Machine_drum lk_Machine_drum q
theorem r_sState (T : Txt K mg a d) (M : MachAt a H p m l) {x : Int} (v : Nat) (e : (v : Int) = x) {R : Hp → Prop} (q : ∀ H', MachAt a H' p { m with state := v } l → Keep p l H H' → R H') : ∃ a' C dx fs, V.ref p = .ref a' ∧ H a' = some (.ins C dx fs) ∧ Cls K C ∧ NoAttr K C "state" ∧ fs.length < 1000 ∧ R (upd H a' (.ins C dx (putF "state" (.int x) fs))) := by
  obtain ⟨dx, ob⟩ := M.ob
  subst e
  refine r_sfld ob T.cl_Machine T.n_Machine_state len_Machine pf_Machine_state (q _ ⟨⟨dx, upd_same⟩, ?_⟩ ?_)
  · rw [upd_ne M.ne.symm]
    exact M.dr
  · intro b o h n1 n2
    rw [upd_ne n1]
    exact h
theorem r_sOver (T : Txt K mg a d) (M : MachAt a H p m l) {x : Int} (v : Bool) (e : DrumMachineSeed.flag v = x) {R : Hp → Prop} (q : ∀ H', MachAt a H' p { m with over := v } l → Keep p l H H' → R H') : ∃ a' C dx fs, V.ref p = .ref a' ∧ H a' = some (.ins C dx fs) ∧ Cls K C ∧ NoAttr K C "over" ∧ fs.length < 1000 ∧ R (upd H a' (.ins C dx (putF "over" (.int x) fs))) := by
  obtain ⟨dx, ob⟩ := M.ob
  subst e
  refine r_sfld ob T.cl_Machine T.n_Machine_over len_Machine pf_Machine_over (q _ ⟨⟨dx, upd_same⟩, ?_⟩ ?_)
  · rw [upd_ne M.ne.symm]
    exact M.dr
  · intro b o h n1 n2
    rw [upd_ne n1]
    exact h
theorem r_sN (T : Txt K mg a d) (M : MachAt a H p m l) {x : Int} (v : Nat) (e : (v : Int) = x) {R : Hp → Prop} (q : ∀ H', MachAt a H' p { m with next := v } l → Keep p l H H' → R H') : ∃ a' C dx fs, V.ref p = .ref a' ∧ H a' = some (.ins C dx fs) ∧ Cls K C ∧ NoAttr K C "n" ∧ fs.length < 1000 ∧ R (upd H a' (.ins C dx (putF "n" (.int x) fs))) := by
  obtain ⟨dx, ob⟩ := M.ob
  subst e
  refine r_sfld ob T.cl_Machine T.n_Machine_n len_Machine pf_Machine_n (q _ ⟨⟨dx, upd_same⟩, ?_⟩ ?_)
  · rw [upd_ne M.ne.symm]
    exact M.dr
  · intro b o h n1 n2
    rw [upd_ne n1]
    exact h
theorem r_sT (T : Txt K mg a d) (M : MachAt a H p m l) {x : Int} (v : Nat) (e : (v : Int) = x) {R : Hp → Prop} (q : ∀ H', MachAt a H' p { m with tick := v } l → Keep p l H H' → R H') : ∃ a' C dx fs, V.ref p = .ref a' ∧ H a' = some (.ins C dx fs) ∧ Cls K C ∧ NoAttr K C "t" ∧ fs.length < 1000 ∧ R (upd H a' (.ins C dx (putF "t" (.int x) fs))) := by
  obtain ⟨dx, ob⟩ := M.ob
  subst e
  refine r_sfld ob T.cl_Machine T.n_Machine_t len_Machine pf_Machine_t (q _ ⟨⟨dx, upd_same⟩, ?_⟩ ?_)
  · rw [upd_ne M.ne.symm]
    exact M.dr
  · intro b o h n1 n2
    rw [upd_ne n1]
    exact h
theorem r_sA (T : Txt K mg a d) (M : MachAt a H p m l) {x : Int} (v : Int) (e : v = x) {R : Hp → Prop} (q : ∀ H', MachAt a H' p { m with a := v } l → Keep p l H H' → R H') : ∃ a' C dx fs, V.ref p = .ref a' ∧ H a' = some (.ins C dx fs) ∧ Cls K C ∧ NoAttr K C "a" ∧ fs.length < 1000 ∧ R (upd H a' (.ins C dx (putF "a" (.int x) fs))) := by
  obtain ⟨dx, ob⟩ := M.ob
  subst e
  refine r_sfld ob T.cl_Machine T.n_Machine_a len_Machine pf_Machine_a (q _ ⟨⟨dx, upd_same⟩, ?_⟩ ?_)
  · rw [upd_ne M.ne.symm]
    exact M.dr
  · intro b o h n1 n2
    rw [upd_ne n1]
    exact h
theorem r_sD (T : Txt K mg a d) (M : MachAt a H p m l) {x : Int} (v : Int) (e : v = x) {R : Hp → Prop} (q : ∀ H', MachAt a H' p { m with d := v } l → Keep p l H H' → R H') : ∃ a' C dx fs, V.ref p = .ref a' ∧ H a' = some (.ins C dx fs) ∧ Cls K C ∧ NoAttr K C "d" ∧ fs.length < 1000 ∧ R (upd H a' (.ins C dx (putF "d" (.int x) fs))) := by
  obtain ⟨dx, ob⟩ := M.ob
  subst e
  refine r_sfld ob T.cl_Machine T.n_Machine_d len_Machine pf_Machine_d (q _ ⟨⟨dx, upd_same⟩, ?_⟩ ?_)
  · rw [upd_ne M.ne.symm]
    exact M.dr
  · intro b o h n1 n2
    rw [upd_ne n1]
    exact h
theorem r_put (M : MachAt a H p m l) {j : Nat} {v : Int} (hj : j < m.drum.length) {Qh : Hp → Prop} (q : ∀ H', MachAt a H' p (m.put j v) l → Keep p l H H' → Qh H') : rSetL (.ref l) (.int (j : Int)) (.int v) H Qh := by
  refine r_setL M.dr (ixN_in (by omega) (by rw [List.length_map]; omega)) (q _ ⟨?_, ?_⟩ ?_)
  · obtain ⟨dx, ob⟩ := M.ob
    refine ⟨dx, ?_⟩
    rw [upd_ne M.ne]
    exact ob
  · rw [upd_same, map_set]
    rfl
  · intro b o h n1 n2
    rw [upd_ne n2]
    exact h
end
/-- the cards of a run -/
structure CardsAt (a : Ad) (H : Hp) (c w u : Addr) (ws : List Int) (k : Nat) (pu : List Int) : Prop where
  ob : ∃ dx, H c = some (.ins a.Cards dx (fs_Cards w (k : Int) u))
  wo : H w = some (.lst (ws.map V.int))
  pn : H u = some (.lst (pu.map V.int))
section
variable {P : Program} {w : World} {K : PySem.W.Frag} {mg : Str → Option Value} {base : Heap} {a : Ad} {d : Fds}
/-- what an instance may hold ahead of begin -/
def preF (fs : List (Str × V)) : Prop := fs = [] ∨ ∃ st ov n t a d l, fs = fs_Machine st ov n t a d l
def sp_Machine_begin (K : PySem.W.Frag) (a : Ad) : Sp := fun vs H Q _ => ∃ (p dx : Addr) (fs : List (Str × V)) (n : Int), vs = [.ref p, .int n] ∧ H p = some (.ins a.Machine dx fs) ∧ preF fs ∧
  ∀ (H' : Hp) (l : Addr), H l = none → H' p = some (.ins a.Machine dx (fs_Machine 0 0 n 0 0 0 l)) → H' l = some (.lst ((List.replicate 2000 (0 : Int)).map V.int)) → (∀ b o, H b = some o → b ≠ p → H' b = some o) → Q .non H'
theorem pre_puts {fs : List (Str × V)} (h : preF fs) (n : Int) (l : Addr) : putF "drum" (.ref l) (putF "d" (.int 0) (putF "a" (.int 0) (putF "t" (.int 0) (putF "n" (.int n) (putF "over" (.int 0) (putF "state" (.int 0) fs)))))) = fs_Machine 0 0 n 0 0 0 l := by
  rcases h with rfl | ⟨st, ov, m, t, a, d, r, rfl⟩
  · unfold fs_Machine
    simp only [putF, sne_Machine_state_over, sne_Machine_state_n, sne_Machine_state_t, sne_Machine_state_a, sne_Machine_state_d, sne_Machine_state_drum, sne_Machine_over_n, sne_Machine_over_t, sne_Machine_over_a, sne_Machine_over_d, sne_Machine_over_drum,
      sne_Machine_n_t, sne_Machine_n_a, sne_Machine_n_d, sne_Machine_n_drum, sne_Machine_t_a, sne_Machine_t_d, sne_Machine_t_drum, sne_Machine_a_d, sne_Machine_a_drum, sne_Machine_d_drum, if_false]
  · rw [pf_Machine_state, pf_Machine_over, pf_Machine_n, pf_Machine_t, pf_Machine_a, pf_Machine_d, pf_Machine_drum]
theorem len_putF {f : Str} {v : V} {fs : List (Str × V)} {k : Nat} (h : fs.length ≤ k) : (putF f v fs).length ≤ k + 1 := Nat.le_trans (length_putF f v fs) (Nat.succ_le_succ h)
theorem len_pre {fs : List (Str × V)} (h : preF fs) : fs.length ≤ 7 := by
  rcases h with rfl | ⟨st, ov, m, t, a, d, r, rfl⟩
  · exact Nat.zero_le _
  · exact (by decide : 7 ≤ 7)
theorem ok_Machine_begin (T : Txt K mg a d) : FnOk P w K mg base CX0 1 a.Machine_begin d.Machine_begin ["self", "start"] (sp_Machine_begin K a) := by
  refine T.F_Machine_begin.ok sc_Machine_begin (fun vs H Q E h => ?_) (fun cdv A outer s H vs Q E hr h => ?_)
  · obtain ⟨p, dx, fs, n, rfl, hp, pre, k⟩ := h
    rfl
  · obtain ⟨p, dx, fs, n, rfl, hp, pre, k⟩ := h
    refine ⟨_, (pss_cons (ps_fld (pv 0) pe_int rfl)
      (pss_cons (ps_fld (pv 0) pe_int rfl)
      (pss_cons (ps_fld (pv 0) (pv 1) rfl)
      (pss_cons (ps_fld (pv 0) pe_int rfl)
      (pss_cons (ps_fld (pv 0) pe_int rfl)
      (pss_cons (ps_fld (pv 0) pe_int rfl)
      (pss_one (ps_fld (pv 0) (pe_op op_rep (pe_lst (pa_cons pe_int pa_nil)) (pe_gi T.c_DRUM_SIZE)) rfl)))))))), ?_⟩
    try dsimp only [cxOf]
    have l0 := len_pre pre
    walk_at "rd"
    refine r_sfld hp T.cl_Machine T.n_Machine_state (by omega) rfl ?_
    walk_at "rd"
    refine r_sfld upd_same T.cl_Machine T.n_Machine_over (Nat.lt_of_le_of_lt (len_putF l0) (by decide)) rfl ?_
    walk_at "rd"
    refine r_sfld upd_same T.cl_Machine T.n_Machine_n (Nat.lt_of_le_of_lt (len_putF (len_putF l0)) (by decide)) rfl ?_
    walk_at "rd"
    refine r_sfld upd_same T.cl_Machine T.n_Machine_t (Nat.lt_of_le_of_lt (len_putF (len_putF (len_putF l0))) (by decide)) rfl ?_
    walk_at "rd"
    refine r_sfld upd_same T.cl_Machine T.n_Machine_a (Nat.lt_of_le_of_lt (len_putF (len_putF (len_putF (len_putF l0)))) (by decide)) rfl ?_
    walk_at "rd"
    refine r_sfld upd_same T.cl_Machine T.n_Machine_d (Nat.lt_of_le_of_lt (len_putF (len_putF (len_putF (len_putF (len_putF l0))))) (by decide)) rfl ?_
    walk_at "rd"
    simp only [upd_upd]
    refine r_newL rfl (fun l1 h1 => ?_)
    walk_at "rd"
    have n1 : l1 ≠ p := fun e => by rw [e, upd_same] at h1; cases h1
    refine ⟨l1, 2000, _, rfl, rfl, upd_same, by decide, by decide, by decide, fun l2 h2 => ?_⟩
    have n2 : l2 ≠ l1 := fun e => by rw [e, upd_same] at h2; cases h2
    have n3 : l2 ≠ p := fun e => by rw [e, upd_ne n1.symm, upd_same] at h2; cases h2
    walk_at "rd"
    refine r_sfld (by rw [upd_ne n3.symm, upd_ne n1.symm, upd_same]) T.cl_Machine T.n_Machine_drum (Nat.lt_of_le_of_lt (len_putF (len_putF (len_putF (len_putF (len_putF (len_putF l0)))))) (by decide)) (pre_puts pre n l2) ?_
    refine k _ l2 ?_ upd_same ?_ ?_
    · rw [upd_ne n2, upd_ne n3] at h2
      exact h2
    · rw [upd_ne n3, upd_same]
      rfl
    · intro b o hb ne
      rw [upd_ne n1] at h1
      rw [upd_ne n2, upd_ne n3] at h2
      rw [upd_ne ne, upd_ne (ne_of_none hb h2), upd_ne (ne_of_none hb h1), upd_ne ne]
      exact hb
def sp_Machine_init (K : PySem.W.Frag) (a : Ad) : Sp := fun vs H Q _ => ∃ (p dx : Addr), vs = [.ref p] ∧ H p = some (.ins a.Machine dx []) ∧
  ∀ (H' : Hp) (l : Addr), H l = none → H' p = some (.ins a.Machine dx (fs_Machine 0 0 0 0 0 0 l)) → H' l = some (.lst ((List.replicate 2000 (0 : Int)).map V.int)) → (∀ b o, H b = some o → b ≠ p → H' b = some o) → Q .non H'
theorem ok_Machine_init (T : Txt K mg a d) : FnOk P w K mg base CX0 2 a.Machine_init d.Machine_init ["self"] (sp_Machine_init K a) := by
  refine T.F_Machine_init.ok sc_Machine_init (fun vs H Q E h => ?_) (fun cdv A outer s H vs Q E hr h => ?_)
  · obtain ⟨p, dx, rfl, hp, k⟩ := h
    rfl
  · obtain ⟨p, dx, rfl, hp, k⟩ := h
    refine ⟨_, (pss_one (ps_expr (pe_meth (pv 0) T.cl_Machine T.m_Machine_begin (ok_Machine_begin T) (hr.mono (by decide)) T.B_Machine_begin .nil pass0 (pa_cons pe_int pa_nil)))), ?_⟩
    try dsimp only [cxOf]
    walk_at "rd"
    refine r_meth hp rfl ?_
    walk_at "rd"
    refine ⟨p, dx, _, 0, rfl, hp, .inl rfl, fun H' l h1 h2 h3 h4 => ?_⟩
    exact k H' l h1 h2 h3 h4
def sp_Machine_keep (K : PySem.W.Frag) (a : Ad) : Sp := fun vs H Q _ => ∃ (p l : Addr) (m : Drum.Machine) (v : Int), vs = [.ref p, .int v] ∧ MachAt a H p m l ∧ ∀ H', MachAt a H' p (Drum.sumTo m (Drum.fitted v)) l → Keep p l H H' → Q .non H'
theorem keep_is {m : Drum.Machine} {v : Int} {b : Bool} (h : (m.over || !Drum.isLong v) = b) : Drum.sumTo m (Drum.fitted v) = { m with over := b, a := low20 v } := by
  unfold Drum.sumTo
  rw [fitted_low, fitted_over, h]
theorem ok_Machine_keep (T : Txt K mg a d) : FnOk P w K mg base CX0 3 a.Machine_keep d.Machine_keep ["self", "number"] (sp_Machine_keep K a) := by
  refine T.F_Machine_keep.ok sc_Machine_keep (fun vs H Q E h => ?_) (fun cdv A outer s H vs Q E hr h => ?_)
  · obtain ⟨p, l, m, v, rfl, M, k⟩ := h
    rfl
  · obtain ⟨p, l, m, v, rfl, M, k⟩ := h
    refine ⟨_, (pss_cons (ps_if (pt_not (pt_val (pe_call (ok_is_long T) (hr.mono (by decide)) rfl T.G_is_long T.F_is_long.kp T.B_is_long .nil pass0 (pa_cons (pv 1) pa_nil))))
        (pss_one (ps_fld (pv 0) pe_int rfl))
        pss_nil)
      (pss_one (ps_fld (pv 0) (pe_call (ok_lower_twenty T) (hr.mono (by decide)) rfl T.G_lower_twenty T.F_lower_twenty.kp T.B_lower_twenty .nil pass0 (pa_cons (pv 1) pa_nil)) rfl))), ?_⟩
    try dsimp only [cxOf]
    walk_at "rd"
    refine r_ite (fun c => ?_) (fun c => ?_)
    · walk_at "rd"
      refine r_sOver T M true rfl (fun H1 M1 K1 => ?_)
      walk_at "rd"
      refine r_sA T M1 (low20 v) rfl (fun H2 M2 K2 => ?_)
      refine k H2 ?_ (K1.trans K2)
      rw [keep_is (b := true) (by rw [c, Bool.or_true])]
      exact M2
    · walk_at "rd"
      refine r_sA T M (low20 v) rfl (fun H2 M2 K2 => ?_)
      refine k H2 ?_ K2
      rw [keep_is (b := m.over) (by rw [c, Bool.or_false])]
      exact M2
def sp_Machine_pass_to (K : PySem.W.Frag) (a : Ad) : Sp := fun vs H Q _ => ∃ (p l : Addr) (m : Drum.Machine) (t : Nat), vs = [.ref p, .int (t : Int)] ∧ MachAt a H p m l ∧ ∀ H', MachAt a H' p { m with tick := t % Drum.WRAP } l → Keep p l H H' → Q .non H'
theorem ok_Machine_pass_to (T : Txt K mg a d) : FnOk P w K mg base CX0 1 a.Machine_pass_to d.Machine_pass_to ["self", "tick"] (sp_Machine_pass_to K a) := by
  refine T.F_Machine_pass_to.ok sc_Machine_pass_to (fun vs H Q E h => ?_) (fun cdv A outer s H vs Q E hr h => ?_)
  · obtain ⟨p, l, m, t, rfl, M, k⟩ := h
    rfl
  · obtain ⟨p, l, m, t, rfl, M, k⟩ := h
    refine ⟨_, (pss_one (ps_fld (pv 0) (pe_op op_mod (pv 1) (pe_gi T.c_TICK_COUNT)) rfl)), ?_⟩
    try dsimp only [cxOf]
    walk_at "rd"
    refine r_sT T M (t % Drum.WRAP) rfl (fun H2 M2 K2 => ?_)
    exact k H2 M2 K2
def sp_Cards_init (K : PySem.W.Frag) (a : Ad) : Sp := fun vs H Q _ => ∃ (c dx w : Addr), vs = [.ref c, .ref w] ∧ H c = some (.ins a.Cards dx []) ∧
  ∀ (H' : Hp) (u : Addr), H u = none → H' c = some (.ins a.Cards dx (fs_Cards w 0 u)) → H' u = some (.lst []) → (∀ b o, H b = some o → b ≠ c → H' b = some o) → Q .non H'
theorem pre_cards (w u : Addr) : putF "punched" (.ref u) (putF "read_count" (.int 0) (putF "words" (.ref w) [])) = fs_Cards w 0 u := by
  unfold fs_Cards
  simp only [putF, sne_Cards_words_read_count, sne_Cards_words_punched, sne_Cards_read_count_punched, if_false]
theorem ok_Cards_init (T : Txt K mg a d) : FnOk P w K mg base CX0 1 a.Cards_init d.Cards_init ["self", "words"] (sp_Cards_init K a) := by
  refine T.F_Cards_init.ok sc_Cards_init (fun vs H Q E h => ?_) (fun cdv A outer s H vs Q E hr h => ?_)
  · obtain ⟨c, dx, w, rfl, hc, k⟩ := h
    rfl
  · obtain ⟨c, dx, w, rfl, hc, k⟩ := h
    refine ⟨_, (pss_cons (ps_fld (pv 0) (pv 1) rfl)
      (pss_cons (ps_fld (pv 0) pe_int rfl)
      (pss_one (ps_fld (pv 0) (pe_lst pa_nil) rfl)))), ?_⟩
    try dsimp only [cxOf]
    walk_at "rd"
    refine r_sfld hc T.cl_Cards T.n_Cards_words (by decide) rfl ?_
    walk_at "rd"
    refine r_sfld upd_same T.cl_Cards T.n_Cards_read_count (Nat.lt_of_le_of_lt (len_putF (Nat.le_refl 0)) (by decide)) rfl ?_
    walk_at "rd"
    simp only [upd_upd]
    refine r_newL rfl (fun u hu => ?_)
    walk_at "rd"
    have n1 : u ≠ c := fun e => by rw [e, upd_same] at hu; cases hu
    rw [upd_ne n1] at hu
    refine r_sfld (by rw [upd_ne n1.symm, upd_same]) T.cl_Cards T.n_Cards_punched (Nat.lt_of_le_of_lt (len_putF (len_putF (Nat.le_refl 0))) (by decide)) (pre_cards w u) ?_
    refine k _ u hu upd_same ?_ ?_
    · rw [upd_ne n1, upd_same]
    · intro b o hb ne
      rw [upd_ne ne, upd_ne (ne_of_none hb hu), upd_ne ne]
      exact hb
def sp_Cards_is_left (K : PySem.W.Frag) (a : Ad) : Sp := fun vs H Q _ => ∃ (c w u : Addr) (ws : List Int) (k : Nat) (pu : List Int), vs = [.ref c] ∧ CardsAt a H c w u ws k pu ∧ k ≤ 100000 ∧ Q (.bl (decide (k * 8 < ws.length))) H
theorem ok_Cards_is_left (T : Txt K mg a d) : FnOk P w K mg base CX0 1 a.Cards_is_left d.Cards_is_left ["self"] (sp_Cards_is_left K a) := by
  refine T.F_Cards_is_left.ok sc_Cards_is_left (fun vs H Q E h => ?_) (fun cdv A outer s H vs Q E hr h => ?_)
  · obtain ⟨c, w, u, ws, k, pu, rfl, C, hk, q⟩ := h
    rfl
  · obtain ⟨c, w, u, ws, k, pu, rfl, C, hk, q⟩ := h
    refine ⟨_, (pss_one (ps_ret (pe_cmpR op_lt (pe_op op_mulB (pe_fld (pv 0) rfl) (pe_gi T.c_CARD_SIZE)) (pe_callB call_len_seq (by rfl) T.b_len PySem.boot_len (pa_cons (pe_fld (pv 0) rfl) pa_nil)) (nomark _)))), ?_⟩
    try dsimp only [cxOf]
    obtain ⟨dx, ob⟩ := C.ob
    walk_at "rd"
    refine r_fld ob T.cl_Cards T.n_Cards_read_count lk_Cards_read_count ?_
    walk_at "rd"
    refine r_mul (by omega) (by decide) ?_
    walk_at "rd"
    refine r_fld ob T.cl_Cards T.n_Cards_words lk_Cards_words ?_
    walk_at "rd"
    refine r_len (SqL.of C.wo) ?_
    walk_at "rd"
    refine bl_of ?_ q
    rw [List.length_map]
    walk_at "bl"
def sp_Cards_read_to (K : PySem.W.Frag) (a : Ad) : Sp := fun vs H Q _ => ∃ (c w u : Addr) (ws : List Int) (k : Nat) (pu : List Int) (l : Addr) (xs : List Int) (x : Nat), vs = [.ref c, .ref l, .int (x : Int)] ∧ CardsAt a H c w u ws k pu ∧ k ≤ 100000 ∧ k * 8 + 8 ≤ ws.length ∧ H l = some (.lst (xs.map V.int)) ∧ xs.length = 2000 ∧ x < 2000 ∧
  ∀ H', (∃ dx, H' c = some (.ins a.Cards dx (fs_Cards w ((k + 1 : Nat) : Int) u))) → H' l = some (.lst ((putN xs x ((ws.drop (k * 8)).take 8) 8).map V.int)) → (∀ b o, H b = some o → b ≠ c → b ≠ l → H' b = some o) → Q .non H'
theorem ok_Cards_read_to (T : Txt K mg a d) : FnOk P w K mg base CX0 2 a.Cards_read_to d.Cards_read_to ["self", "drum", "address"] (sp_Cards_read_to K a) := by
  refine T.F_Cards_read_to.ok sc_Cards_read_to (fun vs H Q E h => ?_) (fun cdv A outer s H vs Q E hr h => ?_)
  · obtain ⟨c, w, u, ws, k, pu, l, xs, x, rfl, C, hk, hw, hl, hn, hx, q⟩ := h
    rfl
  · obtain ⟨c, w, u, ws, k, pu, l, xs, x, rfl, C, hk, hw, hl, hn, hx, q⟩ := h
    refine ⟨_, (pss_cons (ps_set (i := 3) sc_Cards_read_to.nd rfl (Or.inl rfl) (pe_op op_mulB (pe_fld (pv 0) rfl) (pe_gi T.c_CARD_SIZE)))
      (pss_cons (ps_set (i := 4) sc_Cards_read_to.nd rfl (Or.inl rfl) (pv 2))
      (pss_cons (ps_for PassesOwn.never rfl (pi_list (pe_slice sl_list (pe_fld (pv 0) rfl) (po_some (pv 3)) (po_some (pe_op op_add (pv 3) (pe_gi T.c_CARD_SIZE))))) (pg_name (i := 5) sc_Cards_read_to.nd rfl (Or.inl rfl))
        (pss_cons (ps_asg (pv 5) (pg_sub (pv 1) (pv 4) set_list))
        (pss_one (ps_set (i := 4) sc_Cards_read_to.nd rfl (Or.inl rfl) (pe_call (ok_next_around T) (hr.mono (by decide)) rfl T.G_next_around T.F_next_around.kp T.B_next_around .nil pass0 (pa_cons (pv 4) pa_nil))))))
      (pss_one (ps_fldaug (pv 0) pe_int in_add))))), ?_⟩
    try dsimp only [cxOf]
    obtain ⟨dx, ob⟩ := C.ob
    have ncl : c ≠ l := ne_of ob hl (by intro z; cases z)
    have big : 10000000 < sizeLine := by decide
    walk_at "rd"
    refine r_fld ob T.cl_Cards T.n_Cards_read_count lk_Cards_read_count ?_
    walk_at "rd"
    refine r_mul (by omega) (by decide) ?_
    walk_at "rd"
    refine r_fld ob T.cl_Cards T.n_Cards_words lk_Cards_words ?_
    walk_at "rd"
    have e1 : (k : Int) * 8 = ((k * 8 : Nat) : Int) := by omega
    have e2 : (k : Int) * 8 + 8 = ((k * 8 + 8 : Nat) : Int) := by omega
    refine r_slL (SqL.of C.wo) (fun s hs => ?_)
    rw [e2, e1, cut_nat (by omega) (by omega), Nat.add_sub_cancel_left]
    have f1 := Same.upd_new (o := .lst (((ws.drop (k * 8)).take 8).map V.int)) hs
    have hlen : ((ws.drop (k * 8)).take 8).length = 8 := by
      rw [List.length_take, List.length_drop]
      omega
    have nsl : s ≠ l := fun e => by rw [e, hl] at hs; cases hs
    generalize (ws.drop (k * 8)).take 8 = card at *
    refine r_list (SqL.of upd_same) ?_
    refine for_listN (xs := card.map V.int) (fun i σ H' => ∃ v, σ = [some (.ref c), some (.ref l), some (.int (x : Int)), some (.int ((k * 8 : Nat) : Int)), some (.int (Drum.around x i : Int)), v] ∧ H' l = some (.lst ((putN xs x card i).map V.int)) ∧ ∀ b o, upd H s (.lst (card.map V.int)) b = some o → b ≠ l → H' b = some o) ⟨_, by rw [around_zero]; rfl, f1 _ _ hl, fun b o h _ => h⟩ ?_ ?_ ?_
    · rintro i σ H' hi ⟨v, rfl, h1, h2⟩
      exact SqL.of (h2 s _ upd_same nsl)
    · rintro i y σ H' hi ⟨v, rfl, h1, h2⟩
      rw [List.getElem?_map] at hi
      cases hc : card[i]? with
      | none => rw [hc] at hi; cases hi
      | some z =>
        rw [hc] at hi
        cases hi
        walk_at "rd"
        refine r_setL h1 (ixN_in (by omega) (by rw [List.length_map, putN_len, hn]; have := around_lt hx i; omega)) ?_
        walk_at "rd"
        refine ⟨_, by rw [around_succ]; rfl, ?_, ?_⟩
        · rw [upd_same, map_set, putN_succ, List.getD_eq_getElem?_getD, hc]
          rfl
        · intro b o hb ne
          rw [upd_ne ne]
          exact h2 b o hb ne
    · rintro σ H' ⟨v, rfl, h1, h2⟩
      rw [List.length_map, hlen] at h1
      have hc := h2 c _ (f1 _ _ ob) ncl
      walk_at "rd"
      refine ⟨c, _, dx, _, _, rfl, hc, T.cl_Cards, T.n_Cards_read_count, lk_Cards_read_count, ?_⟩
      walk_at "rd"
      refine ⟨dx, _, hc, len_Cards, ?_⟩
      rw [pf_Cards_read_count]
      refine q _ ⟨dx, upd_same⟩ (by rw [upd_ne ncl.symm]; exact h1) ?_
      intro b o hb n1 n2
      rw [upd_ne n1]
      exact h2 b o (f1 _ _ hb) n2
def sp_Cards_punch_from (K : PySem.W.Frag) (a : Ad) : Sp := fun vs H Q _ => ∃ (c w u : Addr) (ws : List Int) (k : Nat) (pu : List Int) (l : Addr) (xs : List Int) (x : Nat), vs = [.ref c, .ref l, .int (x : Int)] ∧ CardsAt a H c w u ws k pu ∧ pu.length ≤ 1000000 ∧ H l = some (.lst (xs.map V.int)) ∧ xs.length = 2000 ∧ x < 2000 ∧
  ∀ H', H' u = some (.lst ((pu ++ (rot xs x).take 8).map V.int)) → (∀ b o, H b = some o → b ≠ u → H' b = some o) → Q .non H'
theorem rot_len (xs : List Int) (x : Nat) : (rot xs x).length = 40 := by
  unfold rot
  rw [List.length_map, List.length_range]
theorem ok_Cards_punch_from (T : Txt K mg a d) : FnOk P w K mg base CX0 2 a.Cards_punch_from d.Cards_punch_from ["self", "drum", "address"] (sp_Cards_punch_from K a) := by
  refine T.F_Cards_punch_from.ok sc_Cards_punch_from (fun vs H Q E h => ?_) (fun cdv A outer s H vs Q E hr h => ?_)
  · obtain ⟨c, w, u, ws, k, pu, l, xs, x, rfl, C, hk, hl, hn, hx, q⟩ := h
    rfl
  · obtain ⟨c, w, u, ws, k, pu, l, xs, x, rfl, C, hk, hl, hn, hx, q⟩ := h
    refine ⟨_, (pss_one (ps_expr (pe_bm PySem.F.plainAttrs_list PySem.F.slot_list_extend PySem.F.type_list_extend mt_extend (pe_fld (pv 0) rfl) (pa_cons (pe_slice sl_list (pe_call (ok_band_from T) (hr.mono (by decide)) rfl T.G_band_from T.F_band_from.kp T.B_band_from .nil pass0 (pa_cons (pv 1) (pa_cons (pv 2) pa_nil))) po_none (po_some (pe_gi T.c_CARD_SIZE))) pa_nil)))), ?_⟩
    try dsimp only [cxOf]
    obtain ⟨dx, ob⟩ := C.ob
    have big : 10000000 < sizeLine := by decide
    walk_at "rd"
    refine r_fld ob T.cl_Cards T.n_Cards_punched lk_Cards_punched ?_
    walk_at "rd"
    refine r_tyL C.pn ?_
    walk_at "rd"
    refine ⟨l, xs, x, rfl, hl, hn, hx, fun H1 b hb hb1 s1 => ?_⟩
    walk_at "rd"
    refine r_slL (SqL.of hb1) (fun s hs => ?_)
    walk_at "rd"
    have f2 := s1.trans (Same.upd_new (o := .lst (((rot xs x).map V.int).take 8)) hs)
    rw [show (8 : Int) = ((8 : Nat) : Int) from rfl, cut_head (by rw [List.length_map, rot_len]; decide)]
    refine r_extend (f2 _ _ C.pn) upd_same (by rw [List.length_map, List.length_take]; omega) ?_
    walk_at "rd"
    refine q _ (by rw [upd_same, List.map_append, List.map_take]) ?_
    intro y o hy ne
    rw [upd_ne ne]
    exact f2 _ _ hy
end
/-- what an action makes of the machine, whose N is the order's n already; its ticks -/
abbrev acted (m : Drum.Machine) (o : Drum.Order) : Drum.Machine := actedC m o []
abbrev ticks (m : Drum.Machine) (o : Drum.Order) : Nat := ticksC m o []
def spAct (c : List Nat) (a : Ad) : Sp := fun vs H Q _ => ∃ (p l : Addr) (m : Drum.Machine) (o : Drum.Order), vs = [.ref p, .int (o.d : Int)] ∧ MachAt a H p m l ∧ WF m ∧ o.code ∈ c ∧ (Drum.addresses o.code = true → o.d < 2000) ∧ ((40 ≤ o.code ∧ o.code ≤ 42) → o.d ≤ 20) ∧
  ∀ H', MachAt a H' p (acted m o) l → Keep p l H H' → Q (.int (ticks m o : Int)) H'
theorem act_end {a : Ad} {H H' : Hp} {p l : Addr} {m m' : Drum.Machine} {o : Drum.Order} {Q : VK} {x : Int} (k : ∀ H', MachAt a H' p (acted m o) l → Keep p l H H' → Q (.int (ticks m o : Int)) H') (hm : acted m o = m') (hx : x = (ticks m o : Int)) (M : MachAt a H' p m' l) (Kp : Keep p l H H') : Q (.int x) H' := by
  subst hm
  rw [hx]
  exact k H' M Kp
theorem acted_did {m m' : Drum.Machine} {o : Drum.Order} {b : Nat} (h : Drum.does m o [] = Drum.did m' b) (hn : m'.next = m.next) : acted m o = m' := by
  unfold acted actedC
  rw [h, ← hn]
  rfl
theorem ticks_did {m m' : Drum.Machine} {o : Drum.Order} {b : Nat} (h : Drum.does m o [] = Drum.did m' b) (h6 : o.code ≠ 60) : ticks m o = b := by
  unfold ticks ticksC
  rw [h, if_neg h6]
  rfl
theorem did_end {a : Ad} {H H' : Hp} {p l : Addr} {m m' : Drum.Machine} {o : Drum.Order} {b : Nat} {Q : VK} {x : Int} (k : ∀ H', MachAt a H' p (acted m o) l → Keep p l H H' → Q (.int (ticks m o : Int)) H') (M : MachAt a H' p m' l) (Kp : Keep p l H H') (h : Drum.does m o [] = Drum.did m' b) (hn : m'.next = m.next) (h6 : o.code ≠ 60) (hx : x = (b : Int)) : Q (.int x) H' :=
  act_end k (acted_did h hn) (by rw [ticks_did h h6]; exact hx) M Kp
theorem code_one {c n : Nat} (h : c ∈ [n]) : c = n := by simpa using h
theorem count_fst (x : Int) : x * 10 ^ (Drum.count x).2 = (Drum.count x).1 := by
  unfold Drum.count
  by_cases h : x = 0
  · subst h; simp
  · simp only [if_neg h]
theorem bnd {v : Int} (h : Lg v) : v.natAbs < 2 ^ 100 := by
  unfold Lg at h
  omega
theorem bndW {v : Int} (h : Wd v) : v.natAbs < 2 ^ 100 := by
  unfold Wd at h
  omega
theorem bnd2 {v : Int} (h : v.natAbs < 2 ^ 100) : v.natAbs < 2 ^ 200 := by omega
theorem w20 {v : Int} (h : Wd v) : v.natAbs < 100000000000000000000 := by
  unfold Wd at h
  omega
theorem ds_small (v : Int) : ((Drum.digitSum v : Int)).natAbs < 2 ^ 200 := by
  have := dsum_le 20 v.natAbs
  rw [digitSum_eq]
  omega
theorem pow20 {k : Nat} (h : k ≤ 20) : (10 ^ k : Int).natAbs < 2 ^ 100 := by
  rw [Int.natAbs_pow]
  exact Nat.lt_of_le_of_lt (Nat.pow_le_pow_right (by decide) h) (by decide)
theorem pow_ne (k : Nat) : (10 ^ k : Int) ≠ 0 := by
  have : (0 : Int) < 10 ^ k := Int.pow_pos (by decide)
  omega
theorem pow_gt (k : Nat) : (0 : Int) < 10 ^ k := Int.pow_pos (by decide)
section
variable {P : Program} {w : World} {K : PySem.W.Frag} {mg : Str → Option Value} {base : Heap} {a : Ad} {d : Fds}
def sp_nothing_more (K : PySem.W.Frag) (a : Ad) : Sp := spAct [1, 18] a
theorem ok_nothing_more (T : Txt K mg a d) : FnOk P w K mg base CX0 1 a.nothing_more d.nothing_more ["machine", "address"] (sp_nothing_more K a) := by
  refine T.F_nothing_more.ok sc_nothing_more (fun vs H Q E h => ?_) (fun cdv A outer s H vs Q E hr h => ?_)
  · obtain ⟨p, l, m, o, rfl, M, W, hc, hd, hs, k⟩ := h
    rfl
  · obtain ⟨p, l, m, o, rfl, M, W, hc, hd, hs, k⟩ := h
    refine ⟨_, (pss_one (ps_ret pe_int)), ?_⟩
    try dsimp only [cxOf]
    walk_at "rd"
    have hc' : o.code = 1 ∨ o.code = 18 := by simpa using hc
    refine did_end k (m' := m) (b := 0) M (Keep.refl _ _ _) ?_ rfl (by omega) (by omega)
    rcases hc' with e | e <;> simp only [Drum.does, e]
def sp_load_a (K : PySem.W.Frag) (a : Ad) : Sp := spAct [10] a
theorem ok_load_a (T : Txt K mg a d) : FnOk P w K mg base CX0 1 a.load_a d.load_a ["machine", "address"] (sp_load_a K a) := by
  refine T.F_load_a.ok sc_load_a (fun vs H Q E h => ?_) (fun cdv A outer s H vs Q E hr h => ?_)
  · obtain ⟨p, l, m, o, rfl, M, W, hc, hd, hs, k⟩ := h
    rfl
  · obtain ⟨p, l, m, o, rfl, M, W, hc, hd, hs, k⟩ := h
    refine ⟨_, (pss_cons (ps_fld (pv 0) (pe_fld (pv 0) rfl) rfl)
      (pss_one (ps_ret pe_int))), ?_⟩
    try dsimp only [cxOf]
    have hc := code_one hc
    walk_at "rd"
    refine r_gD T M ?_
    walk_at "rd"
    refine r_sA T M m.d rfl (fun H1 M1 K1 => ?_)
    walk_at "rd"
    exact did_end k (b := 1) M1 K1 (by simp only [Drum.does, hc]) rfl (by omega) (by omega)
def sp_load_negated (K : PySem.W.Frag) (a : Ad) : Sp := spAct [11] a
theorem ok_load_negated (T : Txt K mg a d) : FnOk P w K mg base CX0 1 a.load_negated d.load_negated ["machine", "address"] (sp_load_negated K a) := by
  refine T.F_load_negated.ok sc_load_negated (fun vs H Q E h => ?_) (fun cdv A outer s H vs Q E hr h => ?_)
  · obtain ⟨p, l, m, o, rfl, M, W, hc, hd, hs, k⟩ := h
    rfl
  · obtain ⟨p, l, m, o, rfl, M, W, hc, hd, hs, k⟩ := h
    refine ⟨_, (pss_cons (ps_fld (pv 0) (pe_un un_neg (pe_fld (pv 0) rfl)) rfl)
      (pss_one (ps_ret pe_int))), ?_⟩
    try dsimp only [cxOf]
    have hc := code_one hc
    walk_at "rd"
    refine r_gD T M ?_
    walk_at "rd"
    refine r_sA T M (-m.d) rfl (fun H1 M1 K1 => ?_)
    walk_at "rd"
    exact did_end k (b := 1) M1 K1 (by simp only [Drum.does, hc]) rfl (by omega) (by omega)
def sp_add (K : PySem.W.Frag) (a : Ad) : Sp := spAct [12] a
theorem ok_add (T : Txt K mg a d) : FnOk P w K mg base CX0 4 a.add d.add ["machine", "address"] (sp_add K a) := by
  refine T.F_add.ok sc_add (fun vs H Q E h => ?_) (fun cdv A outer s H vs Q E hr h => ?_)
  · obtain ⟨p, l, m, o, rfl, M, W, hc, hd, hs, k⟩ := h
    rfl
  · obtain ⟨p, l, m, o, rfl, M, W, hc, hd, hs, k⟩ := h
    refine ⟨_, (pss_cons (ps_expr (pe_meth (pv 0) T.cl_Machine T.m_Machine_keep (ok_Machine_keep T) (hr.mono (by decide)) T.B_Machine_keep .nil pass0 (pa_cons (pe_op op_add (pe_fld (pv 0) rfl) (pe_fld (pv 0) rfl)) pa_nil)))
      (pss_one (ps_ret pe_int))), ?_⟩
    try dsimp only [cxOf]
    have hc := code_one hc
    obtain ⟨dx, ob⟩ := M.ob
    walk_at "rd"
    refine r_meth ob no_Machine_keep ?_
    walk_at "rd"
    refine r_gA T M ?_
    walk_at "rd"
    refine r_gD T M ?_
    walk_at "rd"
    refine ⟨p, l, m, _, rfl, M, fun H1 M1 K1 => ?_⟩
    walk_at "rd"
    refine did_end k (m' := Drum.sumTo m (Drum.fitted (m.a + m.d))) (b := 2) ?_ K1 ?_ rfl (by omega) (by omega)
    · first | exact M1 | (rw [abs_if] at M1; exact M1)
    · simp only [Drum.does, hc]
      rfl
def sp_subtract (K : PySem.W.Frag) (a : Ad) : Sp := spAct [13] a
theorem ok_subtract (T : Txt K mg a d) : FnOk P w K mg base CX0 4 a.subtract d.subtract ["machine", "address"] (sp_subtract K a) := by
  refine T.F_subtract.ok sc_subtract (fun vs H Q E h => ?_) (fun cdv A outer s H vs Q E hr h => ?_)
  · obtain ⟨p, l, m, o, rfl, M, W, hc, hd, hs, k⟩ := h
    rfl
  · obtain ⟨p, l, m, o, rfl, M, W, hc, hd, hs, k⟩ := h
    refine ⟨_, (pss_cons (ps_expr (pe_meth (pv 0) T.cl_Machine T.m_Machine_keep (ok_Machine_keep T) (hr.mono (by decide)) T.B_Machine_keep .nil pass0 (pa_cons (pe_op op_sub (pe_fld (pv 0) rfl) (pe_fld (pv 0) rfl)) pa_nil)))
      (pss_one (ps_ret pe_int))), ?_⟩
    try dsimp only [cxOf]
    have hc := code_one hc
    obtain ⟨dx, ob⟩ := M.ob
    walk_at "rd"
    refine r_meth ob no_Machine_keep ?_
    walk_at "rd"
    refine r_gA T M ?_
    walk_at "rd"
    refine r_gD T M ?_
    walk_at "rd"
    refine ⟨p, l, m, _, rfl, M, fun H1 M1 K1 => ?_⟩
    walk_at "rd"
    refine did_end k (m' := Drum.sumTo m (Drum.fitted (m.a + -m.d))) (b := 2) ?_ K1 ?_ rfl (by omega) (by omega)
    · first | exact M1 | (rw [abs_if] at M1; exact M1)
    · simp only [Drum.does, hc]
      rfl
def sp_add_unsigned (K : PySem.W.Frag) (a : Ad) : Sp := spAct [14] a
theorem ok_add_unsigned (T : Txt K mg a d) : FnOk P w K mg base CX0 4 a.add_unsigned d.add_unsigned ["machine", "address"] (sp_add_unsigned K a) := by
  refine T.F_add_unsigned.ok sc_add_unsigned (fun vs H Q E h => ?_) (fun cdv A outer s H vs Q E hr h => ?_)
  · obtain ⟨p, l, m, o, rfl, M, W, hc, hd, hs, k⟩ := h
    rfl
  · obtain ⟨p, l, m, o, rfl, M, W, hc, hd, hs, k⟩ := h
    refine ⟨_, (pss_cons (ps_expr (pe_meth (pv 0) T.cl_Machine T.m_Machine_keep (ok_Machine_keep T) (hr.mono (by decide)) T.B_Machine_keep .nil pass0 (pa_cons (pe_op op_add (pe_fld (pv 0) rfl) (pe_callB call_abs (by rfl) T.b_abs (by decide +kernel) (pa_cons (pe_fld (pv 0) rfl) pa_nil))) pa_nil)))
      (pss_one (ps_ret pe_int))), ?_⟩
    try dsimp only [cxOf]
    have hc := code_one hc
    obtain ⟨dx, ob⟩ := M.ob
    walk_at "rd"
    refine r_meth ob no_Machine_keep ?_
    walk_at "rd"
    refine r_gA T M ?_
    walk_at "rd"
    refine r_gD T M ?_
    walk_at "rd"
    refine ⟨p, l, m, _, rfl, M, fun H1 M1 K1 => ?_⟩
    walk_at "rd"
    refine did_end k (m' := Drum.sumTo m (Drum.fitted (m.a + (m.d.natAbs : Int)))) (b := 2) ?_ K1 ?_ rfl (by omega) (by omega)
    · first | exact M1 | (rw [abs_if] at M1; exact M1)
    · simp only [Drum.does, hc]
      rfl
def sp_subtract_unsigned (K : PySem.W.Frag) (a : Ad) : Sp := spAct [15] a
theorem ok_subtract_unsigned (T : Txt K mg a d) : FnOk P w K mg base CX0 4 a.subtract_unsigned d.subtract_unsigned ["machine", "address"] (sp_subtract_unsigned K a) := by
  refine T.F_subtract_unsigned.ok sc_subtract_unsigned (fun vs H Q E h => ?_) (fun cdv A outer s H vs Q E hr h => ?_)
  · obtain ⟨p, l, m, o, rfl, M, W, hc, hd, hs, k⟩ := h
    rfl
  · obtain ⟨p, l, m, o, rfl, M, W, hc, hd, hs, k⟩ := h
    refine ⟨_, (pss_cons (ps_expr (pe_meth (pv 0) T.cl_Machine T.m_Machine_keep (ok_Machine_keep T) (hr.mono (by decide)) T.B_Machine_keep .nil pass0 (pa_cons (pe_op op_sub (pe_fld (pv 0) rfl) (pe_callB call_abs (by rfl) T.b_abs (by decide +kernel) (pa_cons (pe_fld (pv 0) rfl) pa_nil))) pa_nil)))
      (pss_one (ps_ret pe_int))), ?_⟩
    try dsimp only [cxOf]
    have hc := code_one hc
    obtain ⟨dx, ob⟩ := M.ob
    walk_at "rd"
    refine r_meth ob no_Machine_keep ?_
    walk_at "rd"
    refine r_gA T M ?_
    walk_at "rd"
    refine r_gD T M ?_
    walk_at "rd"
    refine ⟨p, l, m, _, rfl, M, fun H1 M1 K1 => ?_⟩
    walk_at "rd"
    refine did_end k (m' := Drum.sumTo m (Drum.fitted (m.a + -(m.d.natAbs : Int)))) (b := 2) ?_ K1 ?_ rfl (by omega) (by omega)
    · first | exact M1 | (rw [abs_if] at M1; exact M1)
    · simp only [Drum.does, hc]
      rfl
def sp_add_upper (K : PySem.W.Frag) (a : Ad) : Sp := spAct [16] a
theorem ok_add_upper (T : Txt K mg a d) : FnOk P w K mg base CX0 4 a.add_upper d.add_upper ["machine", "address"] (sp_add_upper K a) := by
  refine T.F_add_upper.ok sc_add_upper (fun vs H Q E h => ?_) (fun cdv A outer s H vs Q E hr h => ?_)
  · obtain ⟨p, l, m, o, rfl, M, W, hc, hd, hs, k⟩ := h
    rfl
  · obtain ⟨p, l, m, o, rfl, M, W, hc, hd, hs, k⟩ := h
    refine ⟨_, (pss_cons (ps_expr (pe_meth (pv 0) T.cl_Machine T.m_Machine_keep (ok_Machine_keep T) (hr.mono (by decide)) T.B_Machine_keep .nil pass0 (pa_cons (pe_op op_add (pe_fld (pv 0) rfl) (pe_op op_mulB (pe_fld (pv 0) rfl) (pe_gi T.c_WORD_BASE))) pa_nil)))
      (pss_one (ps_ret pe_int))), ?_⟩
    try dsimp only [cxOf]
    have hc := code_one hc
    obtain ⟨dx, ob⟩ := M.ob
    walk_at "rd"
    refine r_meth ob no_Machine_keep ?_
    walk_at "rd"
    refine r_gA T M ?_
    walk_at "rd"
    refine r_gD T M ?_
    walk_at "rd"
    refine r_mul (bnd2 (bndW W.d)) (by decide) ?_
    walk_at "rd"
    refine ⟨p, l, m, _, rfl, M, fun H1 M1 K1 => ?_⟩
    walk_at "rd"
    refine did_end k (m' := Drum.sumTo m (Drum.fitted (m.a + m.d * (Drum.TEN : Int)))) (b := 2) ?_ K1 ?_ rfl (by omega) (by omega)
    · first | exact M1 | (rw [abs_if] at M1; exact M1)
    · simp only [Drum.does, hc]
      rfl
def sp_subtract_upper (K : PySem.W.Frag) (a : Ad) : Sp := spAct [17] a
theorem ok_subtract_upper (T : Txt K mg a d) : FnOk P w K mg base CX0 4 a.subtract_upper d.subtract_upper ["machine", "address"] (sp_subtract_upper K a) := by
  refine T.F_subtract_upper.ok sc_subtract_upper (fun vs H Q E h => ?_) (fun cdv A outer s H vs Q E hr h => ?_)
  · obtain ⟨p, l, m, o, rfl, M, W, hc, hd, hs, k⟩ := h
    rfl
  · obtain ⟨p, l, m, o, rfl, M, W, hc, hd, hs, k⟩ := h
    refine ⟨_, (pss_cons (ps_expr (pe_meth (pv 0) T.cl_Machine T.m_Machine_keep (ok_Machine_keep T) (hr.mono (by decide)) T.B_Machine_keep .nil pass0 (pa_cons (pe_op op_sub (pe_fld (pv 0) rfl) (pe_op op_mulB (pe_fld (pv 0) rfl) (pe_gi T.c_WORD_BASE))) pa_nil)))
      (pss_one (ps_ret pe_int))), ?_⟩
    try dsimp only [cxOf]
    have hc := code_one hc
    obtain ⟨dx, ob⟩ := M.ob
    walk_at "rd"
    refine r_meth ob no_Machine_keep ?_
    walk_at "rd"
    refine r_gA T M ?_
    walk_at "rd"
    refine r_gD T M ?_
    walk_at "rd"
    refine r_mul (bnd2 (bndW W.d)) (by decide) ?_
    walk_at "rd"
    refine ⟨p, l, m, _, rfl, M, fun H1 M1 K1 => ?_⟩
    walk_at "rd"
    refine did_end k (m' := Drum.sumTo m (Drum.fitted (m.a + -(m.d * (Drum.TEN : Int))))) (b := 2) ?_ K1 ?_ rfl (by omega) (by omega)
    · first | exact M1 | (rw [abs_if] at M1; exact M1)
    · simp only [Drum.does, hc]
      rfl
def sp_multiply (K : PySem.W.Frag) (a : Ad) : Sp := spAct [20] a
theorem ok_multiply (T : Txt K mg a d) : FnOk P w K mg base CX0 3 a.multiply d.multiply ["machine", "address"] (sp_multiply K a) := by
  refine T.F_multiply.ok sc_multiply (fun vs H Q E h => ?_) (fun cdv A outer s H vs Q E hr h => ?_)
  · obtain ⟨p, l, m, o, rfl, M, W, hc, hd, hs, k⟩ := h
    rfl
  · obtain ⟨p, l, m, o, rfl, M, W, hc, hd, hs, k⟩ := h
    refine ⟨_, (pss_cons (ps_fld (pv 0) (pe_op op_mulB (pe_call (ok_lower_word T) (hr.mono (by decide)) rfl T.G_lower_word T.F_lower_word.kp T.B_lower_word .nil pass0 (pa_cons (pe_fld (pv 0) rfl) pa_nil)) (pe_fld (pv 0) rfl)) rfl)
      (pss_one (ps_ret (pe_op op_add pe_int (pe_op op_mulB pe_int (pe_call (ok_digit_sum T) (hr.mono (by decide)) rfl T.G_digit_sum T.F_digit_sum.kp T.B_digit_sum .nil pass0 (pa_cons (pe_fld (pv 0) rfl) pa_nil))))))), ?_⟩
    try dsimp only [cxOf]
    have hc := code_one hc
    have h20 := w20 W.d
    walk_at "rd"
    refine r_gA T M ?_
    walk_at "rd"
    refine r_gD T M ?_
    walk_at "rd"
    refine r_mul (bnd2 (bndW (lower_wd _))) (bnd2 (bndW W.d)) ?_
    walk_at "rd"
    refine r_sA T M (Drum.times m.a m.d) rfl (fun H1 M1 K1 => ?_)
    walk_at "rd"
    refine r_gD T M1 ?_
    walk_at "rd"
    refine r_mul (by decide) (ds_small _) ?_
    walk_at "rd"
    exact did_end k (b := 4 + 2 * Drum.digitSum m.d) M1 K1 (by simp only [Drum.does, hc]) rfl (by omega) (by omega)
theorem by_over {x y : Int} (h : y = 0 ∨ y.natAbs * Drum.TEN ≤ x.natAbs) : (Drum.by_ x y).2.2 = true := by
  unfold Drum.by_
  rw [if_pos h]
theorem by_not {x y : Int} (h : y ≠ 0) (h2 : ¬ y.natAbs * Drum.TEN ≤ x.natAbs) : Drum.by_ x y = (x.tdiv y, x.tmod y, false) := by
  unfold Drum.by_
  rw [if_neg (fun z => z.elim h h2)]
def sp_divide (K : PySem.W.Frag) (a : Ad) : Sp := spAct [21] a
theorem ok_divide (T : Txt K mg a d) : FnOk P w K mg base CX0 3 a.divide d.divide ["machine", "address"] (sp_divide K a) := by
  refine T.F_divide.ok sc_divide (fun vs H Q E h => ?_) (fun cdv A outer s H vs Q E hr h => ?_)
  · obtain ⟨p, l, m, o, rfl, M, W, hc, hd, hs, k⟩ := h
    rfl
  · obtain ⟨p, l, m, o, rfl, M, W, hc, hd, hs, k⟩ := h
    refine ⟨_, (pss_cons (ps_if (PW.pt (pw_or (pt_cmpR op_eq (pe_fld (pv 0) rfl) pe_int (nomark _)) (pw_or1 (pt_cmpR op_ge (pe_callB call_abs (by rfl) T.b_abs (by decide +kernel) (pa_cons (pe_fld (pv 0) rfl) pa_nil)) (pe_op op_mulB (pe_callB call_abs (by rfl) T.b_abs (by decide +kernel) (pa_cons (pe_fld (pv 0) rfl) pa_nil)) (pe_gi T.c_WORD_BASE)) (nomark _)))))
        (pss_cons (ps_fld (pv 0) pe_int rfl)
        (pss_one (ps_ret pe_int)))
        pss_nil)
      (pss_cons (ps_set (i := 2) sc_divide.nd rfl (Or.inl rfl) (pe_call (ok_divided T) (hr.mono (by decide)) rfl T.G_divided T.F_divided.kp T.B_divided .nil pass0 (pa_cons (pe_fld (pv 0) rfl) (pa_cons (pe_fld (pv 0) rfl) pa_nil))))
      (pss_cons (ps_fld (pv 0) (pe_op op_sub (pe_fld (pv 0) rfl) (pe_op op_mulB (pv 2) (pe_fld (pv 0) rfl))) rfl)
      (pss_cons (ps_fld (pv 0) (pv 2) rfl)
      (pss_one (ps_ret (pe_op op_add pe_int (pe_op op_mulB pe_int (pe_call (ok_digit_sum T) (hr.mono (by decide)) rfl T.G_digit_sum T.F_digit_sum.kp T.B_digit_sum .nil pass0 (pa_cons (pv 2) pa_nil)))))))))), ?_⟩
    try dsimp only [cxOf]
    have hc := code_one hc
    have ha := bnd W.a
    have hD := bndW W.d
    walk_at "rd"
    refine r_gD T M ?_
    walk_at "rd"
    refine r_ite (fun c => ?_) (fun c => ?_)
    · have c' : m.d = 0 := by simpa using c
      walk_at "rd"
      refine r_ite (fun _ => ?_) (fun z => nomatch z)
      walk_at "rd"
      refine r_sOver T M true rfl (fun H1 M1 K1 => ?_)
      walk_at "rd"
      refine did_end k (m' := { m with over := true }) (b := 6) M1 K1 ?_ rfl (by omega) (by omega)
      simp only [Drum.does, hc]
      rw [if_pos (by rw [by_over (.inl c')])]
    · have c' : m.d ≠ 0 := by simpa using c
      walk_at "rd"
      refine r_gA T M ?_
      walk_at "rd"
      refine r_gD T M ?_
      walk_at "rd"
      refine r_mul (by split <;> omega) (by decide) ?_
      walk_at "rd"
      refine r_ite (fun z => ?_) (fun z => ?_)
      · have z' : m.d.natAbs * Drum.TEN ≤ m.a.natAbs := by
          have := of_decide_eq_true z
          rw [abs_if, abs_if] at this
          unfold Drum.TEN
          omega
        walk_at "rd"
        refine r_sOver T M true rfl (fun H1 M1 K1 => ?_)
        walk_at "rd"
        refine did_end k (m' := { m with over := true }) (b := 6) M1 K1 ?_ rfl (by omega) (by omega)
        simp only [Drum.does, hc]
        rw [if_pos (by rw [by_over (.inr z')])]
      · have z' : ¬ m.d.natAbs * Drum.TEN ≤ m.a.natAbs := by
          have := of_decide_eq_false z
          rw [abs_if, abs_if] at this
          unfold Drum.TEN
          omega
        have hb := by_not c' z'
        have hq := by_wf (a := m.a) (d := m.d) (by rw [hb]; exact Bool.false_ne_true) W.a W.d
        rw [hb] at hq
        have q1 : Wd (m.a.tdiv m.d) := hq.2.2
        have q2 := w20 q1
        walk_at "rd"
        refine r_gA T M ?_
        walk_at "rd"
        refine r_gD T M ?_
        walk_at "rd"
        refine r_gA T M ?_
        walk_at "rd"
        refine r_gD T M ?_
        walk_at "rd"
        refine r_mul (bnd2 (bndW q1)) (bnd2 hD) ?_
        walk_at "rd"
        refine r_sD T M (m.a.tmod m.d) (by rw [Int.tmod_def, Int.mul_comm]) (fun H1 M1 K1 => ?_)
        walk_at "rd"
        refine r_sA T M1 (m.a.tdiv m.d) rfl (fun H2 M2 K2 => ?_)
        walk_at "rd"
        refine r_mul (by decide) (ds_small _) ?_
        walk_at "rd"
        refine did_end k (m' := { m with d := m.a.tmod m.d, a := m.a.tdiv m.d }) (b := 6 + 2 * Drum.digitSum (m.a.tdiv m.d)) M2 (K1.trans K2) ?_ rfl (by omega) (by omega)
        simp only [Drum.does, hc]
        rw [hb]
        rfl
def sp_store_lower (K : PySem.W.Frag) (a : Ad) : Sp := spAct [30] a
theorem ok_store_lower (T : Txt K mg a d) : FnOk P w K mg base CX0 3 a.store_lower d.store_lower ["machine", "address"] (sp_store_lower K a) := by
  refine T.F_store_lower.ok sc_store_lower (fun vs H Q E h => ?_) (fun cdv A outer s H vs Q E hr h => ?_)
  · obtain ⟨p, l, m, o, rfl, M, W, hc, hd, hs, k⟩ := h
    rfl
  · obtain ⟨p, l, m, o, rfl, M, W, hc, hd, hs, k⟩ := h
    refine ⟨_, (pss_cons (ps_asg (pe_call (ok_lower_word T) (hr.mono (by decide)) rfl T.G_lower_word T.F_lower_word.kp T.B_lower_word .nil pass0 (pa_cons (pe_fld (pv 0) rfl) pa_nil)) (pg_sub (pe_fld (pv 0) rfl) (pv 1) set_list))
      (pss_one (ps_ret pe_int))), ?_⟩
    try dsimp only [cxOf]
    have hc := code_one hc
    have hdl : o.d < m.drum.length := by
      rw [W.len]
      exact hd (by rw [hc]; rfl)
    have hL := bnd W.a
    walk_at "rd"
    refine r_gA T M ?_
    walk_at "rd"
    refine r_gDrum T M ?_
    walk_at "rd"
    refine r_put M hdl (fun H1 M1 K1 => ?_)
    walk_at "rd"
    exact did_end k (b := 0) M1 K1 (by simp only [Drum.does, hc]) rfl (by omega) (by omega)
def sp_store_upper (K : PySem.W.Frag) (a : Ad) : Sp := spAct [31] a
theorem ok_store_upper (T : Txt K mg a d) : FnOk P w K mg base CX0 4 a.store_upper d.store_upper ["machine", "address"] (sp_store_upper K a) := by
  refine T.F_store_upper.ok sc_store_upper (fun vs H Q E h => ?_) (fun cdv A outer s H vs Q E hr h => ?_)
  · obtain ⟨p, l, m, o, rfl, M, W, hc, hd, hs, k⟩ := h
    rfl
  · obtain ⟨p, l, m, o, rfl, M, W, hc, hd, hs, k⟩ := h
    refine ⟨_, (pss_cons (ps_asg (pe_call (ok_upper_word T) (hr.mono (by decide)) rfl T.G_upper_word T.F_upper_word.kp T.B_upper_word .nil pass0 (pa_cons (pe_fld (pv 0) rfl) pa_nil)) (pg_sub (pe_fld (pv 0) rfl) (pv 1) set_list))
      (pss_one (ps_ret pe_int))), ?_⟩
    try dsimp only [cxOf]
    have hc := code_one hc
    have hdl : o.d < m.drum.length := by
      rw [W.len]
      exact hd (by rw [hc]; rfl)
    have hL := bnd W.a
    walk_at "rd"
    refine r_gA T M ?_
    walk_at "rd"
    refine r_gDrum T M ?_
    walk_at "rd"
    refine r_put M hdl (fun H1 M1 K1 => ?_)
    walk_at "rd"
    exact did_end k (b := 0) M1 K1 (by simp only [Drum.does, hc]) rfl (by omega) (by omega)
def sp_store_d (K : PySem.W.Frag) (a : Ad) : Sp := spAct [32] a
theorem ok_store_d (T : Txt K mg a d) : FnOk P w K mg base CX0 1 a.store_d d.store_d ["machine", "address"] (sp_store_d K a) := by
  refine T.F_store_d.ok sc_store_d (fun vs H Q E h => ?_) (fun cdv A outer s H vs Q E hr h => ?_)
  · obtain ⟨p, l, m, o, rfl, M, W, hc, hd, hs, k⟩ := h
    rfl
  · obtain ⟨p, l, m, o, rfl, M, W, hc, hd, hs, k⟩ := h
    refine ⟨_, (pss_cons (ps_asg (pe_fld (pv 0) rfl) (pg_sub (pe_fld (pv 0) rfl) (pv 1) set_list))
      (pss_one (ps_ret pe_int))), ?_⟩
    try dsimp only [cxOf]
    have hc := code_one hc
    have hdl : o.d < m.drum.length := by
      rw [W.len]
      exact hd (by rw [hc]; rfl)
    have hL := bnd W.a
    walk_at "rd"
    refine r_gD T M ?_
    walk_at "rd"
    refine r_gDrum T M ?_
    walk_at "rd"
    refine r_put M hdl (fun H1 M1 K1 => ?_)
    walk_at "rd"
    exact did_end k (b := 0) M1 K1 (by simp only [Drum.does, hc]) rfl (by omega) (by omega)
def sp_shift_left (K : PySem.W.Frag) (a : Ad) : Sp := spAct [40] a
theorem ok_shift_left (T : Txt K mg a d) : FnOk P w K mg base CX0 4 a.shift_left d.shift_left ["machine", "address"] (sp_shift_left K a) := by
  refine T.F_shift_left.ok sc_shift_left (fun vs H Q E h => ?_) (fun cdv A outer s H vs Q E hr h => ?_)
  · obtain ⟨p, l, m, o, rfl, M, W, hc, hd, hs, k⟩ := h
    rfl
  · obtain ⟨p, l, m, o, rfl, M, W, hc, hd, hs, k⟩ := h
    refine ⟨_, (pss_cons (ps_expr (pe_meth (pv 0) T.cl_Machine T.m_Machine_keep (ok_Machine_keep T) (hr.mono (by decide)) T.B_Machine_keep .nil pass0 (pa_cons (pe_op op_mulB (pe_fld (pv 0) rfl) (pe_call (ok_power_of_ten T) (hr.mono (by decide)) rfl T.G_power_of_ten T.F_power_of_ten.kp T.B_power_of_ten .nil pass0 (pa_cons (pv 1) pa_nil))) pa_nil)))
      (pss_one (ps_ret (pe_op op_add pe_int (pv 1))))), ?_⟩
    try dsimp only [cxOf]
    have hc := code_one hc
    have h20 : o.d ≤ 20 := hs (by omega)
    have h40 : o.d ≤ 40 := by omega
    have p1 := pow20 h20
    have p2 := pow_ne o.d
    have p3 := pow_gt o.d
    have ha := bnd W.a
    obtain ⟨dx, ob⟩ := M.ob
    walk_at "rd"
    refine r_meth ob no_Machine_keep ?_
    walk_at "rd"
    refine r_gA T M ?_
    walk_at "rd"
    refine r_mul (bnd2 ha) (bnd2 p1) ?_
    walk_at "rd"
    refine ⟨p, l, m, _, rfl, M, fun H1 M1 K1 => ?_⟩
    walk_at "rd"
    refine did_end k (m' := Drum.sumTo m (Drum.left m.a o.d)) (b := 2 + o.d) M1 K1 ?_ rfl (by omega) (by omega)
    simp only [Drum.does, hc]
def sp_shift_right (K : PySem.W.Frag) (a : Ad) : Sp := spAct [41] a
theorem ok_shift_right (T : Txt K mg a d) : FnOk P w K mg base CX0 3 a.shift_right d.shift_right ["machine", "address"] (sp_shift_right K a) := by
  refine T.F_shift_right.ok sc_shift_right (fun vs H Q E h => ?_) (fun cdv A outer s H vs Q E hr h => ?_)
  · obtain ⟨p, l, m, o, rfl, M, W, hc, hd, hs, k⟩ := h
    rfl
  · obtain ⟨p, l, m, o, rfl, M, W, hc, hd, hs, k⟩ := h
    refine ⟨_, (pss_cons (ps_fld (pv 0) (pe_call (ok_divided T) (hr.mono (by decide)) rfl T.G_divided T.F_divided.kp T.B_divided .nil pass0 (pa_cons (pe_fld (pv 0) rfl) (pa_cons (pe_call (ok_power_of_ten T) (hr.mono (by decide)) rfl T.G_power_of_ten T.F_power_of_ten.kp T.B_power_of_ten .nil pass0 (pa_cons (pv 1) pa_nil)) pa_nil))) rfl)
      (pss_one (ps_ret (pe_op op_add pe_int (pv 1))))), ?_⟩
    try dsimp only [cxOf]
    have hc := code_one hc
    have h20 : o.d ≤ 20 := hs (by omega)
    have h40 : o.d ≤ 40 := by omega
    have p1 := pow20 h20
    have p2 := pow_ne o.d
    have p3 := pow_gt o.d
    have ha := bnd W.a
    walk_at "rd"
    refine r_gA T M ?_
    walk_at "rd"
    refine r_sA T M (Drum.right m.a o.d) (tdiv_pow _ _).symm (fun H1 M1 K1 => ?_)
    walk_at "rd"
    exact did_end k (b := 2 + o.d) M1 K1 (by simp only [Drum.does, hc]) rfl (by omega) (by omega)
def sp_shift_right_rounded (K : PySem.W.Frag) (a : Ad) : Sp := spAct [42] a
theorem ok_shift_right_rounded (T : Txt K mg a d) : FnOk P w K mg base CX0 3 a.shift_right_rounded d.shift_right_rounded ["machine", "address"] (sp_shift_right_rounded K a) := by
  refine T.F_shift_right_rounded.ok sc_shift_right_rounded (fun vs H Q E h => ?_) (fun cdv A outer s H vs Q E hr h => ?_)
  · obtain ⟨p, l, m, o, rfl, M, W, hc, hd, hs, k⟩ := h
    rfl
  · obtain ⟨p, l, m, o, rfl, M, W, hc, hd, hs, k⟩ := h
    refine ⟨_, (pss_cons (ps_fld (pv 0) (pe_call (ok_divided_rounded T) (hr.mono (by decide)) rfl T.G_divided_rounded T.F_divided_rounded.kp T.B_divided_rounded .nil pass0 (pa_cons (pe_fld (pv 0) rfl) (pa_cons (pe_call (ok_power_of_ten T) (hr.mono (by decide)) rfl T.G_power_of_ten T.F_power_of_ten.kp T.B_power_of_ten .nil pass0 (pa_cons (pv 1) pa_nil)) pa_nil))) rfl)
      (pss_one (ps_ret (pe_op op_add pe_int (pv 1))))), ?_⟩
    try dsimp only [cxOf]
    have hc := code_one hc
    have h20 : o.d ≤ 20 := hs (by omega)
    have h40 : o.d ≤ 40 := by omega
    have p1 := pow20 h20
    have p2 := pow_ne o.d
    have p3 := pow_gt o.d
    have ha := bnd W.a
    walk_at "rd"
    refine r_gA T M ?_
    walk_at "rd"
    refine r_sA T M (Drum.round m.a o.d) (sgn_round _ _).symm (fun H1 M1 K1 => ?_)
    walk_at "rd"
    exact did_end k (b := 2 + o.d) M1 K1 (by simp only [Drum.does, hc]) rfl (by omega) (by omega)
def sp_shift_and_count (K : PySem.W.Frag) (a : Ad) : Sp := spAct [43] a
theorem ok_shift_and_count (T : Txt K mg a d) : FnOk P w K mg base CX0 3 a.shift_and_count d.shift_and_count ["machine", "address"] (sp_shift_and_count K a) := by
  refine T.F_shift_and_count.ok sc_shift_and_count (fun vs H Q E h => ?_) (fun cdv A outer s H vs Q E hr h => ?_)
  · obtain ⟨p, l, m, o, rfl, M, W, hc, hd, hs, k⟩ := h
    rfl
  · obtain ⟨p, l, m, o, rfl, M, W, hc, hd, hs, k⟩ := h
    refine ⟨_, (pss_cons (ps_fld (pv 0) (pe_call (ok_tens_that_fit T) (hr.mono (by decide)) rfl T.G_tens_that_fit T.F_tens_that_fit.kp T.B_tens_that_fit .nil pass0 (pa_cons (pe_fld (pv 0) rfl) pa_nil)) rfl)
      (pss_cons (ps_fld (pv 0) (pe_op op_mulB (pe_fld (pv 0) rfl) (pe_call (ok_power_of_ten T) (hr.mono (by decide)) rfl T.G_power_of_ten T.F_power_of_ten.kp T.B_power_of_ten .nil pass0 (pa_cons (pe_fld (pv 0) rfl) pa_nil))) rfl)
      (pss_one (ps_ret (pe_op op_add pe_int (pe_fld (pv 0) rfl)))))), ?_⟩
    try dsimp only [cxOf]
    have hc := code_one hc
    have hL := W.a
    have c20 := (count_lg W.a).2
    have h40 : (Drum.count m.a).2 ≤ 40 := by omega
    walk_at "rd"
    refine r_gA T M ?_
    walk_at "rd"
    refine r_sD T M ((Drum.count m.a).2 : Int) rfl (fun H1 M1 K1 => ?_)
    walk_at "rd"
    refine r_gA T M1 ?_
    walk_at "rd"
    refine r_gD T M1 ?_
    walk_at "rd"
    refine r_mul (bnd2 (bnd hL)) (bnd2 (pow20 c20)) ?_
    walk_at "rd"
    refine r_sA T M1 (Drum.count m.a).1 (count_fst _).symm (fun H2 M2 K2 => ?_)
    walk_at "rd"
    refine r_gD T M2 ?_
    walk_at "rd"
    exact did_end k (b := 2 + (Drum.count m.a).2) M2 (K1.trans K2) (by simp only [Drum.does, hc]) rfl (by omega) (by omega)
def sp_branch_below_zero (K : PySem.W.Frag) (a : Ad) : Sp := spAct [50] a
theorem ok_branch_below_zero (T : Txt K mg a d) : FnOk P w K mg base CX0 1 a.branch_below_zero d.branch_below_zero ["machine", "address"] (sp_branch_below_zero K a) := by
  refine T.F_branch_below_zero.ok sc_branch_below_zero (fun vs H Q E h => ?_) (fun cdv A outer s H vs Q E hr h => ?_)
  · obtain ⟨p, l, m, o, rfl, M, W, hc, hd, hs, k⟩ := h
    rfl
  · obtain ⟨p, l, m, o, rfl, M, W, hc, hd, hs, k⟩ := h
    refine ⟨_, (pss_cons (ps_if (pt_cmpR op_lt (pe_fld (pv 0) rfl) pe_int (nomark _))
        (pss_one (ps_fld (pv 0) (pv 1) rfl))
        pss_nil)
      (pss_one (ps_ret pe_int))), ?_⟩
    try dsimp only [cxOf]
    have hc := code_one hc
    walk_at "rd"
    refine r_gA T M ?_
    walk_at "rd"
    refine r_ite (fun z => ?_) (fun z => ?_)
    · have z' : m.a < 0 := by simpa using z
      walk_at "rd"
      refine r_sN T M o.d rfl (fun H1 M1 K1 => ?_)
      walk_at "rd"
      refine act_end k (m' := { m with next := o.d }) ?_ ?_ M1 K1
      · simp only [acted, actedC, Drum.does, hc]
        rw [if_pos (decide_eq_true z')]
      · simp only [ticks, ticksC, Drum.does, hc]
        rfl
    · have z' : ¬ (m.a < 0) := by simpa using z
      walk_at "rd"
      refine act_end k (m' := m) ?_ ?_ M (Keep.refl _ _ _)
      · simp only [acted, actedC, Drum.does, hc]
        rw [if_neg (fun q => z' (of_decide_eq_true q))]
      · simp only [ticks, ticksC, Drum.does, hc]
        rfl
def sp_branch_not_zero (K : PySem.W.Frag) (a : Ad) : Sp := spAct [51] a
theorem ok_branch_not_zero (T : Txt K mg a d) : FnOk P w K mg base CX0 1 a.branch_not_zero d.branch_not_zero ["machine", "address"] (sp_branch_not_zero K a) := by
  refine T.F_branch_not_zero.ok sc_branch_not_zero (fun vs H Q E h => ?_) (fun cdv A outer s H vs Q E hr h => ?_)
  · obtain ⟨p, l, m, o, rfl, M, W, hc, hd, hs, k⟩ := h
    rfl
  · obtain ⟨p, l, m, o, rfl, M, W, hc, hd, hs, k⟩ := h
    refine ⟨_, (pss_cons (ps_if (pt_cmpR op_ne (pe_fld (pv 0) rfl) pe_int (nomark _))
        (pss_one (ps_fld (pv 0) (pv 1) rfl))
        pss_nil)
      (pss_one (ps_ret pe_int))), ?_⟩
    try dsimp only [cxOf]
    have hc := code_one hc
    walk_at "rd"
    refine r_gA T M ?_
    walk_at "rd"
    refine r_ite (fun z => ?_) (fun z => ?_)
    · have z' : m.a ≠ 0 := by simpa using z
      walk_at "rd"
      refine r_sN T M o.d rfl (fun H1 M1 K1 => ?_)
      walk_at "rd"
      refine act_end k (m' := { m with next := o.d }) ?_ ?_ M1 K1
      · simp only [acted, actedC, Drum.does, hc]
        rw [if_pos (decide_eq_true z')]
      · simp only [ticks, ticksC, Drum.does, hc]
        rfl
    · have z' : ¬ (m.a ≠ 0) := by simpa using z
      walk_at "rd"
      refine act_end k (m' := m) ?_ ?_ M (Keep.refl _ _ _)
      · simp only [acted, actedC, Drum.does, hc]
        rw [if_neg (fun q => z' (of_decide_eq_true q))]
      · simp only [ticks, ticksC, Drum.does, hc]
        rfl
def sp_branch_over (K : PySem.W.Frag) (a : Ad) : Sp := spAct [52] a
theorem ok_branch_over (T : Txt K mg a d) : FnOk P w K mg base CX0 1 a.branch_over d.branch_over ["machine", "address"] (sp_branch_over K a) := by
  refine T.F_branch_over.ok sc_branch_over (fun vs H Q E h => ?_) (fun cdv A outer s H vs Q E hr h => ?_)
  · obtain ⟨p, l, m, o, rfl, M, W, hc, hd, hs, k⟩ := h
    rfl
  · obtain ⟨p, l, m, o, rfl, M, W, hc, hd, hs, k⟩ := h
    refine ⟨_, (pss_cons (ps_if (pt_cmpR op_eq (pe_fld (pv 0) rfl) pe_int (nomark _))
        (pss_cons (ps_fld (pv 0) pe_int rfl)
        (pss_one (ps_fld (pv 0) (pv 1) rfl)))
        pss_nil)
      (pss_one (ps_ret pe_int))), ?_⟩
    try dsimp only [cxOf]
    have hc := code_one hc
    walk_at "rd"
    refine r_gOver T M ?_
    walk_at "rd"
    refine r_ite (fun z => ?_) (fun z => ?_)
    · have z' : m.over = true := by
        cases e : m.over with
        | true => rfl
        | false => rw [e] at z; cases z
      walk_at "rd"
      refine r_sOver T M false rfl (fun H1 M1 K1 => ?_)
      walk_at "rd"
      refine r_sN T M1 o.d rfl (fun H2 M2 K2 => ?_)
      walk_at "rd"
      refine act_end k (m' := { m with over := false, next := o.d }) ?_ ?_ M2 (K1.trans K2)
      · simp only [acted, actedC, Drum.does, hc]
        rw [if_pos z']
      · simp only [ticks, ticksC, Drum.does, hc]
        rfl
    · have z' : m.over = false := by
        cases e : m.over with
        | false => rfl
        | true => rw [e] at z; cases z
      walk_at "rd"
      refine act_end k (m' := m) ?_ ?_ M (Keep.refl _ _ _)
      · simp only [acted, actedC, Drum.does, hc]
        rw [z']
        cases m
        cases z'
        rfl
      · simp only [ticks, ticksC, Drum.does, hc]
        rfl
def sp_look_up (K : PySem.W.Frag) (a : Ad) : Sp := spAct [60] a
theorem ok_look_up (T : Txt K mg a d) : FnOk P w K mg base CX0 2 a.look_up d.look_up ["machine", "address"] (sp_look_up K a) := by
  refine T.F_look_up.ok sc_look_up (fun vs H Q E h => ?_) (fun cdv A outer s H vs Q E hr h => ?_)
  · obtain ⟨p, l, m, o, rfl, M, W, hc, hd, hs, k⟩ := h
    rfl
  · obtain ⟨p, l, m, o, rfl, M, W, hc, hd, hs, k⟩ := h
    refine ⟨_, (pss_cons (ps_for PassesOwn.never rfl (pi_enum rfl T.b_enumerate (pa_cons (pe_call (ok_band_from T) (hr.mono (by decide)) rfl T.G_band_from T.F_band_from.kp T.B_band_from .nil pass0 (pa_cons (pe_fld (pv 0) rfl) (pa_cons (pv 1) pa_nil))) pa_nil)) (pg_tup rfl (pgs_cons (pg_name (i := 2) sc_look_up.nd rfl (Or.inl rfl)) (pgs_cons (pg_name (i := 3) sc_look_up.nd rfl (Or.inl rfl)) pgs_nil)))
        (pss_one (ps_if (pt_cmpR op_ge (pv 3) (pe_fld (pv 0) rfl) (nomark _))
          (pss_cons (ps_fld (pv 0) (pv 2) rfl)
          (pss_one (ps_ret (pe_op op_add (pv 2) pe_int))))
          pss_nil)))
      (pss_cons (ps_fld (pv 0) pe_int rfl)
      (pss_one (ps_ret (pe_op op_add (pe_gi T.c_PASSED_WHERE_NONE) pe_int))))), ?_⟩
    try dsimp only [cxOf]
    have hc := code_one hc
    have hdl : o.d < 2000 := hd (by rw [hc]; rfl)
    walk_at "rd"
    refine r_gDrum T M ?_
    walk_at "rd"
    refine ⟨l, m.drum, o.d, rfl, M.dr, W.len, hdl, fun H1 q hq hq1 s1 => ?_⟩
    walk_at "rd"
    refine r_enum (SqL.of hq1) ?_
    refine for_enumN (xs := (rot m.drum o.d).map V.int) (fun i σ H' => ∃ v1 v2, σ = [some (.ref p), some (.int (o.d : Int)), v1, v2] ∧ Same H1 H' ∧ ∀ j < i, ¬ m.d ≤ m.at_ (Drum.around o.d j)) ⟨_, _, rfl, Same.refl _, fun j hj => absurd hj (Nat.not_lt_zero _)⟩ ?_ ?_ ?_
    · rintro i σ H' hi ⟨v1, v2, rfl, h1, h2⟩
      exact SqL.of (h1 _ _ hq1)
    · rintro i y σ H2 H3 hi ⟨v1, v2, rfl, h1, h2⟩ h3
      have i40 : i < 40 := by
        have := (List.getElem?_eq_some_iff.mp hi).1
        rw [List.length_map, rot_len] at this
        exact this
      have ey : y = .int (m.at_ (Drum.around o.d i)) := by
        rw [List.getElem?_map] at hi
        unfold rot at hi
        rw [List.getElem?_map, List.getElem?_range i40] at hi
        cases hi
        rfl
      subst ey
      have s3 := s1.trans (h1.trans h3)
      have M3 := M.same s3
      walk_at "rd"
      refine r_gD T M3 ?_
      walk_at "rd"
      refine r_ite (fun z => ?_) (fun z => ?_)
      · have z' : m.d ≤ m.at_ (Drum.around o.d i) := by simpa using z
        have ef : Drum.lookUp m o.d m.d = some i := by
          unfold Drum.lookUp Drum.PLACES
          rw [List.find?_range_eq_some]
          exact ⟨by simpa using z', List.mem_range.mpr i40, fun j hj => by simpa using h2 j hj⟩
        walk_at "rd"
        refine r_sA T M3 (i : Int) rfl (fun H4 M4 K4 => ?_)
        walk_at "rd"
        refine act_end k (m' := { m with a := (i : Int) }) ?_ ?_ M4 ((Keep.same s3).trans K4)
        · simp only [acted, actedC, Drum.does, hc, ef]
          rfl
        · simp only [ticks, ticksC, Drum.does, hc, ef]
          show _ = ((1 + i : Nat) : Int)
          omega
      · have z' : ¬ m.d ≤ m.at_ (Drum.around o.d i) := by simpa using z
        walk_at "rd"
        refine ⟨_, _, rfl, h1.trans h3, fun j hj => ?_⟩
        by_cases e : j = i
        · rw [e]; exact z'
        · exact h2 j (by omega)
    · rintro σ H2 ⟨v1, v2, rfl, h1, h2⟩
      rw [List.length_map, rot_len] at h2
      have ef : Drum.lookUp m o.d m.d = none := by
        unfold Drum.lookUp Drum.PLACES
        rw [List.find?_range_eq_none]
        exact fun j hj => by simpa using h2 j hj
      have s3 := s1.trans h1
      have M3 := M.same s3
      walk_at "rd"
      refine r_sOver T M3 true rfl (fun H4 M4 K4 => ?_)
      walk_at "rd"
      refine act_end k (m' := { m with over := true }) ?_ ?_ M4 ((Keep.same s3).trans K4)
      · simp only [acted, actedC, Drum.does, hc, ef]
        rfl
      · simp only [ticks, ticksC, Drum.does, hc, ef]
        rfl
end
/-- the machine, and the cards of a run beside it -/
structure Wld (a : Ad) (H : Hp) (p l : Addr) (m : Drum.Machine) (c w u : Addr) (ws : List Int) (k : Nat) (pu : List Int) : Prop where
  ma : MachAt a H p m l
  ca : CardsAt a H c w u ws k pu
  npc : p ≠ c
  nlw : l ≠ w
  nlu : l ≠ u
  nwu : w ≠ u
/-- all but these is as it was -/
def Fr4 (p l c u : Addr) (H H' : Hp) : Prop := ∀ b o, H b = some o → b ≠ p → b ≠ l → b ≠ c → b ≠ u → H' b = some o
theorem Fr4.trans {p l c u : Addr} {H H1 H2 : Hp} (x : Fr4 p l c u H H1) (y : Fr4 p l c u H1 H2) : Fr4 p l c u H H2 := fun b o h n1 n2 n3 n4 => y b o (x b o h n1 n2 n3 n4) n1 n2 n3 n4
theorem Fr4.refl (p l c u : Addr) (H : Hp) : Fr4 p l c u H H := fun _ _ h _ _ _ _ => h
theorem Keep.fr4 {p l : Addr} {H H' : Hp} (x : Keep p l H H') (c u : Addr) : Fr4 p l c u H H' := fun b o h n1 n2 _ _ => x b o h n1 n2
theorem Wld.keep {a : Ad} {H H' : Hp} {p l : Addr} {m m' : Drum.Machine} {c w u : Addr} {ws : List Int} {k : Nat} {pu : List Int} (x : Wld a H p l m c w u ws k pu) (M : MachAt a H' p m' l) (y : Keep p l H H') : Wld a H' p l m' c w u ws k pu := by
  obtain ⟨⟨dx, ob⟩, wo, pn⟩ := x.ca
  obtain ⟨⟨dy, op⟩, dr⟩ := id x.ma
  refine ⟨M, ⟨⟨dx, y _ _ ob x.npc.symm (ne_of ob dr (by intro z; cases z))⟩, y _ _ wo (ne_of wo op (by intro z; cases z)) x.nlw.symm, y _ _ pn (ne_of pn op (by intro z; cases z)) x.nlu.symm⟩, x.npc, x.nlw, x.nlu, x.nwu⟩
theorem at_nat {l : List Int} {i : Nat} (h : i < l.length) : atI (l.map V.int) (i : Int) = some (V.int (l.getD i 0)) := by
  refine atI_nat ?_
  rw [List.getElem?_map, List.getElem?_eq_getElem h, List.getD_eq_getElem?_getD, List.getElem?_eq_getElem h]
  rfl
theorem spAct_mono {c c' : List Nat} (h : ∀ x ∈ c', x ∈ c) {a : Ad} {vs : List V} {H : Hp} {Q : VK} {E : XK} (z : spAct c' a vs H Q E) : spAct c a vs H Q E := by
  obtain ⟨p, l, m, o, e, M, W, hc, r⟩ := z
  exact ⟨p, l, m, o, e, M, W, h _ hc, r⟩
theorem fn_acts {P : Program} {w : World} {K : PySem.W.Frag} {mg : Str → Option Value} {base : Heap} {a : Ad} {d : Fds} (T : Txt K mg a d) {c : Nat} (h : c ∈ actCodes) :
    ∃ (f : Addr) (fd : FuncData), valV (kv_ACTIONS a) (Sum.inl (c : Int)) = some (.ref f) ∧ FnOk P w K mg base CX0 4 f fd ["machine", "address"] (spAct [c] a) ∧ PySem.W.keepIn K (.ref f) = true ∧ Binds K fd ["machine", "address"] [] := by
  unfold actCodes at h
  simp only [List.mem_cons, List.not_mem_nil, or_false] at h
  rcases h with rfl | rfl | rfl | rfl | rfl | rfl | rfl | rfl | rfl | rfl | rfl | rfl | rfl | rfl | rfl | rfl | rfl | rfl | rfl | rfl | rfl | rfl | rfl
  · exact ⟨_, _, rfl, ((ok_nothing_more T).imp fun vs H Q E h => spAct_mono (by decide) h).mono (by decide), T.F_nothing_more.kp, T.B_nothing_more⟩
  · exact ⟨_, _, rfl, (ok_load_a T).mono (by decide), T.F_load_a.kp, T.B_load_a⟩
  · exact ⟨_, _, rfl, (ok_load_negated T).mono (by decide), T.F_load_negated.kp, T.B_load_negated⟩
  · exact ⟨_, _, rfl, (ok_add T).mono (by decide), T.F_add.kp, T.B_add⟩
  · exact ⟨_, _, rfl, (ok_subtract T).mono (by decide), T.F_subtract.kp, T.B_subtract⟩
  · exact ⟨_, _, rfl, (ok_add_unsigned T).mono (by decide), T.F_add_unsigned.kp, T.B_add_unsigned⟩
  · exact ⟨_, _, rfl, (ok_subtract_unsigned T).mono (by decide), T.F_subtract_unsigned.kp, T.B_subtract_unsigned⟩
  · exact ⟨_, _, rfl, (ok_add_upper T).mono (by decide), T.F_add_upper.kp, T.B_add_upper⟩
  · exact ⟨_, _, rfl, (ok_subtract_upper T).mono (by decide), T.F_subtract_upper.kp, T.B_subtract_upper⟩
  · exact ⟨_, _, rfl, ((ok_nothing_more T).imp fun vs H Q E h => spAct_mono (by decide) h).mono (by decide), T.F_nothing_more.kp, T.B_nothing_more⟩
  · exact ⟨_, _, rfl, (ok_multiply T).mono (by decide), T.F_multiply.kp, T.B_multiply⟩
  · exact ⟨_, _, rfl, (ok_divide T).mono (by decide), T.F_divide.kp, T.B_divide⟩
  · exact ⟨_, _, rfl, (ok_store_lower T).mono (by decide), T.F_store_lower.kp, T.B_store_lower⟩
  · exact ⟨_, _, rfl, (ok_store_upper T).mono (by decide), T.F_store_upper.kp, T.B_store_upper⟩
  · exact ⟨_, _, rfl, (ok_store_d T).mono (by decide), T.F_store_d.kp, T.B_store_d⟩
  · exact ⟨_, _, rfl, (ok_shift_left T).mono (by decide), T.F_shift_left.kp, T.B_shift_left⟩
  · exact ⟨_, _, rfl, (ok_shift_right T).mono (by decide), T.F_shift_right.kp, T.B_shift_right⟩
  · exact ⟨_, _, rfl, (ok_shift_right_rounded T).mono (by decide), T.F_shift_right_rounded.kp, T.B_shift_right_rounded⟩
  · exact ⟨_, _, rfl, (ok_shift_and_count T).mono (by decide), T.F_shift_and_count.kp, T.B_shift_and_count⟩
  · exact ⟨_, _, rfl, (ok_branch_below_zero T).mono (by decide), T.F_branch_below_zero.kp, T.B_branch_below_zero⟩
  · exact ⟨_, _, rfl, (ok_branch_not_zero T).mono (by decide), T.F_branch_not_zero.kp, T.B_branch_not_zero⟩
  · exact ⟨_, _, rfl, (ok_branch_over T).mono (by decide), T.F_branch_over.kp, T.B_branch_over⟩
  · exact ⟨_, _, rfl, (ok_look_up T).mono (by decide), T.F_look_up.kp, T.B_look_up⟩
section
variable {P : Program} {w : World} {K : PySem.W.Frag} {mg : Str → Option Value} {base : Heap} {a : Ad} {d : Fds}
def sp_act (K : PySem.W.Frag) (a : Ad) : Sp := fun vs H Q _ => ∃ (p l : Addr) (m : Drum.Machine) (c w u : Addr) (ws : List Int) (k : Nat) (pu : List Int) (o : Drum.Order), vs = [.ref p, .ref c, .int (o.code : Int), .int (o.d : Int)] ∧ Wld a H p l m c w u ws k pu ∧ WF m ∧ o.code < 100 ∧ Drum.known o.code = true ∧ o.code ≠ 0 ∧
  (Drum.addresses o.code = true → o.d < 2000) ∧ ((40 ≤ o.code ∧ o.code ≤ 42) → o.d ≤ 20) ∧ (o.code = 70 → k * 8 + 8 ≤ ws.length) ∧ k ≤ 100000 ∧ pu.length ≤ 1000000 ∧
  ∀ H', Wld a H' p l (actedC m o ((ws.drop (k * 8)).take 8)) c w u ws (if o.code = 70 then k + 1 else k) (pu ++ (Drum.does m o ((ws.drop (k * 8)).take 8)).out.flatten) → Fr4 p l c u H H' → Q (.int (ticksC m o ((ws.drop (k * 8)).take 8) : Int)) H'
theorem out_none {m : Drum.Machine} {o : Drum.Order} {card : Drum.Card} (h : o.code ≠ 71) : (Drum.does m o card).out = [] := by
  unfold Drum.does
  split
  case h_10 => split <;> rfl
  case h_21 => split <;> rfl
  case h_23 => rename_i e; exact absurd e h
  all_goals rfl
theorem ok_act (T : Txt K mg a d) : FnOk P w K mg base CX0 5 a.act d.act ["machine", "cards", "code", "address"] (sp_act K a) := by
  refine T.F_act.ok sc_act (fun vs H Q E h => ?_) (fun cdv A outer s H vs Q E hr h => ?_)
  · obtain ⟨p, l, m, c, wa, u, ws, k, pu, o, rfl, B, W, hc, hk, h0, hd, hs, h7, hb, hp, q⟩ := h
    rfl
  · obtain ⟨p, l, m, c, wa, u, ws, k, pu, o, rfl, B, W, hc, hk, h0, hd, hs, h7, hb, hp, q⟩ := h
    refine ⟨_, (pss_cons (ps_if (pt_cmpR op_eq (pv 2) (pe_gi T.c_READ_CARD) (nomark _))
        (pss_cons (ps_expr (pe_meth (pv 1) T.cl_Cards T.m_Cards_read_to (ok_Cards_read_to T) (hr.mono (by decide)) T.B_Cards_read_to .nil pass0 (pa_cons (pe_fld (pv 0) rfl) (pa_cons (pv 3) pa_nil))))
        (pss_one (ps_ret (pe_gi T.c_TICKS_OF_A_CARD))))
        pss_nil)
      (pss_cons (ps_if (pt_cmpR op_eq (pv 2) (pe_gi T.c_PUNCH_CARD) (nomark _))
        (pss_cons (ps_expr (pe_meth (pv 1) T.cl_Cards T.m_Cards_punch_from (ok_Cards_punch_from T) (hr.mono (by decide)) T.B_Cards_punch_from .nil pass0 (pa_cons (pe_fld (pv 0) rfl) (pa_cons (pv 3) pa_nil))))
        (pss_one (ps_ret (pe_gi T.c_TICKS_OF_A_CARD))))
        pss_nil)
      (pss_cons (ps_set (i := 4) sc_act.nd rfl (Or.inl rfl) (pe_kget (pe_gr T.c_ACTIONS) (pv 2) (fun _ _ => rfl)))
      (pss_one (ps_ret (pe_callL (k := 4) (pv 4) (hr.mono (by decide)) (pa_cons (pv 0) (pa_cons (pv 3) pa_nil)))))))), ?_⟩
    try dsimp only [cxOf]
    have M := B.ma
    obtain ⟨dx, ob⟩ := B.ca.ob
    obtain ⟨dy, op⟩ := M.ob
    have ncl : c ≠ l := ne_of ob M.dr (by intro z; cases z)
    have nul : u ≠ p := ne_of B.ca.pn op (by intro z; cases z)
    have nuc : u ≠ c := ne_of B.ca.pn ob (by intro z; cases z)
    have nwc : wa ≠ c := ne_of B.ca.wo ob (by intro z; cases z)
    walk_at "rd"
    refine r_ite (fun z => ?_) (fun z => ?_)
    · have z' : o.code = 70 := by simp at z; omega
      have hd' := hd (by rw [z']; rfl)
      walk_at "rd"
      refine r_meth ob no_Cards_read_to ?_
      walk_at "rd"
      refine r_gDrum T M ?_
      walk_at "rd"
      refine ⟨c, wa, u, ws, k, pu, l, m.drum, o.d, rfl, B.ca, hb, h7 z', M.dr, W.len, hd', fun H1 e1 e2 e3 => ?_⟩
      walk_at "rd"
      have ed : Drum.does m o ((ws.drop (k * 8)).take 8) = Drum.did { m with drum := putN m.drum o.d ((ws.drop (k * 8)).take 8) 8 } 60 := by
        simp only [Drum.does, z']
        rw [put_fold]
      have et : ticksC m o ((ws.drop (k * 8)).take 8) = 60 := by
        unfold ticksC
        rw [ed, if_neg (by omega)]
        rfl
      rw [et] at q
      refine q H1 ?_ (fun b o' h n1 n2 n3 n4 => e3 b o' h n3 n2)
      unfold actedC
      rw [ed, if_pos z']
      refine ⟨⟨⟨dy, e3 _ _ op B.npc M.ne⟩, e2⟩, ⟨e1, e3 _ _ B.ca.wo nwc B.nlw.symm, ?_⟩, B.npc, B.nlw, B.nlu, B.nwu⟩
      rw [show (Drum.did { m with drum := putN m.drum o.d ((ws.drop (k * 8)).take 8) 8 } 60).out.flatten = [] from rfl, List.append_nil]
      exact e3 _ _ B.ca.pn nuc B.nlu.symm
    · have z' : o.code ≠ 70 := by simp at z; omega
      walk_at "rd"
      refine r_ite (fun y => ?_) (fun y => ?_)
      · have y' : o.code = 71 := by simp at y; omega
        have hd' := hd (by rw [y']; rfl)
        walk_at "rd"
        refine r_meth ob no_Cards_punch_from ?_
        walk_at "rd"
        refine r_gDrum T M ?_
        walk_at "rd"
        refine ⟨c, wa, u, ws, k, pu, l, m.drum, o.d, rfl, B.ca, hp, M.dr, W.len, hd', fun H1 e2 e3 => ?_⟩
        walk_at "rd"
        have ed : Drum.does m o ((ws.drop (k * 8)).take 8) = ⟨m, 60, false, [(rot m.drum o.d).take 8]⟩ := by
          simp only [Drum.does, y']
          rw [at_nat71]
        have et : ticksC m o ((ws.drop (k * 8)).take 8) = 60 := by
          unfold ticksC
          rw [ed, if_neg (by omega)]
        rw [et] at q
        refine q H1 ?_ (fun b o' h n1 n2 n3 n4 => e3 b o' h n4)
        unfold actedC
        rw [ed, if_neg z']
        refine ⟨⟨⟨dy, e3 _ _ op nul.symm⟩, e3 _ _ M.dr B.nlu⟩, ⟨⟨dx, e3 _ _ ob nuc.symm⟩, e3 _ _ B.ca.wo B.nwu, ?_⟩, B.npc, B.nlw, B.nlu, B.nwu⟩
        rw [e2]
        simp
      · have y' : o.code ≠ 71 := by simp at y; omega
        obtain ⟨f, fd, g1, g2, g3, g4⟩ := fn_acts (P := P) (w := w) (base := base) T (codes_act hc hk h0 z' y')
        walk_at "rd"
        refine r_kget T.k_ACTIONS g1 ?_
        walk_at "rd"
        refine ⟨f, fd, _, _, rfl, g2, g3, g4, ?_⟩
        walk_at "rd"
        refine ⟨p, l, m, o, rfl, M, W, by simp, hd, hs, fun H1 M1 K1 => ?_⟩
        have ec : ∀ card, Drum.does m o card = Drum.does m o [] := fun card => does_card card z'
        have ea : actedC m o ((ws.drop (k * 8)).take 8) = acted m o := by unfold acted actedC; rw [ec]
        have et : ticksC m o ((ws.drop (k * 8)).take 8) = ticks m o := by unfold ticks ticksC; rw [ec]
        rw [et, ea] at q
        refine q H1 ?_ (K1.fr4 _ _)
        rw [if_neg z', out_none y', List.flatten_nil, List.append_nil]
        exact B.keep M1 K1
def carried (m : Drum.Machine) (o : Drum.Order) (t : Nat) (card : List Int) : Drum.Machine :=
  { (Drum.does (Drum.loaded m o) o card).m with tick := (Drum.passed m o t + (Drum.does (Drum.loaded m o) o card).behind) % Drum.WRAP, next := if (Drum.does (Drum.loaded m o) o card).jump = true then o.d else o.n }
def sp_carry_out (K : PySem.W.Frag) (a : Ad) : Sp := fun vs H Q _ => ∃ (p l : Addr) (m : Drum.Machine) (c w u : Addr) (ws : List Int) (k : Nat) (pu : List Int) (v : Int) (t : Nat), vs = [.ref p, .ref c, .int v, .int (t : Int)] ∧ Wld a H p l m c w u ws k pu ∧ WF m ∧ Wd v ∧ 0 ≤ v ∧ Drum.known (Drum.orderOf v).code = true ∧ (Drum.orderOf v).code ≠ 0 ∧ (Drum.orderOf v).n < 2000 ∧
  (Drum.addresses (Drum.orderOf v).code = true → (Drum.orderOf v).d < 2000) ∧ ((40 ≤ (Drum.orderOf v).code ∧ (Drum.orderOf v).code ≤ 42) → (Drum.orderOf v).d ≤ 20) ∧ ((Drum.orderOf v).code = 70 → k * 8 + 8 ≤ ws.length) ∧ k ≤ 100000 ∧ pu.length ≤ 1000000 ∧
  ∀ H', Wld a H' p l (carried m (Drum.orderOf v) t ((ws.drop (k * 8)).take 8)) c w u ws (if (Drum.orderOf v).code = 70 then k + 1 else k) (pu ++ (Drum.does (Drum.loaded m (Drum.orderOf v)) (Drum.orderOf v) ((ws.drop (k * 8)).take 8)).out.flatten) → Fr4 p l c u H H' → Q .non H'
theorem WF.withNext {m : Drum.Machine} (h : WF m) {n : Nat} (hn : n < 2000) : WF { m with next := n } := ⟨h.len, h.words, h.a, h.d, h.tick, hn, h.state⟩
theorem loads_addr : ∀ c < 100, Drum.known c = true → Drum.loads c = true → Drum.addresses c = true := by decide
theorem ok_carry_out (T : Txt K mg a d) : FnOk P w K mg base CX0 6 a.carry_out d.carry_out ["machine", "cards", "word", "tick"] (sp_carry_out K a) := by
  refine T.F_carry_out.ok sc_carry_out (fun vs H Q E h => ?_) (fun cdv A outer s H vs Q E hr h => ?_)
  · obtain ⟨p, l, m, c, wa, u, ws, k, pu, v, t, rfl, B, W, hv, h00, hk, h0, hn, hd, hs, h7, hb, hp, q⟩ := h
    rfl
  · obtain ⟨p, l, m, c, wa, u, ws, k, pu, v, t, rfl, B, W, hv, h00, hk, h0, hn, hd, hs, h7, hb, hp, q⟩ := h
    refine ⟨_, (pss_cons (ps_set (i := 4) sc_carry_out.nd rfl (Or.inl rfl) (pe_call (ok_code_of T) (hr.mono (by decide)) rfl T.G_code_of T.F_code_of.kp T.B_code_of .nil pass0 (pa_cons (pv 2) pa_nil)))
      (pss_cons (ps_set (i := 5) sc_carry_out.nd rfl (Or.inl rfl) (pe_call (ok_data_of T) (hr.mono (by decide)) rfl T.G_data_of T.F_data_of.kp T.B_data_of .nil pass0 (pa_cons (pv 2) pa_nil)))
      (pss_cons (ps_if (pt_val (pe_call (ok_waits T) (hr.mono (by decide)) rfl T.G_waits T.F_waits.kp T.B_waits .nil pass0 (pa_cons (pv 4) pa_nil)))
        (pss_one (ps_set (i := 3) sc_carry_out.nd rfl (Or.inl rfl) (pe_op op_add (pe_call (ok_waited T) (hr.mono (by decide)) rfl T.G_waited T.F_waited.kp T.B_waited .nil pass0 (pa_cons (pv 3) (pa_cons (pv 5) pa_nil))) pe_int)))
        pss_nil)
      (pss_cons (ps_if (pt_val (pe_call (ok_loads_d T) (hr.mono (by decide)) rfl T.G_loads_d T.F_loads_d.kp T.B_loads_d .nil pass0 (pa_cons (pv 4) pa_nil)))
        (pss_one (ps_fld (pv 0) (pe_ix ix_list (pe_fld (pv 0) rfl) (pv 5) (fun _ _ => rfl)) rfl))
        pss_nil)
      (pss_cons (ps_fld (pv 0) (pe_call (ok_next_of T) (hr.mono (by decide)) rfl T.G_next_of T.F_next_of.kp T.B_next_of .nil pass0 (pa_cons (pv 2) pa_nil)) rfl)
      (pss_cons (ps_set (i := 6) sc_carry_out.nd rfl (Or.inl rfl) (pe_call (ok_act T) (hr.mono (by decide)) rfl T.G_act T.F_act.kp T.B_act .nil pass0 (pa_cons (pv 0) (pa_cons (pv 1) (pa_cons (pv 4) (pa_cons (pv 5) pa_nil))))))
      (pss_one (ps_expr (pe_meth (pv 0) T.cl_Machine T.m_Machine_pass_to (ok_Machine_pass_to T) (hr.mono (by decide)) T.B_Machine_pass_to .nil pass0 (pa_cons (pe_op op_add (pv 3) (pv 6)) pa_nil)))))))))), ?_⟩
    try dsimp only [cxOf]
    have hc := code_lt hv
    have M := B.ma
    walk_at "rd"
    refine r_ite (fun z => ?_) (fun z => ?_)
    · walk_at "rd"
      refine r_ite (fun y => ?_) (fun y => ?_)
      · have el : Drum.loaded m (Drum.orderOf v) = { m with d := m.at_ (Drum.orderOf v).d } := if_pos y
        have hdd := hd (loads_addr _ hc hk y)
        walk_at "rd"
        refine r_gDrum T M ?_
        walk_at "rd"
        refine r_ixL (SqL.of M.dr) (at_nat (by rw [W.len]; exact hdd)) ?_
        walk_at "rd"
        refine r_sD T M (m.at_ (Drum.orderOf v).d) rfl (fun H1 M1 K1 => ?_)
        walk_at "rd"
        refine r_sN T M1 (Drum.orderOf v).n rfl (fun H2 M2 K2 => ?_)
        walk_at "rd"
        have M2 : MachAt a H2 p { Drum.loaded m (Drum.orderOf v) with next := (Drum.orderOf v).n } l := by rw [el]; exact M2
        have K12 := Keep.trans K1 K2
        refine ⟨p, l, { Drum.loaded m (Drum.orderOf v) with next := (Drum.orderOf v).n }, c, wa, u, ws, k, pu, Drum.orderOf v, rfl, B.keep M2 K12, (W.loaded _).withNext hn, hc, hk, h0, hd, hs, h7, hb, hp, fun H3 B3 F3 => ?_⟩
        walk_at "rd"
        obtain ⟨dz, oz⟩ := B3.ma.ob
        refine r_meth oz no_Machine_pass_to ?_
        walk_at "rd"
        refine ⟨p, l, _, (Drum.comes t (Drum.place (Drum.orderOf v).d) + 1) + ticksC { Drum.loaded m (Drum.orderOf v) with next := (Drum.orderOf v).n } (Drum.orderOf v) ((ws.drop (k * 8)).take 8), rfl, B3.ma, fun H4 M4 K4 => ?_⟩
        refine q H4 ?_ ((K12.fr4 _ _).trans (F3.trans (K4.fr4 _ _)))
        have e := carry_eq m (Drum.orderOf v) ((ws.drop (k * 8)).take 8) t
        rw [show waitedTo (Drum.orderOf v) t = (Drum.comes t (Drum.place (Drum.orderOf v).d) + 1) from if_pos z] at e
        have eo : (Drum.does { Drum.loaded m (Drum.orderOf v) with next := (Drum.orderOf v).n } (Drum.orderOf v) ((ws.drop (k * 8)).take 8)).out = (Drum.does (Drum.loaded m (Drum.orderOf v)) (Drum.orderOf v) ((ws.drop (k * 8)).take 8)).out := by rw [does_next]
        rw [← eo]
        unfold carried
        rw [← e]
        exact B3.keep M4 K4
      · have el : Drum.loaded m (Drum.orderOf v) = m := if_neg (by rw [y]; exact Bool.false_ne_true)
        walk_at "rd"
        refine r_sN T M (Drum.orderOf v).n rfl (fun H2 M2 K2 => ?_)
        walk_at "rd"
        have M2 : MachAt a H2 p { Drum.loaded m (Drum.orderOf v) with next := (Drum.orderOf v).n } l := by rw [el]; exact M2
        have K12 := Keep.trans (Keep.refl p l H) K2
        refine ⟨p, l, { Drum.loaded m (Drum.orderOf v) with next := (Drum.orderOf v).n }, c, wa, u, ws, k, pu, Drum.orderOf v, rfl, B.keep M2 K12, (W.loaded _).withNext hn, hc, hk, h0, hd, hs, h7, hb, hp, fun H3 B3 F3 => ?_⟩
        walk_at "rd"
        obtain ⟨dz, oz⟩ := B3.ma.ob
        refine r_meth oz no_Machine_pass_to ?_
        walk_at "rd"
        refine ⟨p, l, _, (Drum.comes t (Drum.place (Drum.orderOf v).d) + 1) + ticksC { Drum.loaded m (Drum.orderOf v) with next := (Drum.orderOf v).n } (Drum.orderOf v) ((ws.drop (k * 8)).take 8), rfl, B3.ma, fun H4 M4 K4 => ?_⟩
        refine q H4 ?_ ((K12.fr4 _ _).trans (F3.trans (K4.fr4 _ _)))
        have e := carry_eq m (Drum.orderOf v) ((ws.drop (k * 8)).take 8) t
        rw [show waitedTo (Drum.orderOf v) t = (Drum.comes t (Drum.place (Drum.orderOf v).d) + 1) from if_pos z] at e
        have eo : (Drum.does { Drum.loaded m (Drum.orderOf v) with next := (Drum.orderOf v).n } (Drum.orderOf v) ((ws.drop (k * 8)).take 8)).out = (Drum.does (Drum.loaded m (Drum.orderOf v)) (Drum.orderOf v) ((ws.drop (k * 8)).take 8)).out := by rw [does_next]
        rw [← eo]
        unfold carried
        rw [← e]
        exact B3.keep M4 K4
    · walk_at "rd"
      refine r_ite (fun y => ?_) (fun y => ?_)
      · have el : Drum.loaded m (Drum.orderOf v) = { m with d := m.at_ (Drum.orderOf v).d } := if_pos y
        have hdd := hd (loads_addr _ hc hk y)
        walk_at "rd"
        refine r_gDrum T M ?_
        walk_at "rd"
        refine r_ixL (SqL.of M.dr) (at_nat (by rw [W.len]; exact hdd)) ?_
        walk_at "rd"
        refine r_sD T M (m.at_ (Drum.orderOf v).d) rfl (fun H1 M1 K1 => ?_)
        walk_at "rd"
        refine r_sN T M1 (Drum.orderOf v).n rfl (fun H2 M2 K2 => ?_)
        walk_at "rd"
        have M2 : MachAt a H2 p { Drum.loaded m (Drum.orderOf v) with next := (Drum.orderOf v).n } l := by rw [el]; exact M2
        have K12 := Keep.trans K1 K2
        refine ⟨p, l, { Drum.loaded m (Drum.orderOf v) with next := (Drum.orderOf v).n }, c, wa, u, ws, k, pu, Drum.orderOf v, rfl, B.keep M2 K12, (W.loaded _).withNext hn, hc, hk, h0, hd, hs, h7, hb, hp, fun H3 B3 F3 => ?_⟩
        walk_at "rd"
        obtain ⟨dz, oz⟩ := B3.ma.ob
        refine r_meth oz no_Machine_pass_to ?_
        walk_at "rd"
        refine ⟨p, l, _, t + ticksC { Drum.loaded m (Drum.orderOf v) with next := (Drum.orderOf v).n } (Drum.orderOf v) ((ws.drop (k * 8)).take 8), rfl, B3.ma, fun H4 M4 K4 => ?_⟩
        refine q H4 ?_ ((K12.fr4 _ _).trans (F3.trans (K4.fr4 _ _)))
        have e := carry_eq m (Drum.orderOf v) ((ws.drop (k * 8)).take 8) t
        rw [show waitedTo (Drum.orderOf v) t = t from if_neg (by rw [z]; exact Bool.false_ne_true)] at e
        have eo : (Drum.does { Drum.loaded m (Drum.orderOf v) with next := (Drum.orderOf v).n } (Drum.orderOf v) ((ws.drop (k * 8)).take 8)).out = (Drum.does (Drum.loaded m (Drum.orderOf v)) (Drum.orderOf v) ((ws.drop (k * 8)).take 8)).out := by rw [does_next]
        rw [← eo]
        unfold carried
        rw [← e]
        exact B3.keep M4 K4
      · have el : Drum.loaded m (Drum.orderOf v) = m := if_neg (by rw [y]; exact Bool.false_ne_true)
        walk_at "rd"
        refine r_sN T M (Drum.orderOf v).n rfl (fun H2 M2 K2 => ?_)
        walk_at "rd"
        have M2 : MachAt a H2 p { Drum.loaded m (Drum.orderOf v) with next := (Drum.orderOf v).n } l := by rw [el]; exact M2
        have K12 := Keep.trans (Keep.refl p l H) K2
        refine ⟨p, l, { Drum.loaded m (Drum.orderOf v) with next := (Drum.orderOf v).n }, c, wa, u, ws, k, pu, Drum.orderOf v, rfl, B.keep M2 K12, (W.loaded _).withNext hn, hc, hk, h0, hd, hs, h7, hb, hp, fun H3 B3 F3 => ?_⟩
        walk_at "rd"
        obtain ⟨dz, oz⟩ := B3.ma.ob
        refine r_meth oz no_Machine_pass_to ?_
        walk_at "rd"
        refine ⟨p, l, _, t + ticksC { Drum.loaded m (Drum.orderOf v) with next := (Drum.orderOf v).n } (Drum.orderOf v) ((ws.drop (k * 8)).take 8), rfl, B3.ma, fun H4 M4 K4 => ?_⟩
        refine q H4 ?_ ((K12.fr4 _ _).trans (F3.trans (K4.fr4 _ _)))
        have e := carry_eq m (Drum.orderOf v) ((ws.drop (k * 8)).take 8) t
        rw [show waitedTo (Drum.orderOf v) t = t from if_neg (by rw [z]; exact Bool.false_ne_true)] at e
        have eo : (Drum.does { Drum.loaded m (Drum.orderOf v) with next := (Drum.orderOf v).n } (Drum.orderOf v) ((ws.drop (k * 8)).take 8)).out = (Drum.does (Drum.loaded m (Drum.orderOf v)) (Drum.orderOf v) ((ws.drop (k * 8)).take 8)).out := by rw [does_next]
        rw [← eo]
        unfold carried
        rw [← e]
        exact B3.keep M4 K4
def sp_one_order (K : PySem.W.Frag) (a : Ad) : Sp := fun vs H Q _ => ∃ (p l : Addr) (m : Drum.Machine) (c w u : Addr) (ws : List Int) (k : Nat) (pu : List Int), vs = [.ref p, .ref c] ∧ Wld a H p l m c w u ws k pu ∧ WF m ∧ ws.length % 8 = 0 ∧ k ≤ 100000 ∧ pu.length ≤ 1000000 ∧
  ∀ H', Wld a H' p l (m.step (cardsOf (ws.drop (k * 8)))).1 c w u ws (if (m.step (cardsOf (ws.drop (k * 8)))).2.1 = true then k + 1 else k) (pu ++ (m.step (cardsOf (ws.drop (k * 8)))).2.2.flatten) → Fr4 p l c u H H' → Q .non H'
theorem ok_one_order (T : Txt K mg a d) : FnOk P w K mg base CX0 7 a.one_order d.one_order ["machine", "cards"] (sp_one_order K a) := by
  refine T.F_one_order.ok sc_one_order (fun vs H Q E h => ?_) (fun cdv A outer s H vs Q E hr h => ?_)
  · obtain ⟨p, l, m, c, wa, u, ws, k, pu, rfl, B, W, h8, hb, hp, q⟩ := h
    rfl
  · obtain ⟨p, l, m, c, wa, u, ws, k, pu, rfl, B, W, h8, hb, hp, q⟩ := h
    refine ⟨_, (pss_cons (ps_set (i := 2) sc_one_order.nd rfl (Or.inl rfl) (pe_ix ix_list (pe_fld (pv 0) rfl) (pe_fld (pv 0) rfl) (fun _ _ => rfl)))
      (pss_cons (ps_set (i := 3) sc_one_order.nd rfl (Or.inl rfl) (pe_op op_add (pe_call (ok_waited T) (hr.mono (by decide)) rfl T.G_waited T.F_waited.kp T.B_waited .nil pass0 (pa_cons (pe_fld (pv 0) rfl) (pa_cons (pe_fld (pv 0) rfl) pa_nil))) (pe_gi T.c_TICKS_TO_TAKE_APART)))
      (pss_cons (ps_set (i := 4) sc_one_order.nd rfl (Or.inl rfl) (pe_call (ok_stopping_state T) (hr.mono (by decide)) rfl T.G_stopping_state T.F_stopping_state.kp T.B_stopping_state .nil pass0 (pa_cons (pv 2) (pa_cons (pe_meth0 (pv 1) T.cl_Cards T.m_Cards_is_left (ok_Cards_is_left T) (hr.mono (by decide)) T.B_Cards_is_left .nil pass0) pa_nil))))
      (pss_one (ps_if (pt_cmpR op_eq (pv 4) (pe_gi T.c_GOES_ON) (nomark _))
        (pss_one (ps_expr (pe_call (ok_carry_out T) (hr.mono (by decide)) rfl T.G_carry_out T.F_carry_out.kp T.B_carry_out .nil pass0 (pa_cons (pv 0) (pa_cons (pv 1) (pa_cons (pv 2) (pa_cons (pv 3) pa_nil)))))))
        (pss_cons (ps_fld (pv 0) (pv 4) rfl)
        (pss_one (ps_expr (pe_meth (pv 0) T.cl_Machine T.m_Machine_pass_to (ok_Machine_pass_to T) (hr.mono (by decide)) T.B_Machine_pass_to .nil pass0 (pa_cons (pv 3) pa_nil)))))))))), ?_⟩
    try dsimp only [cxOf]
    have M := B.ma
    obtain ⟨dx, ob⟩ := B.ca.ob
    have hv : Wd (m.drum.getD m.next 0) := at_wd W _
    walk_at "rd"
    refine r_gDrum T M ?_
    walk_at "rd"
    refine r_gN T M ?_
    walk_at "rd"
    refine r_ixL (SqL.of M.dr) (at_nat (by rw [W.len]; exact W.next)) ?_
    walk_at "rd"
    refine r_gT T M ?_
    walk_at "rd"
    refine r_gN T M ?_
    walk_at "rd"
    refine r_meth ob no_Cards_is_left ?_
    walk_at "rd"
    refine ⟨c, wa, u, ws, k, pu, rfl, B.ca, hb, ?_⟩
    walk_at "rd"
    have eb := cards_left ws k
    refine r_ite (fun z => ?_) (fun z => ?_)
    · have z' : stopOf (m.drum.getD m.next 0) (decide (k * 8 < ws.length)) = 0 := by have := of_decide_eq_true z; omega
      have z2 : stopOf (m.at_ m.next) (!(cardsOf (ws.drop (k * 8))).isEmpty) = 0 := by rw [eb]; exact z'
      have f1 := fault_of_stop z'
      have f := fault_none f1.1
      walk_at "rd"
      refine ⟨p, l, m, c, wa, u, ws, k, pu, m.drum.getD m.next 0, Drum.comes m.tick (Drum.place m.next) + 3, rfl, B, W, hv, f.1, f.2.1, f1.2, f.2.2.1 f1.2, f.2.2.2.1, f.2.2.2.2.1, fun z7 => ?_, hb, hp, fun H1 B1 F1 => ?_⟩
      · have := of_decide_eq_true (f.2.2.2.2.2 z7)
        omega
      · refine q H1 ?_ F1
        rw [step_go z2, cards_headAll]
        have ek : (if ((Drum.orderOf (m.at_ m.next)).code == 70) = true then k + 1 else k) = if (Drum.orderOf (m.at_ m.next)).code = 70 then k + 1 else k := by simp
        simp only
        rw [ek]
        exact B1
    · have z' : stopOf (m.drum.getD m.next 0) (decide (k * 8 < ws.length)) ≠ 0 := by have := of_decide_eq_false z; omega
      have z2 : stopOf (m.at_ m.next) (!(cardsOf (ws.drop (k * 8))).isEmpty) ≠ 0 := by rw [eb]; exact z'
      walk_at "rd"
      refine r_sState T M (stopOf (m.drum.getD m.next 0) (decide (k * 8 < ws.length))) rfl (fun H1 M1 K1 => ?_)
      walk_at "rd"
      obtain ⟨dz, oz⟩ := M1.ob
      refine r_meth oz no_Machine_pass_to ?_
      walk_at "rd"
      refine ⟨p, l, _, Drum.comes m.tick (Drum.place m.next) + 3, rfl, M1, fun H2 M2 K2 => ?_⟩
      refine q H2 ?_ ((K1.trans K2).fr4 _ _)
      rw [step_stop z2, eb]
      simp only [Bool.false_eq_true, if_false, List.flatten_nil, List.append_nil]
      exact B.keep M2 (K1.trans K2)
def sp_run_orders (K : PySem.W.Frag) (a : Ad) : Sp := fun vs H Q _ => ∃ (p l : Addr) (m : Drum.Machine) (c w u : Addr) (ws : List Int) (n t : Nat), vs = [.ref p, .ref c, .int (n : Int), .int (t : Int)] ∧ Wld a H p l m c w u ws 0 [] ∧ WF m ∧ ws.length % 8 = 0 ∧ (∀ v ∈ ws, Wd v) ∧ n ≤ 10000 ∧
  ∀ H', Wld a H' p l (Drum.run n t m (cardsOf ws)).m c w u ws (Drum.run n t m (cardsOf ws)).read (Drum.run n t m (cardsOf ws)).punched.flatten → Fr4 p l c u H H' → Q (.int ((Drum.run n t m (cardsOf ws)).begun : Int)) H'
/-- a run, of which b orders are done -/
structure Part (r s : Drum.Run) (b k : Nat) (pu : List Int) : Prop where
  m : r.m = s.m
  bg : r.begun = s.begun + b
  rd : r.read = s.read + k
  pn : r.punched.flatten = pu ++ s.punched.flatten
theorem ok_run_orders (T : Txt K mg a d) : FnOk P w K mg base CX0 8 a.run_orders d.run_orders ["machine", "cards", "orders", "until"] (sp_run_orders K a) := by
  refine T.F_run_orders.ok sc_run_orders (fun vs H Q E h => ?_) (fun cdv A outer s H vs Q E hr h => ?_)
  · obtain ⟨p, l, m, c, wa, u, ws, n, t, rfl, B, W, h8, hw, hn, q⟩ := h
    rfl
  · obtain ⟨p, l, m, c, wa, u, ws, n, t, rfl, B, W, h8, hw, hn, q⟩ := h
    refine ⟨_, (pss_cons (ps_set (i := 4) sc_run_orders.nd rfl (Or.inl rfl) pe_int)
      (pss_cons (ps_while PassesOwn.never (PW.pt (pw_and (pt_cmpR op_eq (pe_fld (pv 0) rfl) (pe_gi T.c_GOES_ON) (nomark _)) (pw_and (pt_cmpR op_lt (pv 4) (pv 2) (nomark _)) (pw_and1 (pt_cmpR op_lt (pe_fld (pv 0) rfl) (pv 3) (nomark _))))))
        (pss_cons (ps_expr (pe_call (ok_one_order T) (hr.mono (by decide)) rfl T.G_one_order T.F_one_order.kp T.B_one_order .nil pass0 (pa_cons (pv 0) (pa_cons (pv 1) pa_nil))))
        (pss_one (ps_aug (i := 4) sc_run_orders.nd rfl (Or.inl rfl) pe_int ip_add))))
      (pss_one (ps_ret (pv 4))))), ?_⟩
    try dsimp only [cxOf]
    walk_at "rd"
    refine r_while (fun x σ H' => ∃ (b : Nat) (m' : Drum.Machine) (k : Nat) (pu : List Int), x = n - b ∧ σ = [some (.ref p), some (.ref c), some (.int (n : Int)), some (.int (t : Int)), some (.int (b : Int))] ∧ b ≤ n ∧ Wld a H' p l m' c wa u ws k pu ∧ WF m' ∧ k ≤ b ∧ pu.length ≤ 8 * b ∧ Fr4 p l c u H H' ∧
      Part (Drum.run n t m (cardsOf ws)) (Drum.run (n - b) t m' (cardsOf (ws.drop (k * 8)))) b k pu) n ⟨0, m, 0, [], rfl, rfl, Nat.zero_le _, B, W, Nat.le_refl _, Nat.le_refl _, Fr4.refl _ _ _ _ _, ⟨rfl, rfl, rfl, rfl⟩⟩ ?_
    rintro x σ H' ⟨b, m', k, pu, rfl, rfl, hb, B1, W1, hk, hp, F1, r⟩
    have M1 := B1.ma
    have fin : (m'.state ≠ 0 ∨ ¬ b < n ∨ t ≤ m'.tick) → Q (.int (b : Int)) H' := fun h => by
      have e : Drum.run (n - b) t m' (cardsOf (ws.drop (k * 8))) = ⟨m', 0, 0, []⟩ := by
        rcases h with h | h | h
        · exact run_stop (.inl h)
        · rw [show n - b = 0 by omega]
          rfl
        · exact run_stop (.inr h)
      rw [e] at r
      refine int_of ?_ (q H' ?_ F1)
      · rw [r.bg]
        simp
      · rw [r.m, r.rd, r.pn]
        simp only [Nat.zero_add, List.flatten_nil, List.append_nil]
        exact B1
    walk_at "rd"
    refine r_gState T M1 ?_
    walk_at "rd"
    refine r_ite (fun z => ?_) (fun z => ?_)
    · have z' : m'.state = 0 := by simp at z; omega
      walk_at "rd"
      refine r_ite (fun y => ?_) (fun y => ?_)
      · have y' : b < n := by simp at y; omega
        walk_at "rd"
        refine r_gT T M1 ?_
        walk_at "rd"
        refine r_ite (fun x => ?_) (fun x => ?_)
        · have x' : m'.tick < t := by simp at x; omega
          refine r_turn (R := fun N => _) ?_
          walk_at "rd"
          refine ⟨p, l, m', c, wa, u, ws, k, pu, rfl, B1, W1, h8, by omega, by omega, fun H2 B2 F2 => ?_⟩
          walk_at "rd"
          refine r_augI rfl ?_
          walk_at "rd"
          have hgo : ¬ (m'.state ≠ 0 ∨ t ≤ m'.tick) := by omega
          rw [show n - b = (n - (b + 1)) + 1 by omega, run_go hgo] at r
          have ol := step_out_len m' (cardsOf (ws.drop (k * 8)))
          refine ⟨n - (b + 1), by omega, b + 1, (m'.step (cardsOf (ws.drop (k * 8)))).1, _, _, rfl, by simp, by omega, B2, W1.step (words_left hw _), ?_, ?_, F1.trans F2, ?_⟩
          · split <;> omega
          · rw [List.length_append]
            omega
          · have ec : (if (m'.step (cardsOf (ws.drop (k * 8)))).2.1 = true then (cardsOf (ws.drop (k * 8))).drop 1 else cardsOf (ws.drop (k * 8))) = cardsOf (ws.drop ((if (m'.step (cardsOf (ws.drop (k * 8)))).2.1 = true then k + 1 else k) * 8)) := by
              by_cases h : (m'.step (cardsOf (ws.drop (k * 8)))).2.1 = true
              · rw [if_pos h, if_pos h]
                exact cards_next (read_left h)
              · rw [if_neg h, if_neg h]
            rw [← ec]
            refine ⟨r.m, ?_, ?_, ?_⟩
            · have := r.bg
              simp only at this
              omega
            · have := r.rd
              simp only at this
              split at this <;> simp_all <;> omega
            · have := r.pn
              simp only [List.flatten_append] at this
              rw [this, List.append_assoc]
        · have x' : t ≤ m'.tick := by simp at x; omega
          walk_at "rd"
          exact fin (.inr (.inr x'))
      · have y' : ¬ b < n := by simp at y; omega
        refine r_ite (fun z => nomatch z) (fun _ => ?_)
        walk_at "rd"
        exact fin (.inr (.inl y'))
    · have z' : m'.state ≠ 0 := by simp at z; omega
      refine r_ite (fun z => nomatch z) (fun _ => ?_)
      walk_at "rd"
      exact fin (.inl z')
end
/-- a call c is answered: the machine as the document says, the answer in a new list, all else as it was -/
def Ans (a : Ad) (H : Hp) (p : Addr) (m : Drum.Machine) (l : Addr) (c : DrumMachineSeed.Call) (Q : VK) : Prop :=
  ∀ (H' : Hp) (q l' : Addr), H q = none → MachAt a H' p (DrumMachineSeed.step m c).1 l' → (l' = l ∨ H l' = none) → H' q = some (.lst ((DrumMachineSeed.step m c).2.map V.int)) → (∀ b o, H b = some o → b ≠ p → b ≠ l → H' b = some o) → Q (.ref q) H'
/-- an answer that changes nothing of the machine -/
theorem Ans.plain {a : Ad} {H : Hp} {p l q : Addr} {m : Drum.Machine} {c : DrumMachineSeed.Call} {Q : VK} {r : List V} (k : Ans a H p m l c Q) (M : MachAt a H p m l) (hq : H q = none) (e1 : (DrumMachineSeed.step m c).1 = m) (e2 : (DrumMachineSeed.step m c).2.map V.int = r) : Q (.ref q) (upd H q (.lst r)) := by
  have s := Same.upd_new (o := .lst r) hq
  refine k _ q l hq ?_ (.inl rfl) (by rw [upd_same, e2]) fun b o e _ _ => s b o e
  rw [e1]
  exact M.same s
/-- the answer in a new list, the machine changed in its place -/
theorem Ans.keep {a : Ad} {H H1 : Hp} {p l q : Addr} {m : Drum.Machine} {c : DrumMachineSeed.Call} {Q : VK} {r : List V} (k : Ans a H p m l c Q) (s : Same H H1 ∨ Keep p l H H1) (M0 : MachAt a H p m l) (M : MachAt a H1 p (DrumMachineSeed.step m c).1 l) (hq : H1 q = none) (e2 : (DrumMachineSeed.step m c).2.map V.int = r) : Q (.ref q) (upd H1 q (.lst r)) := by
  have s2 := Same.upd_new (o := .lst r) hq
  have s' : Keep p l H H1 := s.elim Keep.same id
  refine k _ q l ?_ (M.same s2) (.inl rfl) (by rw [upd_same, e2]) fun b o e n1 n2 => s2 b o (s' b o e n1 n2)
  obtain ⟨⟨dx, ob⟩, dr⟩ := M
  cases z : H q with
  | none => rfl
  | some o =>
    by_cases n1 : q = p
    · rw [n1, ob] at hq; cases hq
    · by_cases n2 : q = l
      · rw [n2, dr] at hq; cases hq
      · rw [s' q o z n1 n2] at hq; cases hq
theorem rg_two {n : Nat} (h : n < 2 ^ 60) : RgC 0 (n : Int) 2 ((n + 1) / 2) := by
  have e : Builtin.Range.rangeSize 0 (n : Int) 2 = (((n + 1) / 2 : Nat) : Int) := by
    unfold Builtin.Range.rangeSize
    rw [if_pos (by decide)]
    split <;> omega
  have f : ∀ {i : Int}, 0 ≤ i → i < 2 ^ 61 → Builtin.Range.rangeFitsLong i = true := fun h0 h1 => by
    unfold Builtin.Range.rangeFitsLong
    rw [decide_eq_true (by omega), decide_eq_true (by omega)]
    rfl
  refine ⟨by decide, by decide, ?_, e⟩
  unfold Builtin.Range.small
  rw [e, f (i := 0) (by omega) (by omega), f (i := (n : Int)) (by omega) (by omega), f (i := 2) (by omega) (by omega), f (i := (((n + 1) / 2 : Nat) : Int)) (by omega) (by omega), if_pos (by decide), f (i := (n : Int) + (2 - 1)) (by omega) (by omega), Bool.or_true]
  rfl
theorem Keep.free {a : Ad} {H H1 : Hp} {p l q : Addr} {m : Drum.Machine} (K1 : Keep p l H H1) (M : MachAt a H1 p m l) (hq : H1 q = none) : H q = none := by
  obtain ⟨⟨dx, ob⟩, dr⟩ := M
  cases z : H q with
  | none => rfl
  | some o =>
    by_cases n1 : q = p
    · rw [n1, ob] at hq; cases hq
    · by_cases n2 : q = l
      · rw [n2, dr] at hq; cases hq
      · rw [K1 q o z n1 n2] at hq; cases hq
section
variable {P : Program} {w : World} {K : PySem.W.Frag} {mg : Str → Option Value} {base : Heap} {a : Ad} {d : Fds}
def sp_told (K : PySem.W.Frag) (a : Ad) : Sp := fun vs H Q _ => ∃ (p l : Addr) (m : Drum.Machine), vs = [.ref p] ∧ MachAt a H p m l ∧ Ans a H p m l .told Q
theorem ok_told (T : Txt K mg a d) : FnOk P w K mg base CX0 1 a.told d.told ["machine"] (sp_told K a) := by
  refine T.F_told.ok sc_told (fun vs H Q E h => ?_) (fun cdv A outer s H vs Q E hr h => ?_)
  · obtain ⟨p, l, m, rfl, M, k⟩ := h
    rfl
  · obtain ⟨p, l, m, rfl, M, k⟩ := h
    refine ⟨_, (pss_one (ps_ret (pe_lst (pa_cons (pe_gi T.c_DONE) (pa_cons (pe_fld (pv 0) rfl) (pa_cons (pe_fld (pv 0) rfl) (pa_cons (pe_fld (pv 0) rfl) (pa_cons (pe_fld (pv 0) rfl) (pa_cons (pe_fld (pv 0) rfl) (pa_cons (pe_fld (pv 0) rfl) pa_nil)))))))))), ?_⟩
    try dsimp only [cxOf]
    walk_at "rd"
    refine r_gState T M ?_
    walk_at "rd"
    refine r_gOver T M ?_
    walk_at "rd"
    refine r_gN T M ?_
    walk_at "rd"
    refine r_gT T M ?_
    walk_at "rd"
    refine r_gA T M ?_
    walk_at "rd"
    refine r_gD T M ?_
    walk_at "rd"
    refine r_newL rfl (fun q hq => ?_)
    exact k.plain M hq rfl rfl
def sp_new (K : PySem.W.Frag) (a : Ad) : Sp := fun vs H Q _ => ∃ (p l : Addr) (m : Drum.Machine) (n : Int), vs = [.ref p, .int n] ∧ MachAt a H p m l ∧ Ans a H p m l (.new n) Q
theorem ok_new (T : Txt K mg a d) : FnOk P w K mg base CX0 2 a.new d.new ["machine", "start"] (sp_new K a) := by
  refine T.F_new.ok sc_new (fun vs H Q E h => ?_) (fun cdv A outer s H vs Q E hr h => ?_)
  · obtain ⟨p, l, m, n, rfl, M, k⟩ := h
    rfl
  · obtain ⟨p, l, m, n, rfl, M, k⟩ := h
    refine ⟨_, (pss_cons (ps_if (pt_not (pt_val (pe_call (ok_is_address T) (hr.mono (by decide)) rfl T.G_is_address T.F_is_address.kp T.B_is_address .nil pass0 (pa_cons (pv 1) pa_nil))))
        (pss_one (ps_ret (pe_lst (pa_cons (pe_gi T.c_NOT_GRANTED) pa_nil))))
        pss_nil)
      (pss_cons (ps_expr (pe_meth (pv 0) T.cl_Machine T.m_Machine_begin (ok_Machine_begin T) (hr.mono (by decide)) T.B_Machine_begin .nil pass0 (pa_cons (pv 1) pa_nil)))
      (pss_one (ps_ret (pe_lst (pa_cons (pe_gi T.c_DONE) pa_nil)))))), ?_⟩
    try dsimp only [cxOf]
    walk_at "rd"
    refine r_ite (fun c => ?_) (fun c => ?_)
    · have e : DrumMachineSeed.step m (.new n) = (m, DrumMachineSeed.no 1) := by
        show (if DrumMachineSeed.within n Drum.WORDS = true then _ else _) = _
        rw [if_neg (by rw [Bool.not_eq_true'] at c; rw [c]; exact Bool.false_ne_true)]
      walk_at "rd"
      refine r_newL rfl (fun q hq => ?_)
      exact k.plain M hq (by rw [e]) (by rw [e]; rfl)
    · rw [Bool.not_eq_false'] at c
      have e : DrumMachineSeed.step m (.new n) = (Drum.new n.toNat, DrumMachineSeed.tells []) := by
        show (if DrumMachineSeed.within n Drum.WORDS = true then _ else _) = _
        rw [if_pos c]
      have hn := within_iff.mp c
      obtain ⟨dx, ob⟩ := M.ob
      walk_at "rd"
      refine r_meth ob no_Machine_begin ?_
      walk_at "rd"
      refine ⟨p, dx, _, n, rfl, ob, .inr ⟨_, _, _, _, _, _, _, rfl⟩, fun H1 l1 h1 h2 h3 h4 => ?_⟩
      walk_at "rd"
      refine r_newL rfl (fun q hq => ?_)
      have s := Same.upd_new (o := .lst [V.int 0]) hq
      refine k _ q l1 ?_ ?_ (.inr h1) ?_ ?_
      · cases z : H q with
        | none => rfl
        | some o =>
          by_cases e2 : q = p
          · subst e2; rw [h2] at hq; cases hq
          · rw [h4 q o z e2] at hq; cases hq
      · rw [e]
        exact (MachAt.new hn.1 h2 h3).same s
      · rw [e, upd_same]
        rfl
      · exact fun b o e1 e2 _ => s b o (h4 b o e1 e2)
def sp_poke (K : PySem.W.Frag) (a : Ad) : Sp := fun vs H Q _ => ∃ (p l : Addr) (m : Drum.Machine) (n v : Int), vs = [.ref p, .int n, .int v] ∧ MachAt a H p m l ∧ WF m ∧ Ans a H p m l (.poke n v) Q
theorem ok_poke (T : Txt K mg a d) : FnOk P w K mg base CX0 2 a.poke d.poke ["machine", "address", "word"] (sp_poke K a) := by
  refine T.F_poke.ok sc_poke (fun vs H Q E h => ?_) (fun cdv A outer s H vs Q E hr h => ?_)
  · obtain ⟨p, l, m, n, v, rfl, M, W, k⟩ := h
    rfl
  · obtain ⟨p, l, m, n, v, rfl, M, W, k⟩ := h
    refine ⟨_, (pss_cons (ps_if (PW.pt (pw_or (pt_not (pt_val (pe_call (ok_is_address T) (hr.mono (by decide)) rfl T.G_is_address T.F_is_address.kp T.B_is_address .nil pass0 (pa_cons (pv 1) pa_nil)))) (pw_or1 (pt_not (pt_val (pe_call (ok_is_word T) (hr.mono (by decide)) rfl T.G_is_word T.F_is_word.kp T.B_is_word .nil pass0 (pa_cons (pv 2) pa_nil)))))))
        (pss_one (ps_ret (pe_lst (pa_cons (pe_gi T.c_NOT_GRANTED) pa_nil))))
        pss_nil)
      (pss_cons (ps_asg (pv 2) (pg_sub (pe_fld (pv 0) rfl) (pv 1) set_list))
      (pss_one (ps_ret (pe_lst (pa_cons (pe_gi T.c_DONE) pa_nil)))))), ?_⟩
    try dsimp only [cxOf]
    have neg : (DrumMachineSeed.within n Drum.WORDS && Drum.isWord v) = false → DrumMachineSeed.step m (.poke n v) = (m, DrumMachineSeed.no 1) := fun c => by
      show (if (DrumMachineSeed.within n Drum.WORDS && Drum.isWord v) = true then _ else _) = _
      rw [if_neg (by rw [c]; exact Bool.false_ne_true)]
    walk_at "rd"
    refine r_ite (fun c => ?_) (fun c => ?_)
    · rw [Bool.not_eq_true'] at c
      have e := neg (by rw [c]; rfl)
      walk_at "rd"
      refine r_ite (fun _ => ?_) (fun z => nomatch z)
      walk_at "rd"
      refine r_newL rfl (fun q hq => ?_)
      exact k.plain M hq (by rw [e]) (by rw [e]; rfl)
    · rw [Bool.not_eq_false'] at c
      have hn := within_iff.mp c
      walk_at "rd"
      refine r_ite (fun c2 => ?_) (fun c2 => ?_)
      · rw [Bool.not_eq_true'] at c2
        have e := neg (by rw [c2]; exact Bool.and_false _)
        walk_at "rd"
        refine r_newL rfl (fun q hq => ?_)
        exact k.plain M hq (by rw [e]) (by rw [e]; rfl)
      · rw [Bool.not_eq_false'] at c2
        have e : DrumMachineSeed.step m (.poke n v) = (m.put n.toNat v, DrumMachineSeed.tells []) := by
          show (if (DrumMachineSeed.within n Drum.WORDS && Drum.isWord v) = true then _ else _) = _
          rw [if_pos (by rw [c, c2]; rfl)]
        obtain ⟨j, rfl⟩ : ∃ j : Nat, n = (j : Int) := ⟨n.toNat, by omega⟩
        walk_at "rd"
        refine r_gDrum T M ?_
        walk_at "rd"
        refine r_put M (by rw [W.len]; unfold Drum.WORDS at hn; omega) (fun H1 M1 K1 => ?_)
        walk_at "rd"
        refine r_newL rfl (fun q hq => ?_)
        exact k.keep (.inr K1) M (by rw [e]; exact M1) hq (by rw [e]; rfl)
def sp_peek (K : PySem.W.Frag) (a : Ad) : Sp := fun vs H Q _ => ∃ (p l : Addr) (m : Drum.Machine) (n : Int), vs = [.ref p, .int n] ∧ MachAt a H p m l ∧ WF m ∧ Ans a H p m l (.peek n) Q
theorem ok_peek (T : Txt K mg a d) : FnOk P w K mg base CX0 2 a.peek d.peek ["machine", "address"] (sp_peek K a) := by
  refine T.F_peek.ok sc_peek (fun vs H Q E h => ?_) (fun cdv A outer s H vs Q E hr h => ?_)
  · obtain ⟨p, l, m, n, rfl, M, W, k⟩ := h
    rfl
  · obtain ⟨p, l, m, n, rfl, M, W, k⟩ := h
    refine ⟨_, (pss_cons (ps_if (pt_not (pt_val (pe_call (ok_is_address T) (hr.mono (by decide)) rfl T.G_is_address T.F_is_address.kp T.B_is_address .nil pass0 (pa_cons (pv 1) pa_nil))))
        (pss_one (ps_ret (pe_lst (pa_cons (pe_gi T.c_NOT_GRANTED) pa_nil))))
        pss_nil)
      (pss_one (ps_ret (pe_lst (pa_cons (pe_gi T.c_DONE) (pa_cons (pe_ix ix_list (pe_fld (pv 0) rfl) (pv 1) (fun _ _ => rfl)) pa_nil)))))), ?_⟩
    try dsimp only [cxOf]
    walk_at "rd"
    refine r_ite (fun c => ?_) (fun c => ?_)
    · rw [Bool.not_eq_true'] at c
      have e : DrumMachineSeed.step m (.peek n) = (m, DrumMachineSeed.no 1) := by
        show (m, if DrumMachineSeed.within n Drum.WORDS = true then _ else _) = _
        rw [if_neg (by rw [c]; exact Bool.false_ne_true)]
      walk_at "rd"
      refine r_newL rfl (fun q hq => ?_)
      exact k.plain M hq (by rw [e]) (by rw [e]; rfl)
    · rw [Bool.not_eq_false'] at c
      have hn := within_iff.mp c
      have e : DrumMachineSeed.step m (.peek n) = (m, DrumMachineSeed.tells [m.at_ n.toNat]) := by
        show (m, if DrumMachineSeed.within n Drum.WORDS = true then _ else _) = _
        rw [if_pos c]
      walk_at "rd"
      refine r_gDrum T M ?_
      walk_at "rd"
      refine r_ixL (SqL.of M.dr) (at_map hn.1 (by rw [W.len]; exact hn.2)) ?_
      walk_at "rd"
      refine r_newL rfl (fun q hq => ?_)
      exact k.plain M hq (by rw [e]) (by rw [e]; rfl)
def cardsOk (ws : List Int) : Bool := decide (ws.length ≤ 512) && (ws.length % 8 == 0 && ws.all Drum.isWord)
def sp_are_cards (K : PySem.W.Frag) (a : Ad) : Sp := fun vs H Q _ => ∃ (w : Addr) (ws : List Int), vs = [.ref w] ∧ H w = some (.lst (ws.map V.int)) ∧ ∀ H', Same H H' → Q (.bl (cardsOk ws)) H'
theorem ok_are_cards (T : Txt K mg a d) : FnOk P w K mg base CX0 2 a.are_cards d.are_cards ["words"] (sp_are_cards K a) := by
  refine T.F_are_cards.ok sc_are_cards (fun vs H Q E h => ?_) (fun cdv A outer s H vs Q E hr h => ?_)
  · obtain ⟨wa, ws, rfl, hw, k⟩ := h
    rfl
  · obtain ⟨wa, ws, rfl, hw, k⟩ := h
    refine ⟨_, (pss_cons (ps_if (PW.pt (pw_or (pt_cmpR op_gt (pe_callB call_len_seq (by rfl) T.b_len PySem.boot_len (pa_cons (pv 0) pa_nil)) (pe_gi T.c_MOST_CARD_WORDS) (nomark _)) (pw_or1 (pt_cmpR op_ne (pe_op op_mod (pe_callB call_len_seq (by rfl) T.b_len PySem.boot_len (pa_cons (pv 0) pa_nil)) (pe_gi T.c_CARD_SIZE)) pe_int (nomark _)))))
        (pss_one (ps_ret pe_bl))
        pss_nil)
      (pss_one (ps_ret (pe_callB (cr_all rfl) (by rfl) T.b_all (by decide +kernel) (pa_cons (pe_lc (own := [("word", 1)]) rfl sc_are_cards.nd (pi_list (pv 0)) (show BlkOk ["words", "word"] (defScope s_are_cards) _ _ from blkOk_by (by decide +kernel)) (fun _ _ _ _ _ => pg_name (i := 1) sc_are_cards.nd rfl (Or.inl rfl)) (fun _ _ _ _ _ => pts_nil) (fun _ _ _ _ _ => (pe_call (ok_is_word T) (hr.mono (by decide)) rfl T.G_is_word T.F_is_word.kp T.B_is_word .nil pass0 (pa_cons (pv 1) pa_nil)))) pa_nil))))), ?_⟩
    try dsimp only [cxOf]
    walk_at "rd"
    refine r_len (SqL.of hw) ?_
    walk_at "rd"
    refine r_ite (fun c => ?_) (fun c => ?_)
    · have c' := of_decide_eq_true c
      rw [List.length_map] at c'
      walk_at "rd"
      refine r_ite (fun _ => ?_) (fun z => nomatch z)
      walk_at "rd"
      refine bl_of ?_ (k H (Same.refl _))
      unfold cardsOk
      rw [decide_eq_false (show ¬ ws.length ≤ 512 by omega)]
      rfl
    · have c' := of_decide_eq_false c
      rw [List.length_map] at c'
      walk_at "rd"
      refine r_len (SqL.of hw) ?_
      walk_at "rd"
      refine r_ite (fun z => ?_) (fun z => ?_)
      · have z' : ws.length % 8 ≠ 0 := by
          rw [Bool.not_eq_true'] at z
          have := of_decide_eq_false z
          rw [List.length_map] at this
          omega
        walk_at "rd"
        refine bl_of ?_ (k H (Same.refl _))
        unfold cardsOk
        rw [show (ws.length % 8 == 0) = false by simpa using z', Bool.false_and, Bool.and_false]
      · have z' : ws.length % 8 = 0 := by
          rw [Bool.not_eq_false'] at z
          have := of_decide_eq_true z
          rw [List.length_map] at this
          omega
        have big : 512 < sizeLine := by decide
        walk_at "rd"
        refine r_list (SqL.of hw) ?_
        intro D hD
        refine lc_list (xs := ws.map V.int) (fun i H' => Same H H' ∧ H' D = some (.lst ((ws.take i).map fun v => V.bl (Drum.isWord v)))) ⟨Same.upd_new hD, upd_same⟩ (fun i H' _ h => SqL.of (h.1 _ _ hw)) ?_ ?_
        · rintro i x H' hi ⟨h1, h2⟩
          rw [List.getElem?_map] at hi
          cases hc : ws[i]? with
          | none => rw [hc] at hi; cases hi
          | some v =>
            rw [hc] at hi
            cases hi
            walk_at "rd"
            refine ⟨rfl, ?_⟩
            walk_at "rd"
            refine r_ite (fun _ => ?_) (fun z => nomatch z)
            walk_at "rd"
            refine ⟨v, rfl, ?_⟩
            refine ⟨_, h2, by rw [List.length_map, List.length_take]; omega, fun b o e => ?_, ?_⟩
            · rw [upd_ne (fun z => by rw [z, hD] at e; cases e)]
              exact h1 b o e
            · rw [upd_same, List.take_succ, hc, List.map_append]
              rfl
        · rintro H' ⟨h1, h2⟩
          rw [List.length_map, List.take_length] at h2
          walk_at "rd"
          refine ⟨D, ws.map Drum.isWord, rfl, SqL.of (by rw [h2, List.map_map]; rfl), ?_⟩
          refine bl_of ?_ (k H' h1)
          unfold cardsOk
          rw [List.all_map, decide_eq_true (show ws.length ≤ 512 by omega), show (ws.length % 8 == 0) = true by simpa using z']
          rfl
def sp_run (K : PySem.W.Frag) (a : Ad) : Sp := fun vs H Q _ => ∃ (p l w : Addr) (m : Drum.Machine) (o t : Int) (ws : List Int), vs = [.ref p, .int o, .int t, .ref w] ∧ MachAt a H p m l ∧ WF m ∧ H w = some (.lst (ws.map V.int)) ∧ l ≠ w ∧ Ans a H p m l (.run o t ws) Q
theorem Ans.plain2 {a : Ad} {H H1 : Hp} {p l q : Addr} {m : Drum.Machine} {c : DrumMachineSeed.Call} {Q : VK} {r : List V} (k : Ans a H p m l c Q) (s : Same H H1) (M : MachAt a H p m l) (hq : H1 q = none) (e1 : (DrumMachineSeed.step m c).1 = m) (e2 : (DrumMachineSeed.step m c).2.map V.int = r) : Q (.ref q) (upd H1 q (.lst r)) :=
  k.keep (.inl s) M (by rw [e1]; exact M.same s) hq e2
theorem step_run {m : Drum.Machine} {o t : Int} {ws : List Int} : DrumMachineSeed.step m (.run o t ws) = if (DrumMachineSeed.within o (DrumMachineSeed.ORDERS + 1) && (DrumMachineSeed.within t Drum.WRAP && cardsOk ws)) = true then
    ((Drum.run o.toNat t.toNat m (cardsOf ws)).m, DrumMachineSeed.tells ([((Drum.run o.toNat t.toNat m (cardsOf ws)).begun : Int), ((Drum.run o.toNat t.toNat m (cardsOf ws)).read : Int)] ++ (Drum.run o.toNat t.toNat m (cardsOf ws)).punched.flatten)) else (m, DrumMachineSeed.no 1) := rfl
theorem ok_run (T : Txt K mg a d) : FnOk P w K mg base CX0 9 a.run d.run ["machine", "orders", "until", "words"] (sp_run K a) := by
  refine T.F_run.ok sc_run (fun vs H Q E h => ?_) (fun cdv A outer s H vs Q E hr h => ?_)
  · obtain ⟨p, l, wa, m, o, t, ws, rfl, M, W, hw, nlw, k⟩ := h
    rfl
  · obtain ⟨p, l, wa, m, o, t, ws, rfl, M, W, hw, nlw, k⟩ := h
    refine ⟨_, (pss_cons (ps_if (PW.pt (pw_or (pt_not (pt_chain op_le op_le pe_int (pv 1) (pe_gi T.c_MOST_ORDERS))) (pw_or (pt_not (pt_val (pe_call (ok_is_tick T) (hr.mono (by decide)) rfl T.G_is_tick T.F_is_tick.kp T.B_is_tick .nil pass0 (pa_cons (pv 2) pa_nil)))) (pw_or1 (pt_not (pt_val (pe_call (ok_are_cards T) (hr.mono (by decide)) rfl T.G_are_cards T.F_are_cards.kp T.B_are_cards .nil pass0 (pa_cons (pv 3) pa_nil))))))))
        (pss_one (ps_ret (pe_lst (pa_cons (pe_gi T.c_NOT_GRANTED) pa_nil))))
        pss_nil)
      (pss_cons (ps_set (i := 4) sc_run.nd rfl (Or.inl rfl) (pe_make T.M_Cards (ok_Cards_init T) (hr.mono (by decide)) rfl T.G_Cards T.B_Cards_init .nil pass0 (pa_cons (pv 3) pa_nil)))
      (pss_cons (ps_set (i := 5) sc_run.nd rfl (Or.inl rfl) (pe_call (ok_run_orders T) (hr.mono (by decide)) rfl T.G_run_orders T.F_run_orders.kp T.B_run_orders .nil pass0 (pa_cons (pv 0) (pa_cons (pv 4) (pa_cons (pv 1) (pa_cons (pv 2) pa_nil))))))
      (pss_one (ps_ret (pe_op op_cat (pe_lst (pa_cons (pe_gi T.c_DONE) (pa_cons (pv 5) (pa_cons (pe_fld (pv 4) rfl) pa_nil)))) (pe_fld (pv 4) rfl))))))), ?_⟩
    try dsimp only [cxOf]
    have neg : (DrumMachineSeed.within o (DrumMachineSeed.ORDERS + 1) && (DrumMachineSeed.within t Drum.WRAP && cardsOk ws)) = false → DrumMachineSeed.step m (.run o t ws) = (m, DrumMachineSeed.no 1) := fun c => by
      rw [step_run, if_neg (by rw [c]; exact Bool.false_ne_true)]
    have wo : DrumMachineSeed.within o (DrumMachineSeed.ORDERS + 1) = decide (0 ≤ o ∧ o ≤ 10000) := by
      unfold DrumMachineSeed.within DrumMachineSeed.ORDERS
      apply Bool.eq_iff_iff.mpr
      simp only [Bool.and_eq_true, decide_eq_true_eq]
      omega
    walk_at "rd"
    refine r_ite (fun c1 => ?_) (fun c1 => ?_)
    · walk_at "rd"
      refine r_ite (fun c2 => ?_) (fun c2 => ?_)
      · rw [Bool.not_eq_true'] at c2
        have e := neg (by rw [wo, decide_eq_false (fun z => (of_decide_eq_false c2) z.2)]; rfl)
        refine r_ite (fun _ => ?_) (fun z => absurd z (by decide))
        walk_at "rd"
        refine r_newL rfl (fun q hq => ?_)
        exact k.plain M hq (by rw [e]) (by rw [e]; rfl)
      · rw [Bool.not_eq_false'] at c2
        have w1 : DrumMachineSeed.within o (DrumMachineSeed.ORDERS + 1) = true := by rw [wo, decide_eq_true ⟨of_decide_eq_true c1, of_decide_eq_true c2⟩]
        have c1' := of_decide_eq_true c1
        have c2' := of_decide_eq_true c2
        walk_at "rd"
        refine r_ite (fun c3 => ?_) (fun c3 => ?_)
        · rw [Bool.not_eq_true'] at c3
          have e := neg (by rw [w1, c3]; rfl)
          refine r_ite (fun _ => ?_) (fun z => absurd z (by decide))
          walk_at "rd"
          refine r_newL rfl (fun q hq => ?_)
          exact k.plain M hq (by rw [e]) (by rw [e]; rfl)
        · rw [Bool.not_eq_false'] at c3
          have c3' := within_iff.mp c3
          walk_at "rd"
          refine ⟨wa, ws, rfl, hw, fun H1 s1 => ?_⟩
          walk_at "rd"
          refine r_ite (fun c4 => ?_) (fun c4 => ?_)
          · rw [Bool.not_eq_true'] at c4
            have e := neg (by rw [w1, c3, c4]; rfl)
            walk_at "rd"
            refine r_newL rfl (fun q hq => ?_)
            exact k.plain2 s1 M hq (by rw [e]) (by rw [e]; rfl)
          · rw [Bool.not_eq_false'] at c4
            have e : DrumMachineSeed.step m (.run o t ws) = _ := step_run.trans (if_pos (by rw [w1, c3, c4]; rfl))
            have c5 := c4
            unfold cardsOk at c5
            simp only [Bool.and_eq_true, decide_eq_true_eq, beq_iff_eq, List.all_eq_true] at c5
            obtain ⟨n, rfl⟩ : ∃ n : Nat, o = (n : Int) := ⟨o.toNat, by omega⟩
            obtain ⟨tk, rfl⟩ : ∃ n : Nat, t = (n : Int) := ⟨t.toNat, by omega⟩
            rw [Int.toNat_natCast, Int.toNat_natCast] at e
            walk_at "rd"
            intro c dx hc hdx hne
            refine ⟨c, dx, wa, rfl, upd_same, fun H2 u hu e1 e2 e3 => ⟨rfl, ?_⟩⟩
            have s2 : Same H1 H2 := Same.made hc hdx e3
            have s12 := s1.trans s2
            have hu1 : H1 u = none := by
              cases z : H1 u with
              | none => rfl
              | some o' => rw [upd_ne (ne_of_none z hc), upd_ne (ne_of_none z hdx), z] at hu; cases hu
            have M2 := M.same s12
            obtain ⟨dy, op⟩ := M.ob
            have B2 : Wld a H2 p l m c wa u ws 0 [] := ⟨M2, ⟨⟨dx, e1⟩, s12 _ _ hw, e2⟩, ne_of_none (s1 _ _ op) hc, nlw, ne_of_none (s1 _ _ M.dr) hu1, ne_of_none (s1 _ _ hw) hu1⟩
            walk_at "rd"
            refine ⟨p, l, m, c, wa, u, ws, n, tk, rfl, B2, W, c5.2.1, fun v hv => isWord_iff.mp (c5.2.2 v hv), by omega, fun H3 B3 F3 => ?_⟩
            have rl := run_len n tk m (cardsOf ws)
            have big : 1000000 < sizeLine := by decide
            obtain ⟨dz, oz⟩ := B3.ca.ob
            walk_at "rd"
            refine r_fld oz T.cl_Cards T.n_Cards_read_count lk_Cards_read_count ?_
            walk_at "rd"
            refine r_newL rfl (fun r hr => ?_)
            walk_at "rd"
            have s4 := Same.upd_new (o := .lst [V.int 0, V.int ((Drum.run n tk m (cardsOf ws)).begun : Int), V.int ((Drum.run n tk m (cardsOf ws)).read : Int)]) hr
            refine r_fld (s4 _ _ oz) T.cl_Cards T.n_Cards_punched lk_Cards_punched ?_
            walk_at "rd"
            refine r_cat upd_same (s4 _ _ B3.ca.pn) (by rw [List.length_map]; show 3 + _ ≤ _; omega) (fun q hq => ?_)
            have fr : Keep p l H (upd H3 r (.lst [V.int 0, V.int ((Drum.run n tk m (cardsOf ws)).begun : Int), V.int ((Drum.run n tk m (cardsOf ws)).read : Int)])) := fun b o' h n1 n2 =>
              s4 _ _ (F3 b o' (s12 _ _ h) n1 n2 (ne_of_none (s1 _ _ h) hc) (ne_of_none (s1 _ _ h) hu1))
            refine k.keep (.inr fr) M (by rw [e]; exact B3.ma.same s4) hq ?_
            rw [e]
            simp [DrumMachineSeed.tells]
    · have e := neg (by rw [wo, decide_eq_false (fun z => (of_decide_eq_false c1) z.1)]; rfl)
      walk_at "rd"
      refine r_ite (fun _ => ?_) (fun z => absurd z (by decide))
      refine r_ite (fun _ => ?_) (fun z => absurd z (by decide))
      walk_at "rd"
      refine r_newL rfl (fun q hq => ?_)
      exact k.plain M hq (by rw [e]) (by rw [e]; rfl)
theorem find_none {c : Nat} (h : Drum.known c = false) : (Drum.names.find? fun (x : Nat × String) => x.1 == c) = none := by
  rw [List.find?_eq_none]
  intro x hx hc
  unfold Drum.known at h
  rw [← Bool.not_eq_true, List.any_eq_true] at h
  exact h ⟨x, hx, hc⟩
theorem name_len : ∀ x ∈ Drum.names, x.2.toList.length = 3 := by decide
theorem text_len {v : Int} {t : List UInt8} (h : Drum.orderText v = some t) : t.length ≤ 100 := by
  unfold Drum.orderText at h
  split at h
  · cases h
  · cases e : (Drum.names.find? fun (x : Nat × String) => x.1 == (Drum.orderOf v).code) with
    | none => rw [e] at h; cases h
    | some x =>
      rw [e] at h
      have hx := name_len x (List.mem_of_find?_eq_some e)
      have h' := Option.some.inj h
      rw [← h']
      simp only [List.length_append, List.length_cons, List.length_map]
      rw [hx]
      unfold Drum.four
      simp
def sp_order (K : PySem.W.Frag) (a : Ad) : Sp := fun vs H Q _ => ∃ (v : Int), vs = [.int v] ∧ ∀ (H' : Hp) (q : Addr), H q = none → H' q = some (.lst ((DrumMachineSeed.step DrumMachineSeed.start (.order v)).2.map V.int)) → Same H H' → Q (.ref q) H'
theorem ok_order (T : Txt K mg a d) : FnOk P w K mg base CX0 3 a.order d.order ["word"] (sp_order K a) := by
  refine T.F_order.ok sc_order (fun vs H Q E h => ?_) (fun cdv A outer s H vs Q E hr h => ?_)
  · obtain ⟨v, rfl, k⟩ := h
    rfl
  · obtain ⟨v, rfl, k⟩ := h
    refine ⟨_, (pss_cons (ps_if (pt_not (pt_val (pe_call (ok_is_word T) (hr.mono (by decide)) rfl T.G_is_word T.F_is_word.kp T.B_is_word .nil pass0 (pa_cons (pv 0) pa_nil))))
        (pss_one (ps_ret (pe_lst (pa_cons (pe_gi T.c_NOT_GRANTED) pa_nil))))
        pss_nil)
      (pss_cons (ps_if (pt_not (pt_val (pe_call (ok_is_order T) (hr.mono (by decide)) rfl T.G_is_order T.F_is_order.kp T.B_is_order .nil pass0 (pa_cons (pv 0) pa_nil))))
        (pss_one (ps_ret (pe_lst (pa_cons (pe_gi T.c_NOT_OF_THE_FORM) pa_nil))))
        pss_nil)
      (pss_one (ps_ret (pe_op op_cat (pe_lst (pa_cons (pe_gi T.c_DONE) pa_nil)) (pe_lc (own := [("sign", 1)]) rfl sc_order.nd (pi_str (pe_call (ok_writing T) (hr.mono (by decide)) rfl T.G_writing T.F_writing.kp T.B_writing .nil pass0 (pa_cons (pv 0) pa_nil))) (show BlkOk ["word", "sign"] (defScope s_order) _ _ from blkOk_by (by decide +kernel)) (fun _ _ _ _ _ => pg_name (i := 1) sc_order.nd rfl (Or.inl rfl)) (fun _ _ _ _ _ => pts_nil) (fun _ _ _ _ _ => (pe_callB call_ord (by rfl) T.b_ord (by decide +kernel) (pa_cons (pv 1) pa_nil))))))))), ?_⟩
    try dsimp only [cxOf]
    have ee : (DrumMachineSeed.step DrumMachineSeed.start (.order v)).2 = if Drum.isWord v = false then DrumMachineSeed.no 1 else match Drum.orderText v with
          | some t => DrumMachineSeed.tells (t.map fun (c : UInt8) => (c.toNat : Int))
          | none => DrumMachineSeed.no 6 := rfl
    have fin : ∀ (H1 : Hp) (q : Addr) (r : List V), Same H H1 → H1 q = none → (DrumMachineSeed.step DrumMachineSeed.start (.order v)).2.map V.int = r → Q (.ref q) (upd H1 q (.lst r)) := fun H1 q r s hq e => k _ q (s.free hq) (by rw [upd_same, e]) (s.trans (Same.upd_new hq))
    walk_at "rd"
    refine r_ite (fun c => ?_) (fun c => ?_)
    · rw [Bool.not_eq_true'] at c
      walk_at "rd"
      refine r_newL rfl (fun q hq => ?_)
      refine fin H q _ (Same.refl _) hq ?_
      rw [ee, if_pos c]
      rfl
    · rw [Bool.not_eq_false'] at c
      have hv : Wd v := isWord_iff.mp c
      rw [if_neg (by rw [c]; exact Bool.noConfusion)] at ee
      walk_at "rd"
      refine r_ite (fun z => ?_) (fun z => ?_)
      · rw [Bool.not_eq_true'] at z
        have et : Drum.orderText v = none := by
          unfold Drum.orderText
          by_cases hn : v < 0
          · rw [if_pos hn]
          · rw [if_neg hn, find_none]
            · rfl
            · rw [decide_eq_true (show 0 ≤ v by omega), Bool.true_and] at z
              exact z
        rw [et] at ee
        walk_at "rd"
        refine r_newL rfl (fun q hq => ?_)
        refine fin H q _ (Same.refl _) hq ?_
        rw [ee]
        rfl
      · rw [Bool.not_eq_false', Bool.and_eq_true] at z
        have z1 := of_decide_eq_true z.1
        have big : 1000 < sizeLine := by decide
        walk_at "rd"
        refine r_newL rfl (fun q0 hq0 => ?_)
        have s0 := Same.upd_new (o := .lst [V.int 0]) hq0
        walk_at "rd"
        refine ⟨v, rfl, z1, hv, z.2, fun x t e1 e2 => ?_⟩
        walk_at "rd"
        intro D hD
        rw [e1] at ee
        have ht : t.length ≤ 100 := text_len e1
        have hx : x.cps.size = t.length := by
          have := congrArg List.length e2
          rw [List.length_map] at this
          exact this
        refine lc_str (fun i H' => Same (upd H q0 (.lst [V.int 0])) H' ∧ H' D = some (.lst ((x.cps.toList.take i).map fun c => V.int (c : Nat)))) ⟨Same.upd_new hD, upd_same⟩ ?_ ?_
        · rintro i c H' hi ⟨h1, h2⟩
          have hi' : x.cps.toList[i]? = some c := by rw [Array.getElem?_toList]; exact hi
          have hlt : i < x.cps.size := (Array.getElem?_eq_some_iff.mp hi).1
          walk_at "rd"
          refine ⟨rfl, ?_⟩
          walk_at "rd"
          refine r_ite (fun _ => ?_) (fun z => nomatch z)
          walk_at "rd"
          refine ⟨rfl, ?_⟩
          refine ⟨_, h2, by rw [List.length_map, List.length_take]; omega, fun b o e => ?_, ?_⟩
          · rw [upd_ne (fun z => by rw [z, hD] at e; cases e)]
            exact h1 b o e
          · rw [upd_same, List.take_succ, hi', List.map_append]
            rfl
        · rintro H' ⟨h1, h2⟩
          have h2' : H' D = some (.lst (t.map fun c => V.int (c.toNat : Nat))) := by
            rw [h2, show x.cps.toList.take x.cps.size = x.cps.toList from List.take_of_length_le (by simp), e2, List.map_map]
            rfl
          refine r_cat (h1 _ _ upd_same) h2' (by rw [List.length_map]; show 1 + t.length ≤ _; omega) (fun q hq => ?_)
          refine fin H' q _ (s0.trans h1) hq ?_
          rw [ee]
          show V.int 0 :: (t.map fun (c : UInt8) => (c.toNat : Int)).map V.int = _
          rw [List.map_map]
          rfl
def sp_drum (K : PySem.W.Frag) (a : Ad) : Sp := fun vs H Q _ => ∃ (p l : Addr) (m : Drum.Machine), vs = [.ref p] ∧ MachAt a H p m l ∧ WF m ∧ Ans a H p m l .drum Q
theorem ok_drum (T : Txt K mg a d) : FnOk P w K mg base CX0 1 a.drum d.drum ["machine"] (sp_drum K a) := by
  refine T.F_drum.ok sc_drum (fun vs H Q E h => ?_) (fun cdv A outer s H vs Q E hr h => ?_)
  · obtain ⟨p, l, m, rfl, M, W, k⟩ := h
    rfl
  · obtain ⟨p, l, m, rfl, M, W, k⟩ := h
    refine ⟨_, (pss_cons (ps_set (i := 1) sc_drum.nd rfl (Or.inl rfl) (pe_lst (pa_cons (pe_gi T.c_DONE) pa_nil)))
      (pss_cons (ps_for PassesOwn.never rfl (pi_enum rfl T.b_enumerate (pa_cons (pe_fld (pv 0) rfl) pa_nil)) (pg_tup rfl (pgs_cons (pg_name (i := 2) sc_drum.nd rfl (Or.inl rfl)) (pgs_cons (pg_name (i := 3) sc_drum.nd rfl (Or.inl rfl)) pgs_nil)))
        (pss_one (ps_if (pt_cmpR op_ne (pv 3) pe_int (nomark _))
          (pss_cons (ps_expr (pe_bm PySem.F.plainAttrs_list PySem.F.slot_list_append PySem.F.type_list_append mt_append (pv 1) (pa_cons (pv 2) pa_nil)))
          (pss_one (ps_expr (pe_bm PySem.F.plainAttrs_list PySem.F.slot_list_append PySem.F.type_list_append mt_append (pv 1) (pa_cons (pv 3) pa_nil)))))
          pss_nil)))
      (pss_one (ps_ret (pv 1))))), ?_⟩
    try dsimp only [cxOf]
    have big : 10000 < sizeLine := by decide
    walk_at "rd"
    refine r_newL rfl (fun g hg => ?_)
    walk_at "rd"
    have s1 := Same.upd_new (o := .lst [V.int 0]) hg
    refine r_gDrum T (M.same s1) ?_
    walk_at "rd"
    refine r_enum (SqL.of (M.same s1).dr) ?_
    refine for_enumN (xs := m.drum.map V.int) (fun i σ H' => ∃ v1 v2, σ = [some (.ref p), some (.ref g), v1, v2] ∧ H' g = some (.lst ((0 :: DrumMachineSeed.notes (m.drum.take i)).map V.int)) ∧ ∀ b o, H b = some o → H' b = some o) ⟨_, _, rfl, by rw [upd_same]; rfl, s1⟩ ?_ ?_ ?_
    · rintro i σ H' hi ⟨v1, v2, rfl, h1, h2⟩
      exact SqL.of (h2 _ _ M.dr)
    · rintro i y σ H2 H3 hi ⟨v1, v2, rfl, h1, h2⟩ h3
      rw [List.getElem?_map] at hi
      cases hc : m.drum[i]? with
      | none => rw [hc] at hi; cases hi
      | some v =>
        rw [hc] at hi
        cases hi
        have nl : (DrumMachineSeed.notes (m.drum.take i)).length ≤ 4000 := by
          have := notes_len (m.drum.take i)
          rw [List.length_take, W.len] at this
          omega
        have g3 := h3 _ _ h1
        have ng : ∀ b o, H b = some o → b ≠ g := fun b o e z => by rw [z, hg] at e; cases e
        walk_at "rd"
        refine r_ite (fun z => ?_) (fun z => ?_)
        · have z' : v ≠ 0 := by simpa using z
          walk_at "rd"
          refine r_tyL g3 ?_
          walk_at "rd"
          refine r_append g3 (by rw [List.length_map, List.length_cons]; omega) ?_
          walk_at "rd"
          refine r_tyL upd_same ?_
          walk_at "rd"
          refine r_append upd_same (by rw [List.length_append, List.length_map, List.length_cons]; show _ + 1 < _; omega) ?_
          walk_at "rd"
          refine ⟨_, _, rfl, ?_, fun b o e => ?_⟩
          · rw [upd_same, notes_take hc]
            unfold noteOf
            rw [if_neg z']
            simp
          · rw [upd_ne (ng b o e), upd_ne (ng b o e)]
            exact h3 _ _ (h2 _ _ e)
        · have z' : v = 0 := by simpa using z
          walk_at "rd"
          refine ⟨_, _, rfl, ?_, fun b o e => h3 _ _ (h2 _ _ e)⟩
          rw [g3, notes_take hc]
          unfold noteOf
          rw [if_pos z', List.append_nil]
    · rintro σ H2 ⟨v1, v2, rfl, h1, h2⟩
      rw [List.length_map, List.take_length] at h1
      walk_at "rd"
      exact k H2 g l hg (M.same h2) (.inl rfl) h1 fun b o e _ _ => h2 b o e
def sp_is_drum_form (K : PySem.W.Frag) (a : Ad) : Sp := fun vs H Q _ => ∃ (w : Addr) (ns : List Int), vs = [.ref w] ∧ H w = some (.lst (ns.map V.int)) ∧ ns.length < 10000000 ∧ Q (.bl (DrumMachineSeed.noted ns 0).isSome) H
theorem ok_is_drum_form (T : Txt K mg a d) : FnOk P w K mg base CX0 2 a.is_drum_form d.is_drum_form ["numbers"] (sp_is_drum_form K a) := by
  refine T.F_is_drum_form.ok sc_is_drum_form (fun vs H Q E h => ?_) (fun cdv A outer s H vs Q E hr h => ?_)
  · obtain ⟨wa, ns, rfl, hw, hlen, k⟩ := h
    rfl
  · obtain ⟨wa, ns, rfl, hw, hlen, k⟩ := h
    refine ⟨_, (pss_cons (ps_if (pt_cmpR op_ne (pe_op op_mod (pe_callB call_len_seq (by rfl) T.b_len PySem.boot_len (pa_cons (pv 0) pa_nil)) pe_int) pe_int (nomark _))
        (pss_one (ps_ret pe_bl))
        pss_nil)
      (pss_cons (ps_set (i := 1) sc_is_drum_form.nd rfl (Or.inl rfl) (pe_un un_neg pe_int))
      (pss_cons (ps_for PassesOwn.never rfl (pi_range3 rfl T.b_range (pa_cons pe_int (pa_cons (pe_callB call_len_seq (by rfl) T.b_len PySem.boot_len (pa_cons (pv 0) pa_nil)) (pa_cons pe_int pa_nil)))) (pg_name (i := 2) sc_is_drum_form.nd rfl (Or.inl rfl))
        (pss_cons (ps_set (i := 3) sc_is_drum_form.nd rfl (Or.inl rfl) (pe_ix ix_list (pv 0) (pv 2) (fun _ _ => rfl)))
        (pss_cons (ps_set (i := 4) sc_is_drum_form.nd rfl (Or.inl rfl) (pe_ix ix_list (pv 0) (pe_op op_add (pv 2) pe_int) (fun _ _ => rfl)))
        (pss_cons (ps_if (PW.pt (pw_or (pt_cmpR op_le (pv 3) (pv 1) (nomark _)) (pw_or (pt_not (pt_val (pe_call (ok_is_address T) (hr.mono (by decide)) rfl T.G_is_address T.F_is_address.kp T.B_is_address .nil pass0 (pa_cons (pv 3) pa_nil)))) (pw_or (pt_cmpR op_eq (pv 4) pe_int (nomark _)) (pw_or1 (pt_not (pt_val (pe_call (ok_is_word T) (hr.mono (by decide)) rfl T.G_is_word T.F_is_word.kp T.B_is_word .nil pass0 (pa_cons (pv 4) pa_nil)))))))))
          (pss_one (ps_ret pe_bl))
          pss_nil)
        (pss_one (ps_set (i := 1) sc_is_drum_form.nd rfl (Or.inl rfl) (pv 3)))))))
      (pss_one (ps_ret pe_bl))))), ?_⟩
    try dsimp only [cxOf]
    walk_at "rd"
    refine r_len (SqL.of hw) ?_
    walk_at "rd"
    rw [List.length_map]
    refine r_ite (fun c => ?_) (fun c => ?_)
    · have c' : ns.length % 2 = 1 := by
        rw [Bool.not_eq_true'] at c
        have := of_decide_eq_false c
        omega
      walk_at "rd"
      refine bl_of ?_ k
      rw [noted_odd c']
      rfl
    · have c' : ns.length % 2 = 0 := by
        rw [Bool.not_eq_false'] at c
        have := of_decide_eq_true c
        omega
      walk_at "rd"
      refine r_len (SqL.of hw) ?_
      walk_at "rd"
      rw [List.length_map]
      refine ⟨_, _, _, _, rfl, rg_two (by omega), ?_⟩
      refine for_rangeCN (fun i σ H' => H' = H ∧ ∃ z v1 v2 v3, DrumMachineSeed.noted (ns.take (2 * i)) 0 = some z ∧ σ = [some (.ref wa), some (.int (ends (ns.take (2 * i)) 0 - 1)), v1, v2, v3]) ⟨rfl, [], _, _, _, rfl, rfl⟩ ?_ ?_
      · rintro i σ H' hi ⟨rfl, z, v1, v2, v3, hz, rfl⟩
        have hi2 : 2 * i + 1 < ns.length := by omega
        have ge := ends_ge hz
        have sp := split_pair hi2
        have no : badPair (ends (ns.take (2 * i)) 0) (ns.getD (2 * i) 0) (ns.getD (2 * i + 1) 0) → Q (.bl false) H' := fun hb => by
          refine bl_of ?_ k
          rw [sp, noted_pair_bad hz hb]
          rfl
        have e1 : (0 : Int) + ((i : Nat) : Int) * 2 = ((2 * i : Nat) : Int) := by omega
        walk_at "rd"
        rw [e1]
        refine r_ixL (SqL.of hw) (at_nat (by omega)) ?_
        walk_at "rd"
        refine r_ixL (SqL.of hw) (i := ((2 * i + 1 : Nat) : Int)) (at_nat hi2) ?_
        walk_at "rd"
        refine r_ite (fun y => ?_) (fun y => ?_)
        · have y' := of_decide_eq_true y
          refine r_ite (fun _ => ?_) (fun z => absurd z (by decide))
          walk_at "rd"
          exact no (.inl (by omega))
        · have y' := of_decide_eq_false y
          walk_at "rd"
          refine r_ite (fun x => ?_) (fun x => ?_)
          · rw [Bool.not_eq_true', ← Bool.not_eq_true, within_iff] at x
            refine r_ite (fun _ => ?_) (fun z => absurd z (by decide))
            walk_at "rd"
            exact no (.inr (.inl (by unfold Drum.WORDS at *; omega)))
          · rw [Bool.not_eq_false', within_iff] at x
            walk_at "rd"
            refine r_ite (fun u => ?_) (fun u => ?_)
            · have u' := of_decide_eq_true u
              refine r_ite (fun _ => ?_) (fun z => absurd z (by decide))
              walk_at "rd"
              exact no (.inr (.inr (.inr u')))
            · have u' := of_decide_eq_false u
              walk_at "rd"
              refine r_ite (fun t => ?_) (fun t => ?_)
              · rw [Bool.not_eq_true'] at t
                walk_at "rd"
                exact no (.inr (.inr (.inl t)))
              · rw [Bool.not_eq_false'] at t
                have good : ¬ badPair (ends (ns.take (2 * i)) 0) (ns.getD (2 * i) 0) (ns.getD (2 * i + 1) 0) := by
                  rintro (h | h | h | h)
                  · omega
                  · omega
                  · rw [t] at h; cases h
                  · exact u' h
                walk_at "rd"
                refine ⟨rfl, z ++ [((ns.getD (2 * i) 0).toNat, ns.getD (2 * i + 1) 0)], some (.int ((2 * i : Nat) : Int)), some (.int (ns.getD (2 * i) 0)), some (.int (ns.getD (2 * i + 1) 0)), ?_, ?_⟩
                · rw [take_pair hi2]
                  exact noted_pair hz good
                · rw [take_pair hi2, ends_pair (take_even (by omega)), Int.add_sub_cancel]
                  rfl
      · rintro σ H' ⟨rfl, z, v1, v2, v3, hz, rfl⟩
        walk_at "rd"
        refine bl_of ?_ k
        rw [List.take_of_length_le (by omega)] at hz
        rw [hz]
        rfl
def sp_are_values (K : PySem.W.Frag) (a : Ad) : Sp := fun vs H Q _ => ∃ (st : Int) (ov : Int) (n : Int) (t : Int) (x : Int) (y : Int), vs = [.int st, .int ov, .int n, .int t, .int x, .int y] ∧ Q (.bl (DrumMachineSeed.within st 7 && (DrumMachineSeed.within ov 2 && (DrumMachineSeed.within n Drum.WORDS && (DrumMachineSeed.within t Drum.WRAP && (Drum.isLong x && Drum.isWord y)))))) H
theorem r_are_values {K : PySem.W.Frag} {a : Ad} {H : Hp} {Q : VK} {E : XK} {st : Int} {ov : Int} {n : Int} {t : Int} {x : Int} {y : Int}  (q : Q (.bl (DrumMachineSeed.within st 7 && (DrumMachineSeed.within ov 2 && (DrumMachineSeed.within n Drum.WORDS && (DrumMachineSeed.within t Drum.WRAP && (Drum.isLong x && Drum.isWord y)))))) H) : sp_are_values K a ([.int st, .int ov, .int n, .int t, .int x, .int y] ++ []) H Q E := ⟨st, ov, n, t, x, y, rfl, q⟩
local macro_rules | `(tactic| walk_at "rd2") => `(tactic| with_reducible refine r_are_values ?_)
theorem ok_are_values (T : Txt K mg a d) : FnOk P w K mg base CX0 2 a.are_values d.are_values ["state", "over", "n", "t", "a", "d"] (sp_are_values K a) := by
  refine T.F_are_values.ok sc_are_values (fun vs H Q E h => ?_) (fun cdv A outer s H vs Q E hr h => ?_)
  · obtain ⟨st, ov, n, t, x, y, rfl, k⟩ := h
    rfl
  · obtain ⟨st, ov, n, t, x, y, rfl, k⟩ := h
    refine ⟨_, (pss_cons (ps_if (PW.pt (pw_or (pt_not (pt_chain op_le op_le pe_int (pv 0) (pe_gi T.c_LAST_STATE))) (pw_or1 (pt_not (pt_chain op_le op_le pe_int (pv 1) pe_int)))))
        (pss_one (ps_ret pe_bl))
        pss_nil)
      (pss_one (ps_ret (pe_and (pe_call (ok_is_address T) (hr.mono (by decide)) rfl T.G_is_address T.F_is_address.kp T.B_is_address .nil pass0 (pa_cons (pv 2) pa_nil)) (pe_and (pe_call (ok_is_tick T) (hr.mono (by decide)) rfl T.G_is_tick T.F_is_tick.kp T.B_is_tick .nil pass0 (pa_cons (pv 3) pa_nil)) (pe_and (pe_call (ok_is_long T) (hr.mono (by decide)) rfl T.G_is_long T.F_is_long.kp T.B_is_long .nil pass0 (pa_cons (pv 4) pa_nil)) (pe_one (pe_call (ok_is_word T) (hr.mono (by decide)) rfl T.G_is_word T.F_is_word.kp T.B_is_word .nil pass0 (pa_cons (pv 5) pa_nil))))))))), ?_⟩
    try dsimp only [cxOf]
    have s7 : DrumMachineSeed.within st 7 = (decide (0 ≤ st) && decide (st ≤ 6)) := by
      unfold DrumMachineSeed.within
      apply Bool.eq_iff_iff.mpr
      simp only [Bool.and_eq_true, decide_eq_true_eq]
      omega
    have s2 : DrumMachineSeed.within ov 2 = (decide (0 ≤ ov) && decide (ov ≤ 1)) := by
      unfold DrumMachineSeed.within
      apply Bool.eq_iff_iff.mpr
      simp only [Bool.and_eq_true, decide_eq_true_eq]
      omega
    walk_at "rd"
    refine r_ite (fun c1 => ?_) (fun c1 => ?_)
    · walk_at "rd"
      refine r_ite (fun c2 => ?_) (fun c2 => ?_)
      · rw [Bool.not_eq_true'] at c2
        have w1 : DrumMachineSeed.within st 7 = false := by rw [s7, c1, c2]; rfl
        refine r_ite (fun _ => ?_) (fun z => absurd z (by decide))
        walk_at "rd"
        refine bl_of ?_ k
        rw [w1]
        rfl
      · rw [Bool.not_eq_false'] at c2
        have w1 : DrumMachineSeed.within st 7 = true := by rw [s7, c1, c2]; rfl
        walk_at "rd"
        refine r_ite (fun c3 => ?_) (fun c3 => ?_)
        · walk_at "rd"
          refine r_ite (fun c4 => ?_) (fun c4 => ?_)
          · rw [Bool.not_eq_true'] at c4
            have w2 : DrumMachineSeed.within ov 2 = false := by rw [s2, c3, c4]; rfl
            walk_at "rd"
            refine bl_of ?_ k
            rw [w1, w2]
            rfl
          · rw [Bool.not_eq_false'] at c4
            have w2 : DrumMachineSeed.within ov 2 = true := by rw [s2, c3, c4]; rfl
            walk_at "rd"
            refine r_ite (fun c5 => ?_) (fun c5 => ?_)
            · walk_at "rd"
              refine r_ite (fun c6 => ?_) (fun c6 => ?_)
              · walk_at "rd"
                refine r_ite (fun c7 => ?_) (fun c7 => ?_)
                · walk_at "rd"
                  refine bl_of ?_ k
                  rw [w1, w2, c5, c6, c7]
                  rfl
                · refine bl_of ?_ k
                  rw [w1, w2, c5, c6, c7]
                  rfl
              · refine bl_of ?_ k
                rw [w1, w2, c5, c6]
                rfl
            · refine bl_of ?_ k
              rw [w1, w2, c5]
              rfl
        · have w2 : DrumMachineSeed.within ov 2 = false := by rw [s2, c3]; rfl
          walk_at "rd"
          refine r_ite (fun _ => ?_) (fun z => absurd z (by decide))
          walk_at "rd"
          refine bl_of ?_ k
          rw [w1, w2]
          rfl
    · have w1 : DrumMachineSeed.within st 7 = false := by rw [s7, c1]; rfl
      walk_at "rd"
      refine r_ite (fun _ => ?_) (fun z => absurd z (by decide))
      refine r_ite (fun _ => ?_) (fun z => absurd z (by decide))
      walk_at "rd"
      refine bl_of ?_ k
      rw [w1]
      rfl
def sp_drum_of (K : PySem.W.Frag) (a : Ad) : Sp := fun vs H Q _ => ∃ (w : Addr) (ns : List Int) (z : List (Nat × Int)), vs = [.ref w] ∧ H w = some (.lst (ns.map V.int)) ∧ ns.length < 10000000 ∧ DrumMachineSeed.noted ns 0 = some z ∧ ∀ (H' : Hp) (q : Addr), H q = none → H' q = some (.lst ((DrumMachineSeed.drumOf z).map V.int)) → Same H H' → Q (.ref q) H'
theorem drumOf_len (z : List (Nat × Int)) : (DrumMachineSeed.drumOf z).length = 2000 := by
  unfold DrumMachineSeed.drumOf
  have : ∀ (z : List (Nat × Int)) (l : List Int), (z.foldl (fun (d : List Int) (u : Nat × Int) => d.set u.1 u.2) l).length = l.length := by
    intro z
    induction z with
    | nil => intro l; rfl
    | cons x r ih => intro l; rw [List.foldl_cons, ih, List.length_set]
  rw [this, List.length_replicate]
  rfl
theorem ok_drum_of (T : Txt K mg a d) : FnOk P w K mg base CX0 1 a.drum_of d.drum_of ["numbers"] (sp_drum_of K a) := by
  refine T.F_drum_of.ok sc_drum_of (fun vs H Q E h => ?_) (fun cdv A outer s H vs Q E hr h => ?_)
  · obtain ⟨wa, ns, z0, rfl, hw, hlen, hz0, k⟩ := h
    rfl
  · obtain ⟨wa, ns, z0, rfl, hw, hlen, hz0, k⟩ := h
    refine ⟨_, (pss_cons (ps_set (i := 1) sc_drum_of.nd rfl (Or.inl rfl) (pe_op op_rep (pe_lst (pa_cons pe_int pa_nil)) (pe_gi T.c_DRUM_SIZE)))
      (pss_cons (ps_for PassesOwn.never rfl (pi_range3 rfl T.b_range (pa_cons pe_int (pa_cons (pe_callB call_len_seq (by rfl) T.b_len PySem.boot_len (pa_cons (pv 0) pa_nil)) (pa_cons pe_int pa_nil)))) (pg_name (i := 2) sc_drum_of.nd rfl (Or.inl rfl))
        (pss_one (ps_asg (pe_ix ix_list (pv 0) (pe_op op_add (pv 2) pe_int) (fun _ _ => rfl)) (pg_sub (pv 1) (pe_ix ix_list (pv 0) (pv 2) (fun _ _ => rfl)) set_list))))
      (pss_one (ps_ret (pv 1))))), ?_⟩
    try dsimp only [cxOf]
    have ev := noted_even hz0
    walk_at "rd"
    refine r_newL rfl (fun l1 h1 => ?_)
    walk_at "rd"
    refine ⟨l1, 2000, _, rfl, rfl, upd_same, by decide, by decide, by decide, fun g hg => ?_⟩
    have s1 := Same.upd_new (o := .lst [V.int 0]) h1
    have s2 := s1.trans (Same.upd_new (o := .lst (List.replicate (Int.toNat 2000) [V.int 0]).flatten) hg)
    have hgH : H g = none := s1.free hg
    have nwg : wa ≠ g := ne_of_none hw hgH
    walk_at "rd"
    refine r_len (SqL.of (s2 _ _ hw)) ?_
    walk_at "rd"
    rw [List.length_map]
    refine ⟨_, _, _, _, rfl, rg_two (by omega), ?_⟩
    refine for_rangeCN (fun i σ H' => ∃ z v1, DrumMachineSeed.noted (ns.take (2 * i)) 0 = some z ∧ σ = [some (.ref wa), some (.ref g), v1] ∧ H' g = some (.lst ((DrumMachineSeed.drumOf z).map V.int)) ∧ Same H H') ⟨[], _, rfl, rfl, by rw [upd_same]; rfl, s2⟩ ?_ ?_
    · rintro i σ H' hi ⟨z, v1, hz, rfl, h2, h3⟩
      have hi2 : 2 * i + 1 < ns.length := by omega
      have ge := ends_ge hz
      have sp := split_pair hi2
      have good : ¬ badPair (ends (ns.take (2 * i)) 0) (ns.getD (2 * i) 0) (ns.getD (2 * i + 1) 0) := fun hb => by
        rw [sp, noted_pair_bad hz hb] at hz0
        cases hz0
      have g1 : ¬ ns.getD (2 * i) 0 < ends (ns.take (2 * i)) 0 := fun q => good (.inl q)
      have g2 : ¬ ((Drum.WORDS : Nat) : Int) ≤ ns.getD (2 * i) 0 := fun q => good (.inr (.inl q))
      have e1 : (0 : Int) + ((i : Nat) : Int) * 2 = ((2 * i : Nat) : Int) := by omega
      walk_at "rd"
      rw [e1]
      refine r_ixL (SqL.of (h3 _ _ hw)) (i := ((2 * i + 1 : Nat) : Int)) (at_nat hi2) ?_
      walk_at "rd"
      refine r_ixL (SqL.of (h3 _ _ hw)) (at_nat (by omega)) ?_
      walk_at "rd"
      refine r_setL h2 (ixN_in (by omega) (by rw [List.length_map, drumOf_len]; unfold Drum.WORDS at g2; omega)) ?_
      refine ⟨z ++ [((ns.getD (2 * i) 0).toNat, ns.getD (2 * i + 1) 0)], _, ?_, rfl, ?_, fun b o e => ?_⟩
      · rw [take_pair hi2]
        exact noted_pair hz good
      · rw [upd_same, map_set, drumOf_snoc]
      · rw [upd_ne (ne_of_none e hgH)]
        exact h3 _ _ e
    · rintro σ H' ⟨z, v1, hz, rfl, h2, h3⟩
      rw [List.take_of_length_le (by omega), hz0] at hz
      cases hz
      walk_at "rd"
      exact k H' g hgH h2 h3
def sp_load (K : PySem.W.Frag) (a : Ad) : Sp := fun vs H Q _ => ∃ (p l w : Addr) (m : Drum.Machine) (st ov n t x y : Int) (ns : List Int), vs = [.ref p, .int st, .int ov, .int n, .int t, .int x, .int y, .ref w] ∧ MachAt a H p m l ∧ H w = some (.lst (ns.map V.int)) ∧ l ≠ w ∧ ns.length < 10000000 ∧ Ans a H p m l (.load st ov n t x y ns) Q
theorem ok_load (T : Txt K mg a d) : FnOk P w K mg base CX0 3 a.load d.load ["machine", "state", "over", "n", "t", "a", "d", "numbers"] (sp_load K a) := by
  refine T.F_load.ok sc_load (fun vs H Q E h => ?_) (fun cdv A outer s H vs Q E hr h => ?_)
  · obtain ⟨p, l, wa, m, st, ov, n, t, x, y, ns, rfl, M, hw, nlw, hlen, k⟩ := h
    rfl
  · obtain ⟨p, l, wa, m, st, ov, n, t, x, y, ns, rfl, M, hw, nlw, hlen, k⟩ := h
    refine ⟨_, (pss_cons (ps_if (pt_not (pt_val (pe_call (ok_are_values T) (hr.mono (by decide)) rfl T.G_are_values T.F_are_values.kp T.B_are_values .nil pass0 (pa_cons (pv 1) (pa_cons (pv 2) (pa_cons (pv 3) (pa_cons (pv 4) (pa_cons (pv 5) (pa_cons (pv 6) pa_nil)))))))))
        (pss_one (ps_ret (pe_lst (pa_cons (pe_gi T.c_NOT_GRANTED) pa_nil))))
        pss_nil)
      (pss_cons (ps_if (pt_not (pt_val (pe_call (ok_is_drum_form T) (hr.mono (by decide)) rfl T.G_is_drum_form T.F_is_drum_form.kp T.B_is_drum_form .nil pass0 (pa_cons (pv 7) pa_nil))))
        (pss_one (ps_ret (pe_lst (pa_cons (pe_gi T.c_NOT_OF_THE_FORM) pa_nil))))
        pss_nil)
      (pss_cons (ps_fld (pv 0) (pv 1) rfl)
      (pss_cons (ps_fld (pv 0) (pv 2) rfl)
      (pss_cons (ps_fld (pv 0) (pv 3) rfl)
      (pss_cons (ps_fld (pv 0) (pv 4) rfl)
      (pss_cons (ps_fld (pv 0) (pv 5) rfl)
      (pss_cons (ps_fld (pv 0) (pv 6) rfl)
      (pss_cons (ps_fld (pv 0) (pe_call (ok_drum_of T) (hr.mono (by decide)) rfl T.G_drum_of T.F_drum_of.kp T.B_drum_of .nil pass0 (pa_cons (pv 7) pa_nil)) rfl)
      (pss_one (ps_ret (pe_lst (pa_cons (pe_gi T.c_DONE) pa_nil))))))))))))), ?_⟩
    try dsimp only [cxOf]
    obtain ⟨dy, op⟩ := M.ob
    have nwp : wa ≠ p := ne_of hw op (by intro z; cases z)
    have es : DrumMachineSeed.step m (.load st ov n t x y ns) = if (DrumMachineSeed.within st 7 && (DrumMachineSeed.within ov 2 && (DrumMachineSeed.within n Drum.WORDS && (DrumMachineSeed.within t Drum.WRAP && (Drum.isLong x && Drum.isWord y))))) = true then (match DrumMachineSeed.noted ns 0 with
          | some z => (⟨DrumMachineSeed.drumOf z, x, y, ov == 1, t.toNat, n.toNat, st.toNat⟩, DrumMachineSeed.tells [])
          | none => (m, DrumMachineSeed.no 6)) else (m, DrumMachineSeed.no 1) := rfl
    walk_at "rd"
    refine r_ite (fun c => ?_) (fun c => ?_)
    · rw [Bool.not_eq_true'] at c
      have e := es.trans (if_neg (by rw [c]; exact Bool.false_ne_true))
      walk_at "rd"
      refine r_newL rfl (fun q hq => ?_)
      exact k.plain M hq (by rw [e]) (by rw [e]; rfl)
    · rw [Bool.not_eq_false'] at c
      rw [if_pos c] at es
      simp only [Bool.and_eq_true, within_iff] at c
      obtain ⟨c1, c2, c3, c4, c5, c6⟩ := c
      walk_at "rd"
      refine ⟨wa, ns, rfl, hw, hlen, ?_⟩
      walk_at "rd"
      cases hz : DrumMachineSeed.noted ns 0 with
      | none =>
        rw [hz] at es
        refine r_ite (fun _ => ?_) (fun z => absurd z (by decide))
        walk_at "rd"
        refine r_newL rfl (fun q hq => ?_)
        exact k.plain M hq (by rw [es]) (by rw [es]; rfl)
      | some z =>
        rw [hz] at es
        refine r_ite (fun z => absurd z (by simp)) (fun _ => ?_)
        walk_at "rd"
        refine r_sState T M st.toNat (by omega) (fun H1 M1 K1 => ?_)
        walk_at "rd"
        refine r_sOver T M1 (ov == 1) ?_ (fun H2 M2 K2 => ?_)
        · unfold DrumMachineSeed.flag
          by_cases h : ov = 1
          · rw [h]; rfl
          · rw [if_neg (by simpa using h)]
            omega
        walk_at "rd"
        refine r_sN T M2 n.toNat (by omega) (fun H3 M3 K3 => ?_)
        walk_at "rd"
        refine r_sT T M3 t.toNat (by omega) (fun H4 M4 K4 => ?_)
        walk_at "rd"
        refine r_sA T M4 x rfl (fun H5 M5 K5 => ?_)
        walk_at "rd"
        refine r_sD T M5 y rfl (fun H6 M6 K6 => ?_)
        have K7 := K1.trans (K2.trans (K3.trans (K4.trans (K5.trans K6))))
        walk_at "rd"
        refine ⟨wa, ns, z, rfl, K7 _ _ hw nwp nlw.symm, hlen, hz, fun H7 q hq hq1 s7 => ?_⟩
        have M7 := M6.same s7
        obtain ⟨dz, oz⟩ := M7.ob
        walk_at "rd"
        refine r_sfld oz T.cl_Machine T.n_Machine_drum len_Machine pf_Machine_drum ?_
        walk_at "rd"
        refine r_newL rfl (fun r hr => ?_)
        have npq : p ≠ q := ne_of oz hq1 (by intro z; cases z)
        have s8 := Same.upd_new (o := .lst [V.int 0]) hr
        have hqH : H q = none := K7.free M6 hq
        refine k _ r q ?_ ?_ (.inr hqH) ?_ ?_
        · rw [upd_ne (fun e => by rw [e, upd_same] at hr; cases hr)] at hr
          exact (K7.trans (Keep.same s7)).free M7 hr
        · rw [es]
          exact ⟨⟨dz, s8 _ _ upd_same⟩, s8 _ _ (by rw [upd_ne npq.symm]; exact hq1)⟩
        · rw [es, upd_same]
          rfl
        · intro b o e n1 n2
          refine s8 _ _ ?_
          rw [upd_ne n1]
          exact s7 _ _ (K7 b o e n1 n2)
end
local macro_rules | `(tactic| walk_at "rd2") => `(tactic| with_reducible refine r_are_values ?_)
section
variable {P : Program} {w : World} {K : PySem.W.Frag} {mg : Str → Option Value} {base : Heap} {a : Ad} {d : Fds}
def sp_answer_one (K : PySem.W.Frag) (a : Ad) : Sp := fun vs H Q _ => ∃ (p l r w : Addr) (m : Drum.Machine) (c : DrumMachineSeed.Call), vs = [.ref p, .int (numOf c), .ref r, .ref w] ∧ MachAt a H p m l ∧ WF m ∧ H r = some (.lst ((argsOf c).map V.int)) ∧ H w = some (.lst ((numsOf c).map V.int)) ∧ l ≠ w ∧ (numsOf c).length < 10000000 ∧ Ans a H p m l c Q
theorem ok_answer_one (T : Txt K mg a d) : FnOk P w K mg base CX0 10 a.answer_one d.answer_one ["machine", "call", "arguments", "numbers"] (sp_answer_one K a) := by
  refine T.F_answer_one.ok sc_answer_one (fun vs H Q E h => ?_) (fun cdv A outer s H vs Q E hr h => ?_)
  · obtain ⟨p, l, r, wa, m, c, rfl, M, W, hr2, hw, nlw, hlen, k⟩ := h
    rfl
  · obtain ⟨p, l, r, wa, m, c, rfl, M, W, hr2, hw, nlw, hlen, k⟩ := h
    refine ⟨_, (pss_cons (ps_if (pt_cmpR op_eq (pv 1) (pe_gi T.c_NEW) (nomark _))
        (pss_one (ps_ret (pe_call (ok_new T) (hr.mono (by decide)) rfl T.G_new T.F_new.kp T.B_new .nil pass0 (pa_cons (pv 0) (pa_cons (pe_ix ix_list (pv 2) pe_int (fun _ _ => rfl)) pa_nil)))))
        pss_nil)
      (pss_cons (ps_if (pt_cmpR op_eq (pv 1) (pe_gi T.c_POKE) (nomark _))
        (pss_one (ps_ret (pe_call (ok_poke T) (hr.mono (by decide)) rfl T.G_poke T.F_poke.kp T.B_poke .nil pass0 (pa_cons (pv 0) (pa_cons (pe_ix ix_list (pv 2) pe_int (fun _ _ => rfl)) (pa_cons (pe_ix ix_list (pv 2) pe_int (fun _ _ => rfl)) pa_nil))))))
        pss_nil)
      (pss_cons (ps_if (pt_cmpR op_eq (pv 1) (pe_gi T.c_PEEK) (nomark _))
        (pss_one (ps_ret (pe_call (ok_peek T) (hr.mono (by decide)) rfl T.G_peek T.F_peek.kp T.B_peek .nil pass0 (pa_cons (pv 0) (pa_cons (pe_ix ix_list (pv 2) pe_int (fun _ _ => rfl)) pa_nil)))))
        pss_nil)
      (pss_cons (ps_if (pt_cmpR op_eq (pv 1) (pe_gi T.c_TOLD) (nomark _))
        (pss_one (ps_ret (pe_call (ok_told T) (hr.mono (by decide)) rfl T.G_told T.F_told.kp T.B_told .nil pass0 (pa_cons (pv 0) pa_nil))))
        pss_nil)
      (pss_cons (ps_if (pt_cmpR op_eq (pv 1) (pe_gi T.c_RUN) (nomark _))
        (pss_one (ps_ret (pe_call (ok_run T) (hr.mono (by decide)) rfl T.G_run T.F_run.kp T.B_run .nil pass0 (pa_cons (pv 0) (pa_cons (pe_ix ix_list (pv 2) pe_int (fun _ _ => rfl)) (pa_cons (pe_ix ix_list (pv 2) pe_int (fun _ _ => rfl)) (pa_cons (pv 3) pa_nil)))))))
        pss_nil)
      (pss_cons (ps_if (pt_cmpR op_eq (pv 1) (pe_gi T.c_ORDER) (nomark _))
        (pss_one (ps_ret (pe_call (ok_order T) (hr.mono (by decide)) rfl T.G_order T.F_order.kp T.B_order .nil pass0 (pa_cons (pe_ix ix_list (pv 2) pe_int (fun _ _ => rfl)) pa_nil))))
        pss_nil)
      (pss_cons (ps_if (pt_cmpR op_eq (pv 1) (pe_gi T.c_DRUM) (nomark _))
        (pss_one (ps_ret (pe_call (ok_drum T) (hr.mono (by decide)) rfl T.G_drum T.F_drum.kp T.B_drum .nil pass0 (pa_cons (pv 0) pa_nil))))
        pss_nil)
      (pss_one (ps_ret (pe_call (ok_load T) (hr.mono (by decide)) rfl T.G_load T.F_load.kp T.B_load .nil pass0 (pa_cons (pv 0) (pa_cons (pe_ix ix_list (pv 2) pe_int (fun _ _ => rfl)) (pa_cons (pe_ix ix_list (pv 2) pe_int (fun _ _ => rfl)) (pa_cons (pe_ix ix_list (pv 2) pe_int (fun _ _ => rfl)) (pa_cons (pe_ix ix_list (pv 2) pe_int (fun _ _ => rfl)) (pa_cons (pe_ix ix_list (pv 2) pe_int (fun _ _ => rfl)) (pa_cons (pe_ix ix_list (pv 2) pe_int (fun _ _ => rfl)) (pa_cons (pv 3) pa_nil)))))))))))))))))), ?_⟩
    try dsimp only [cxOf]
    cases c with
    | new s =>
      dsimp only [numOf, argsOf, numsOf] at *
      walk_at "rd"
      refine r_ite (fun _ => ?_) (fun z => absurd z (by decide))
      walk_at "rd"
      refine r_ixL (v := .int s) (SqL.of hr2) rfl ?_
      walk_at "rd"
      exact ⟨p, l, m, s, rfl, M, k⟩
    | poke x v =>
      dsimp only [numOf, argsOf, numsOf] at *
      walk_at "rd"
      refine r_ite (fun z => absurd z (by decide)) (fun _ => ?_)
      walk_at "rd"
      refine r_ite (fun _ => ?_) (fun z => absurd z (by decide))
      walk_at "rd"
      refine r_ixL (v := .int x) (SqL.of hr2) rfl ?_
      walk_at "rd"
      refine r_ixL (v := .int v) (SqL.of hr2) rfl ?_
      walk_at "rd"
      exact ⟨p, l, m, x, v, rfl, M, W, k⟩
    | peek x =>
      dsimp only [numOf, argsOf, numsOf] at *
      walk_at "rd"
      refine r_ite (fun z => absurd z (by decide)) (fun _ => ?_)
      walk_at "rd"
      refine r_ite (fun z => absurd z (by decide)) (fun _ => ?_)
      walk_at "rd"
      refine r_ite (fun _ => ?_) (fun z => absurd z (by decide))
      walk_at "rd"
      refine r_ixL (v := .int x) (SqL.of hr2) rfl ?_
      walk_at "rd"
      exact ⟨p, l, m, x, rfl, M, W, k⟩
    | told =>
      dsimp only [numOf, argsOf, numsOf] at *
      walk_at "rd"
      refine r_ite (fun z => absurd z (by decide)) (fun _ => ?_)
      walk_at "rd"
      refine r_ite (fun z => absurd z (by decide)) (fun _ => ?_)
      walk_at "rd"
      refine r_ite (fun z => absurd z (by decide)) (fun _ => ?_)
      walk_at "rd"
      refine r_ite (fun _ => ?_) (fun z => absurd z (by decide))
      walk_at "rd"
      exact ⟨p, l, m, rfl, M, k⟩
    | run o t ws =>
      dsimp only [numOf, argsOf, numsOf] at *
      walk_at "rd"
      refine r_ite (fun z => absurd z (by decide)) (fun _ => ?_)
      walk_at "rd"
      refine r_ite (fun z => absurd z (by decide)) (fun _ => ?_)
      walk_at "rd"
      refine r_ite (fun z => absurd z (by decide)) (fun _ => ?_)
      walk_at "rd"
      refine r_ite (fun z => absurd z (by decide)) (fun _ => ?_)
      walk_at "rd"
      refine r_ite (fun _ => ?_) (fun z => absurd z (by decide))
      walk_at "rd"
      refine r_ixL (v := .int o) (SqL.of hr2) rfl ?_
      walk_at "rd"
      refine r_ixL (v := .int t) (SqL.of hr2) rfl ?_
      walk_at "rd"
      exact ⟨p, l, wa, m, o, t, ws, rfl, M, W, hw, nlw, k⟩
    | order v =>
      dsimp only [numOf, argsOf, numsOf] at *
      walk_at "rd"
      refine r_ite (fun z => absurd z (by decide)) (fun _ => ?_)
      walk_at "rd"
      refine r_ite (fun z => absurd z (by decide)) (fun _ => ?_)
      walk_at "rd"
      refine r_ite (fun z => absurd z (by decide)) (fun _ => ?_)
      walk_at "rd"
      refine r_ite (fun z => absurd z (by decide)) (fun _ => ?_)
      walk_at "rd"
      refine r_ite (fun z => absurd z (by decide)) (fun _ => ?_)
      walk_at "rd"
      refine r_ite (fun _ => ?_) (fun z => absurd z (by decide))
      walk_at "rd"
      refine r_ixL (v := .int v) (SqL.of hr2) rfl ?_
      walk_at "rd"
      exact ⟨v, rfl, fun H1 q hq e s => k H1 q l hq (M.same s) (.inl rfl) e fun b o h _ _ => s b o h⟩
    | drum =>
      dsimp only [numOf, argsOf, numsOf] at *
      walk_at "rd"
      refine r_ite (fun z => absurd z (by decide)) (fun _ => ?_)
      walk_at "rd"
      refine r_ite (fun z => absurd z (by decide)) (fun _ => ?_)
      walk_at "rd"
      refine r_ite (fun z => absurd z (by decide)) (fun _ => ?_)
      walk_at "rd"
      refine r_ite (fun z => absurd z (by decide)) (fun _ => ?_)
      walk_at "rd"
      refine r_ite (fun z => absurd z (by decide)) (fun _ => ?_)
      walk_at "rd"
      refine r_ite (fun z => absurd z (by decide)) (fun _ => ?_)
      walk_at "rd"
      refine r_ite (fun _ => ?_) (fun z => absurd z (by decide))
      walk_at "rd"
      exact ⟨p, l, m, rfl, M, W, k⟩
    | load st ov n t x y ns =>
      dsimp only [numOf, argsOf, numsOf] at *
      walk_at "rd"
      refine r_ite (fun z => absurd z (by decide)) (fun _ => ?_)
      walk_at "rd"
      refine r_ite (fun z => absurd z (by decide)) (fun _ => ?_)
      walk_at "rd"
      refine r_ite (fun z => absurd z (by decide)) (fun _ => ?_)
      walk_at "rd"
      refine r_ite (fun z => absurd z (by decide)) (fun _ => ?_)
      walk_at "rd"
      refine r_ite (fun z => absurd z (by decide)) (fun _ => ?_)
      walk_at "rd"
      refine r_ite (fun z => absurd z (by decide)) (fun _ => ?_)
      walk_at "rd"
      refine r_ite (fun z => absurd z (by decide)) (fun _ => ?_)
      walk_at "rd"
      refine r_ixL (v := .int st) (SqL.of hr2) rfl ?_
      walk_at "rd"
      refine r_ixL (v := .int ov) (SqL.of hr2) rfl ?_
      walk_at "rd"
      refine r_ixL (v := .int n) (SqL.of hr2) rfl ?_
      walk_at "rd"
      refine r_ixL (v := .int t) (SqL.of hr2) rfl ?_
      walk_at "rd"
      refine r_ixL (v := .int x) (SqL.of hr2) rfl ?_
      walk_at "rd"
      refine r_ixL (v := .int y) (SqL.of hr2) rfl ?_
      walk_at "rd"
      exact ⟨p, l, wa, m, st, ov, n, t, x, y, ns, rfl, M, hw, nlw, hlen, k⟩
def sp_answers (K : PySem.W.Frag) (a : Ad) : Sp := fun vs H Q _ => ∃ (ca : Addr) (xs : List DrumMachineSeed.Call), vs = [.ref ca] ∧ SqL K H ca ((xs.flatMap flat).map V.int) ∧ (xs.flatMap flat).length ≤ 14000 ∧ (outs DrumMachineSeed.start xs).length ≤ 10000000 ∧
  ∀ (H' : Hp) (q : Addr), H' q = some (.lst ((outs DrumMachineSeed.start xs).map V.int)) → Q (.ref q) H'
theorem cut_map {l pre mid post : List Int} {i j : Int} (e : l = pre ++ (mid ++ post)) (hi : i = (pre.length : Int)) (hj : j = ((pre.length + mid.length : Nat) : Int)) : cutV (l.map V.int) (some i) (some j) = mid.map V.int := by
  subst hi hj e
  unfold cutV
  rw [HT.sIx_nat, HT.sIx_nat, List.length_map, List.length_append, List.length_append, Nat.min_eq_left (by omega), Nat.min_eq_left (by omega), Nat.add_sub_cancel_left, List.map_append, List.map_append, List.drop_append_of_le_length (by rw [List.length_map]; omega)]
  rw [show List.drop pre.length (pre.map V.int) = [] from List.drop_of_length_le (by rw [List.length_map]; omega), List.nil_append, List.take_append_of_le_length (by rw [List.length_map]; omega)]
  exact List.take_of_length_le (by rw [List.length_map]; omega)
theorem at_cons {l pre post : List Int} {c i : Int} (e : l = pre ++ (c :: post)) (hi : i = (pre.length : Int)) : atI (l.map V.int) i = some (.int c) := by
  subst hi e
  refine atI_nat ?_
  rw [List.getElem?_map, List.getElem?_append_right (Nat.le_refl _), Nat.sub_self]
  rfl
theorem arg_count (c : DrumMachineSeed.Call) : valV kv_ARGUMENT_COUNTS (Sum.inl (numOf c)) = some (.int ((argsOf c).length : Int)) := by
  cases c <;> rfl
theorem in_listed (c : DrumMachineSeed.Call) : inV (.int (numOf c)) [V.int 5, V.int 8] = listed c := by
  cases c <;> (dsimp only [numOf, listed]; decide)
theorem wf_start : WF DrumMachineSeed.start := wf_new (by decide)
/-- what holds between two calls -/
structure Loop (a : Ad) (ca p g : Addr) (H0 : Hp) (σ : L2.St) (H : Hp) (dn : List DrumMachineSeed.Call) : Prop where
  sg : ∃ v4 v5 v6 v7 v8 v9, σ = [some (.ref ca), some (.ref p), some (.ref g), some (.int ((dn.flatMap flat).length : Int)), v4, v5, v6, v7, v8, v9]
  gv : H g = some (.lst ((outs DrumMachineSeed.start dn).map V.int))
  ma : ∃ l, MachAt a H p (after DrumMachineSeed.start dn) l ∧ l ≠ g ∧ H0 l = none
  np : p ≠ g
  fr : Same H0 H
  ng : H0 g = none
  nq : H0 p = none
theorem ok_answers (T : Txt K mg a d) : FnOk P w K mg base CX0 11 a.answers d.answers ["calls"] (sp_answers K a) := by
  refine T.F_answers.ok sc_answers (fun vs H Q E h => ?_) (fun cdv A outer s H vs Q E hr h => ?_)
  · obtain ⟨ca, xs, rfl, hS, hM, hL, k⟩ := h
    rfl
  · obtain ⟨ca, xs, rfl, hS, hM, hL, k⟩ := h
    refine ⟨_, (pss_cons (ps_set (i := 1) sc_answers.nd rfl (Or.inl rfl) (pe_make0 T.M_Machine (ok_Machine_init T) (hr.mono (by decide)) rfl T.G_Machine T.B_Machine_init .nil pass0))
      (pss_cons (ps_set (i := 2) sc_answers.nd rfl (Or.inl rfl) (pe_lst pa_nil))
      (pss_cons (ps_set (i := 3) sc_answers.nd rfl (Or.inl rfl) pe_int)
      (pss_cons (ps_while PassesOwn.never (pt_cmpR op_lt (pv 3) (pe_callB call_len_seq (by rfl) T.b_len PySem.boot_len (pa_cons (pv 0) pa_nil)) (nomark _))
        (pss_cons (ps_set (i := 4) sc_answers.nd rfl (Or.inl rfl) (pe_ix ix_list (pv 0) (pv 3) (fun _ _ => rfl)))
        (pss_cons (ps_set (i := 5) sc_answers.nd rfl (Or.inl rfl) (pe_op op_add (pe_op op_add (pv 3) pe_int) (pe_kget (pe_gr T.c_ARGUMENT_COUNTS) (pv 4) (fun _ _ => rfl))))
        (pss_cons (ps_set (i := 6) sc_answers.nd rfl (Or.inl rfl) (pe_slice sl_list (pv 0) (po_some (pe_op op_add (pv 3) pe_int)) (po_some (pv 5))))
        (pss_cons (ps_set (i := 7) sc_answers.nd rfl (Or.inl rfl) (pe_lst pa_nil))
        (pss_cons (ps_if (pt_cmpR op_in_seq (pv 4) (pe_gr T.c_CALLS_WITH_A_LIST) (by with_unfolding_all rfl))
          (pss_cons (ps_set (i := 8) sc_answers.nd rfl (Or.inl rfl) (pe_op op_add (pv 5) pe_int))
          (pss_cons (ps_set (i := 5) sc_answers.nd rfl (Or.inl rfl) (pe_op op_add (pv 8) (pe_ix ix_list (pv 0) (pv 5) (fun _ _ => rfl))))
          (pss_one (ps_set (i := 7) sc_answers.nd rfl (Or.inl rfl) (pe_slice sl_list (pv 0) (po_some (pv 8)) (po_some (pv 5)))))))
          pss_nil)
        (pss_cons (ps_set (i := 9) sc_answers.nd rfl (Or.inl rfl) (pe_call (ok_answer_one T) (hr.mono (by decide)) rfl T.G_answer_one T.F_answer_one.kp T.B_answer_one .nil pass0 (pa_cons (pv 1) (pa_cons (pv 4) (pa_cons (pv 6) (pa_cons (pv 7) pa_nil))))))
        (pss_cons (ps_expr (pe_bm PySem.F.plainAttrs_list PySem.F.slot_list_append PySem.F.type_list_append mt_append (pv 2) (pa_cons (pe_callB call_len_seq (by rfl) T.b_len PySem.boot_len (pa_cons (pv 9) pa_nil)) pa_nil)))
        (pss_cons (ps_expr (pe_bm PySem.F.plainAttrs_list PySem.F.slot_list_extend PySem.F.type_list_extend mt_extend (pv 2) (pa_cons (pv 9) pa_nil)))
        (pss_one (ps_set (i := 3) sc_answers.nd rfl (Or.inl rfl) (pv 5))))))))))))
      (pss_one (ps_ret (pv 2))))))), ?_⟩
    try dsimp only [cxOf]
    walk_at "rd"
    intro p dx hp hdx hne
    refine ⟨p, dx, rfl, upd_same, fun H1 l h1 h2 h3 h4 => ⟨rfl, ?_⟩⟩
    have s1 : Same H H1 := Same.made hp hdx h4
    walk_at "rd"
    refine ⟨Nat.zero_le _, fun g hg => ?_⟩
    walk_at "rd"
    have s2 : Same H (upd H1 g (.lst [])) := s1.trans (Same.upd_new hg)
    have M0 : MachAt a (upd H1 g (.lst [])) p (after DrumMachineSeed.start []) l := (MachAt.new (n := 0) (by decide) h2 h3).same (Same.upd_new hg)
    have npg : p ≠ g := ne_of_none h2 hg
    have nlg : l ≠ g := ne_of_none h3 hg
    have hl0 : H l = none := by
      cases z : H l with
      | none => rfl
      | some o => rw [upd_ne (ne_of_none z hp), upd_ne (ne_of_none z hdx), z] at h1; cases h1
    refine r_while (fun m σ H' => ∃ dn rest, xs = dn ++ rest ∧ m = rest.length ∧ Loop a ca p g H σ H' dn) xs.length ⟨[], xs, rfl, rfl, ⟨_, _, _, _, _, _, rfl⟩, upd_same, ⟨l, M0, nlg, hl0⟩, npg, s2, s1.free hg, hp⟩ ?_
    rintro m σ H2 ⟨dn, rest, hx, rfl, L⟩
    obtain ⟨v4, v5, v6, v7, v8, v9, rfl⟩ := L.sg
    have hS2 := L.fr.seq hS
    walk_at "rd"
    refine r_len hS2 ?_
    walk_at "rd"
    cases rest with
    | nil =>
      refine r_ite (fun c => ?_) (fun c => ?_)
      · exfalso
        rw [List.append_nil] at hx
        subst hx
        simp at c
      · walk_at "rd"
        refine k _ g ?_
        rw [List.append_nil] at hx
        rw [hx]
        exact L.gv
    | cons c rest =>
      refine r_ite (fun _ => ?_) (fun c2 => ?_)
      · have hmem : (flat c).length ≤ 14000 := by
          refine Nat.le_trans ?_ hM
          rw [hx, List.flatMap_append, List.flatMap_cons, List.length_append, List.length_append]
          omega
        refine r_turn (R := fun N => _) ?_
        cases hli : listed c with
        | false =>
          obtain ⟨hf, hn0⟩ := flat_plain hli
          have e0 : xs.flatMap flat = (dn.flatMap flat) ++ (numOf c :: (argsOf c ++ rest.flatMap flat)) := by
            rw [hx, List.flatMap_append, List.flatMap_cons, hf]
            rfl
          have e1 : xs.flatMap flat = (dn.flatMap flat ++ [numOf c]) ++ (argsOf c ++ rest.flatMap flat) := by
            rw [e0, List.append_assoc]
            rfl
          have hln : (numsOf c).length = 0 := by rw [hn0]; rfl
          walk_at "rd"
          refine r_ixL hS2 (at_cons e0 rfl) ?_
          walk_at "rd"
          refine r_kget T.k_ARGUMENT_COUNTS (arg_count c) ?_
          walk_at "rd"
          refine r_slL hS2 (fun r hr2 => ?_)
          walk_at "rd"
          rw [cut_map (mid := argsOf c) e1 (by rw [List.length_append]; simp) (by rw [List.length_append]; simp)]
          have sA : Same H2 (upd H2 r (.lst ((argsOf c).map V.int))) := Same.upd_new hr2
          refine ⟨Nat.zero_le _, fun w0 hw0 => ?_⟩
          have sC := sA.trans (Same.upd_new (o := .lst []) hw0)
          walk_at "rd"
          refine ⟨a.CALLS_WITH_A_LIST, _, rfl, .inr (T.k_CALLS_WITH_A_LIST.sq _), rfl, rfl, ?_⟩
          walk_at "rd"
          refine r_ite (fun z => ?_) (fun _ => ?_)
          · have z' : inV (.int (numOf c)) [V.int 5, V.int 8] = true := z
            rw [in_listed, hli] at z'
            cases z'
          walk_at "rd"
          have hrC := Same.upd_new (o := .lst []) hw0 _ _ (upd_same (H := H2) (a := r) (o := .lst ((argsOf c).map V.int)))
          have hwN : (upd H2 r (.lst ((argsOf c).map V.int))) w0 = none := hw0
          have hwC : (upd (upd H2 r (.lst ((argsOf c).map V.int))) w0 (.lst [])) w0 = some (.lst ((numsOf c).map V.int)) := by
            rw [upd_same, hn0]
            rfl
          obtain ⟨l2, M2, nl2, hl2⟩ := L.ma
          refine ⟨p, l2, r, w0, _, c, rfl, M2.same sC, after_wf wf_start dn, hrC, hwC, ne_of_none (by first | exact M2.dr | exact sA _ _ M2.dr | exact sB _ _ M2.dr) hwN, by omega, fun H3 q l3 hq M3 hl3 hq3 fr3 => ?_⟩
          have hg2 := sC _ _ L.gv
          have hg3 := fr3 g _ hg2 L.np.symm nl2.symm
          have nqg : q ≠ g := fun e => by rw [e, hg2] at hq; cases hq
          walk_at "rd"
          refine r_tyL hg3 ?_
          walk_at "rd"
          refine r_len (SqL.of hq3) ?_
          walk_at "rd"
          have lim : (outs DrumMachineSeed.start (dn ++ [c])).length ≤ 10000000 := by
            refine Nat.le_trans (outs_len_pre _ rest) ?_
            rw [List.append_assoc]
            show (outs _ (dn ++ (c :: rest))).length ≤ _
            rw [← hx]
            exact hL
          have lim2 := lim
          rw [outs_snoc, List.length_append, List.length_cons] at lim2
          have big : 10000000 < sizeLine := by decide
          refine r_append hg3 (by rw [List.length_map]; omega) ?_
          walk_at "rd"
          refine r_tyL upd_same ?_
          walk_at "rd"
          refine r_extend upd_same (by rw [upd_ne nqg]; exact hq3) (by rw [List.length_append, List.length_map, List.length_map, List.length_singleton]; omega) ?_
          walk_at "rd"
          rw [upd_upd]
          have M3' := M3
          rw [← after_snoc] at M3'
          have nl3 : l3 ≠ g := by
            rcases hl3 with e | e
            · rw [e]; exact nl2
            · intro z
              rw [z, hg2] at e
              cases e
          have hl3' : H l3 = none := by
            rcases hl3 with e | e
            · rw [e]; exact hl2
            · cases z : H l3 with
              | none => rfl
              | some o => rw [sC _ _ (L.fr _ _ z)] at e; cases e
          refine ⟨rest.length, Nat.lt_succ_self _, dn ++ [c], rest, by rw [hx, List.append_assoc]; rfl, rfl, ?_⟩
          have e5 : ((dn.flatMap flat).length : Int) + 1 + ((argsOf c).length : Int) = (((dn ++ [c]).flatMap flat).length : Int) := by
            rw [List.flatMap_append, List.length_append, List.flatMap_singleton, hf]
            simp only [List.length_cons, List.length_append]
            omega
          refine ⟨⟨_, _, _, _, _, _, by rw [← e5]; rfl⟩, ?_, ⟨l3, ?_, nl3, hl3'⟩, L.np, ?_, L.ng, L.nq⟩
          · rw [upd_same, outs_snoc, List.map_append, List.append_assoc, List.map_cons, List.length_map]
            rfl
          · obtain ⟨⟨dx3, ob3⟩, dr3⟩ := M3'
            exact ⟨⟨dx3, by rw [upd_ne L.np]; exact ob3⟩, by rw [upd_ne nl3]; exact dr3⟩
          · intro b o hb
            have nbg : b ≠ g := fun z => by rw [z, L.ng] at hb; cases hb
            rw [upd_ne nbg]
            exact fr3 b o (sC _ _ (L.fr _ _ hb)) (fun z => by rw [z, L.nq] at hb; cases hb) (fun z => by rw [z, hl2] at hb; cases hb)
        | true =>
          have hf := flat_list hli
          have e0 : xs.flatMap flat = (dn.flatMap flat) ++ (numOf c :: (argsOf c ++ (((numsOf c).length : Int) :: (numsOf c ++ rest.flatMap flat)))) := by
            rw [hx, List.flatMap_append, List.flatMap_cons, hf]
            simp
          have e1 : xs.flatMap flat = (dn.flatMap flat ++ [numOf c]) ++ (argsOf c ++ (((numsOf c).length : Int) :: (numsOf c ++ rest.flatMap flat))) := by
            rw [e0, List.append_assoc]
            rfl
          have e2 : xs.flatMap flat = (dn.flatMap flat ++ [numOf c] ++ argsOf c) ++ (((numsOf c).length : Int) :: (numsOf c ++ rest.flatMap flat)) := by
            rw [e0]
            simp
          have e3 : xs.flatMap flat = (dn.flatMap flat ++ [numOf c] ++ argsOf c ++ [((numsOf c).length : Int)]) ++ (numsOf c ++ rest.flatMap flat) := by
            rw [e0]
            simp
          have hln : (numsOf c).length ≤ 14000 := by
            rw [hf] at hmem
            simp only [List.length_cons, List.length_append] at hmem
            omega
          walk_at "rd"
          refine r_ixL hS2 (at_cons e0 rfl) ?_
          walk_at "rd"
          refine r_kget T.k_ARGUMENT_COUNTS (arg_count c) ?_
          walk_at "rd"
          refine r_slL hS2 (fun r hr2 => ?_)
          walk_at "rd"
          rw [cut_map (mid := argsOf c) e1 (by rw [List.length_append]; simp) (by rw [List.length_append]; simp)]
          have sA : Same H2 (upd H2 r (.lst ((argsOf c).map V.int))) := Same.upd_new hr2
          refine ⟨Nat.zero_le _, fun w0 hw0 => ?_⟩
          have sB := sA.trans (Same.upd_new (o := .lst []) hw0)
          have hS3 := sB.seq hS2
          walk_at "rd"
          refine ⟨a.CALLS_WITH_A_LIST, _, rfl, .inr (T.k_CALLS_WITH_A_LIST.sq _), rfl, rfl, ?_⟩
          walk_at "rd"
          refine r_ite (fun _ => ?_) (fun z => ?_)
          rotate_left
          · have z' : inV (.int (numOf c)) [V.int 5, V.int 8] = false := z
            rw [in_listed, hli] at z'
            cases z'
          walk_at "rd"
          refine r_ixL hS3 (at_cons e2 (by simp only [List.length_append, List.length_cons, List.length_nil]; omega)) ?_
          walk_at "rd"
          refine r_slL hS3 (fun w1 hw1 => ?_)
          walk_at "rd"
          rw [cut_map (mid := numsOf c) e3 (by simp only [List.length_append, List.length_cons, List.length_nil]; omega) (by simp only [List.length_append, List.length_cons, List.length_nil]; omega)]
          have sC := sB.trans (Same.upd_new (o := .lst ((numsOf c).map V.int)) hw1)
          have hrB := Same.upd_new (o := .lst []) hw0 _ _ (upd_same (H := H2) (a := r) (o := .lst ((argsOf c).map V.int)))
          have hrC := Same.upd_new (o := .lst ((numsOf c).map V.int)) hw1 _ _ hrB
          have hwN : (upd (upd H2 r (.lst ((argsOf c).map V.int))) w0 (.lst [])) w1 = none := hw1
          have hwC : (upd (upd (upd H2 r (.lst ((argsOf c).map V.int))) w0 (.lst [])) w1 (.lst ((numsOf c).map V.int))) w1 = some (.lst ((numsOf c).map V.int)) := upd_same
          obtain ⟨l2, M2, nl2, hl2⟩ := L.ma
          refine ⟨p, l2, r, w1, _, c, rfl, M2.same sC, after_wf wf_start dn, hrC, hwC, ne_of_none (by first | exact M2.dr | exact sA _ _ M2.dr | exact sB _ _ M2.dr) hwN, by omega, fun H3 q l3 hq M3 hl3 hq3 fr3 => ?_⟩
          have hg2 := sC _ _ L.gv
          have hg3 := fr3 g _ hg2 L.np.symm nl2.symm
          have nqg : q ≠ g := fun e => by rw [e, hg2] at hq; cases hq
          walk_at "rd"
          refine r_tyL hg3 ?_
          walk_at "rd"
          refine r_len (SqL.of hq3) ?_
          walk_at "rd"
          have lim : (outs DrumMachineSeed.start (dn ++ [c])).length ≤ 10000000 := by
            refine Nat.le_trans (outs_len_pre _ rest) ?_
            rw [List.append_assoc]
            show (outs _ (dn ++ (c :: rest))).length ≤ _
            rw [← hx]
            exact hL
          have lim2 := lim
          rw [outs_snoc, List.length_append, List.length_cons] at lim2
          have big : 10000000 < sizeLine := by decide
          refine r_append hg3 (by rw [List.length_map]; omega) ?_
          walk_at "rd"
          refine r_tyL upd_same ?_
          walk_at "rd"
          refine r_extend upd_same (by rw [upd_ne nqg]; exact hq3) (by rw [List.length_append, List.length_map, List.length_map, List.length_singleton]; omega) ?_
          walk_at "rd"
          rw [upd_upd]
          have M3' := M3
          rw [← after_snoc] at M3'
          have nl3 : l3 ≠ g := by
            rcases hl3 with e | e
            · rw [e]; exact nl2
            · intro z
              rw [z, hg2] at e
              cases e
          have hl3' : H l3 = none := by
            rcases hl3 with e | e
            · rw [e]; exact hl2
            · cases z : H l3 with
              | none => rfl
              | some o => rw [sC _ _ (L.fr _ _ z)] at e; cases e
          refine ⟨rest.length, Nat.lt_succ_self _, dn ++ [c], rest, by rw [hx, List.append_assoc]; rfl, rfl, ?_⟩
          have e5 : ((dn.flatMap flat).length : Int) + 1 + ((argsOf c).length : Int) + 1 + ((numsOf c).length : Int) = (((dn ++ [c]).flatMap flat).length : Int) := by
            rw [List.flatMap_append, List.length_append, List.flatMap_singleton, hf]
            simp only [List.length_cons, List.length_append]
            omega
          refine ⟨⟨_, _, _, _, _, _, by rw [← e5]; rfl⟩, ?_, ⟨l3, ?_, nl3, hl3'⟩, L.np, ?_, L.ng, L.nq⟩
          · rw [upd_same, outs_snoc, List.map_append, List.append_assoc, List.map_cons, List.length_map]
            rfl
          · obtain ⟨⟨dx3, ob3⟩, dr3⟩ := M3'
            exact ⟨⟨dx3, by rw [upd_ne L.np]; exact ob3⟩, by rw [upd_ne nl3]; exact dr3⟩
          · intro b o hb
            have nbg : b ≠ g := fun z => by rw [z, L.ng] at hb; cases hb
            rw [upd_ne nbg]
            exact fr3 b o (sC _ _ (L.fr _ _ hb)) (fun z => by rw [z, L.nq] at hb; cases hb) (fun z => by rw [z, hl2] at hb; cases hb)
      · exfalso
        subst hx
        have := flat_pos c
        simp at c2
        omega
end
end TD
end
section
set_option Elab.async false
set_option linter.all false
set_option maxRecDepth 100000
set_option maxHeartbeats 4000000
namespace TD
open PySem PySem.Spec PyProof.Rows L2
def sp_main (K : PySem.W.Frag) : Sp := fun vs H Q _ => ∃ (ca : Addr) (l : List Int), vs = [.ref ca] ∧ SqL K H ca (l.map V.int) ∧ l.length ≤ 14000 ∧ PyWqdrmb.answers_asked l = true ∧ ∀ (H' : Hp) (q : Addr), H' q = some (.lst ((PyWqdrmb.answers l).map V.int)) → Q (.ref q) H'
theorem ok_main {P : Program} {w : World} {K : PySem.W.Frag} {mg : Str → Option Value} {base : Heap} {a : Ad} {d : Fds} (T : Txt K mg a d) : FnOk P w K mg base CX0 11 a.answers d.answers ["calls"] (sp_main K) := by
  refine (ok_answers T).imp fun vs H Q E h => ?_
  obtain ⟨ca, l, rfl, hS, hM, hA, k⟩ := h
  obtain ⟨xs, e1, e2, _, _, e3⟩ := asked_flat hA
  subst e1
  refine ⟨ca, xs, rfl, hS, hM, e3, fun H' q hq => k H' q ?_⟩
  rw [e2]
  exact hq
theorem all_mk {P : Program} {w : World} {K : PySem.W.Frag} {h : Heap} {mg : Str → Option Value} {fa : Addr} {f0 f1 f2 f3 f4 f5 f6 f7 f8 f9 f10 f11 f12 f13 f14 f15 f16 f17 f18 f19 f20 f21 f22 f23 f24 f25 f26 f27 f28 f29 f30 f31 f32 f33 f34 f35 f36 f37 f38 f39 f40 f41 f42 f43 f44 f45 f46 f47 f48 f49 f50 f51 f52 f53 f54 f55 f56 f57 f58 f59 f60 f61 f62 f63 f64 f65 f66 f67 f68 f69 f70 f71 f72 f73 C_Machine C_Cards r_NAMES r_ACTIONS r_ARGUMENT_COUNTS r_CALLS_WITH_A_LIST : Addr} {od0 an0 od1 an1 od2 an2 od3 an3 od4 an4 od5 an5 od6 an6 od7 an7 od8 an8 od9 an9 od10 an10 od11 an11 od12 an12 od13 an13 od14 an14 od15 an15 od16 an16 od17 an17 od18 an18 od19 an19 od20 an20 od21 an21 od22 an22 od23 an23 od24 an24 od25 an25 od26 an26 od27 an27 od28 an28 od29 an29 od30 an30 od31 an31 od32 an32 od33 an33 od34 an34 od35 an35 od36 an36 od37 an37 od38 an38 od39 an39 od40 an40 od41 an41 od42 an42 od43 an43 od44 an44 od45 an45 od46 an46 od47 an47 od48 an48 od49 an49 od50 an50 od51 an51 od52 an52 od53 an53 od54 an54 od55 an55 od56 an56 od57 an57 od58 an58 od59 an59 od60 an60 od61 an61 od62 an62 od63 an63 od64 an64 od65 an65 od66 an66 od67 an67 od68 an68 od69 an69 od70 an70 od71 an71 od72 an72 od73 an73 : Option Addr} {sl0 sl1 sl2 sl3 sl4 sl5 sl6 sl7 sl8 sl9 sl10 sl11 sl12 sl13 sl14 sl15 sl16 sl17 sl18 sl19 sl20 sl21 sl22 sl23 sl24 sl25 sl26 sl27 sl28 sl29 sl30 sl31 sl32 sl33 sl34 sl35 sl36 sl37 sl38 sl39 sl40 sl41 sl42 sl43 sl44 sl45 sl46 sl47 sl48 sl49 sl50 sl51 sl52 sl53 sl54 sl55 sl56 sl57 sl58 sl59 sl60 sl61 sl62 sl63 sl64 sl65 sl66 sl67 sl68 sl69 sl70 sl71 sl72 sl73 : Array (Option Value)} {oc0 kV0 dc0 pm0 cd0 ct0 oc1 kV1 dc1 pm1 cd1 ct1 oc2 kV2 dc2 pm2 cd2 ct2 oc3 kV3 dc3 pm3 cd3 ct3 oc4 kV4 dc4 pm4 cd4 ct4 oc5 kV5 dc5 pm5 cd5 ct5 oc6 kV6 dc6 pm6 cd6 ct6 oc7 kV7 dc7 pm7 cd7 ct7 oc8 kV8 dc8 pm8 cd8 ct8 oc9 kV9 dc9 pm9 cd9 ct9 oc10 kV10 dc10 pm10 cd10 ct10 oc11 kV11 dc11 pm11 cd11 ct11 oc12 kV12 dc12 pm12 cd12 ct12 oc13 kV13 dc13 pm13 cd13 ct13 oc14 kV14 dc14 pm14 cd14 ct14 oc15 kV15 dc15 pm15 cd15 ct15 oc16 kV16 dc16 pm16 cd16 ct16 oc17 kV17 dc17 pm17 cd17 ct17 oc18 kV18 dc18 pm18 cd18 ct18 oc19 kV19 dc19 pm19 cd19 ct19 oc20 kV20 dc20 pm20 cd20 ct20 oc21 kV21 dc21 pm21 cd21 ct21 oc22 kV22 dc22 pm22 cd22 ct22 oc23 kV23 dc23 pm23 cd23 ct23 oc24 kV24 dc24 pm24 cd24 ct24 oc25 kV25 dc25 pm25 cd25 ct25 oc26 kV26 dc26 pm26 cd26 ct26 oc27 kV27 dc27 pm27 cd27 ct27 oc28 kV28 dc28 pm28 cd28 ct28 oc29 kV29 dc29 pm29 cd29 ct29 oc30 kV30 dc30 pm30 cd30 ct30 oc31 kV31 dc31 pm31 cd31 ct31 oc32 kV32 dc32 pm32 cd32 ct32 oc33 kV33 dc33 pm33 cd33 ct33 oc34 kV34 dc34 pm34 cd34 ct34 oc35 kV35 dc35 pm35 cd35 ct35 oc36 kV36 dc36 pm36 cd36 ct36 oc37 kV37 dc37 pm37 cd37 ct37 oc38 kV38 dc38 pm38 cd38 ct38 oc39 kV39 dc39 pm39 cd39 ct39 oc40 kV40 dc40 pm40 cd40 ct40 oc41 kV41 dc41 pm41 cd41 ct41 oc42 kV42 dc42 pm42 cd42 ct42 oc43 kV43 dc43 pm43 cd43 ct43 oc44 kV44 dc44 pm44 cd44 ct44 oc45 kV45 dc45 pm45 cd45 ct45 oc46 kV46 dc46 pm46 cd46 ct46 oc47 kV47 dc47 pm47 cd47 ct47 oc48 kV48 dc48 pm48 cd48 ct48 oc49 kV49 dc49 pm49 cd49 ct49 oc50 kV50 dc50 pm50 cd50 ct50 oc51 kV51 dc51 pm51 cd51 ct51 oc52 kV52 dc52 pm52 cd52 ct52 oc53 kV53 dc53 pm53 cd53 ct53 oc54 kV54 dc54 pm54 cd54 ct54 oc55 kV55 dc55 pm55 cd55 ct55 oc56 kV56 dc56 pm56 cd56 ct56 oc57 kV57 dc57 pm57 cd57 ct57 oc58 kV58 dc58 pm58 cd58 ct58 oc59 kV59 dc59 pm59 cd59 ct59 oc60 kV60 dc60 pm60 cd60 ct60 oc61 kV61 dc61 pm61 cd61 ct61 oc62 kV62 dc62 pm62 cd62 ct62 oc63 kV63 dc63 pm63 cd63 ct63 oc64 kV64 dc64 pm64 cd64 ct64 oc65 kV65 dc65 pm65 cd65 ct65 oc66 kV66 dc66 pm66 cd66 ct66 oc67 kV67 dc67 pm67 cd67 ct67 oc68 kV68 dc68 pm68 cd68 ct68 oc69 kV69 dc69 pm69 cd69 ct69 oc70 kV70 dc70 pm70 cd70 ct70 oc71 kV71 dc71 pm71 cd71 ct71 oc72 kV72 dc72 pm72 cd72 ct72 oc73 kV73 dc73 pm73 cd73 ct73 : Value} {t_LARGEST_WORD : Tok} {t_LARGEST_LONG : Tok} {t_WORD_BASE : Tok} {t_LONG_BASE : Tok} {t_LONG_DIGITS : Tok} {t_DRUM_SIZE : Tok} {t_BAND_SIZE : Tok} {t_TICK_COUNT : Tok} {t_CARD_SIZE : Tok} {t_HALT : Tok} {t_NO_OPERATION : Tok} {t_READ_CARD : Tok} {t_PUNCH_CARD : Tok} {es_NAMES : Array DictEntry} {ep_NAMES : Nat} {t_LARGEST_SHIFT : Tok} {t_GOES_ON : Tok} {t_STOPPED_BY_ORDER : Tok} {t_BELOW_ZERO : Tok} {t_NO_SUCH_CODE : Tok} {t_NO_ADDRESS : Tok} {t_NO_SHIFT : Tok} {t_NO_CARD : Tok} {t_PASSED_WHERE_NONE : Tok} {es_ACTIONS : Array DictEntry} {ep_ACTIONS : Nat} {t_TICKS_TO_TAKE_APART : Tok} {t_TICKS_OF_A_CARD : Tok} {t_NEW : Tok} {t_POKE : Tok} {t_PEEK : Tok} {t_TOLD : Tok} {t_RUN : Tok} {t_ORDER : Tok} {t_DRUM : Tok} {es_ARGUMENT_COUNTS : Array DictEntry} {ep_ARGUMENT_COUNTS : Nat} {it_CALLS_WITH_A_LIST : Array Value} {in_CALLS_WITH_A_LIST : Nat} {isl_CALLS_WITH_A_LIST : Array (Option Value)} {t_DONE : Tok} {t_NOT_GRANTED : Tok} {t_NOT_OF_THE_FORM : Tok} {t_MOST_ORDERS : Tok} {t_MOST_CARD_WORDS : Tok} {t_LAST_STATE : Tok} (X : K.In h) (G : h.Ns mainGlobals mg) (hfa : mg "answers" = some (.ref fa))
    (g_Machine : PySem.W.nsIn K mainGlobals "Machine" = some (some (.ref C_Machine)))
    (g_Cards : PySem.W.nsIn K mainGlobals "Cards" = some (some (.ref C_Cards)))
    (a0 : PySem.W.nsIn K mainGlobals "is_word" = some (some (.ref f0)))
    (l0 : K.lookup f0 = some ⟨oc0, od0, .func (PySem.W.fnOf "is_word" "is_word" (defArgs s_is_word) (defBody s_is_word) (defScope s_is_word) .none kV0 dc0 pm0 an0 cd0 ct0), sl0⟩)
    (c0 : PySem.W.codeIn K cd0 "is_word" = true)
    (k0 : PySem.W.keepIn K (.ref f0) = true)
    (a1 : PySem.W.nsIn K mainGlobals "is_long" = some (some (.ref f1)))
    (l1 : K.lookup f1 = some ⟨oc1, od1, .func (PySem.W.fnOf "is_long" "is_long" (defArgs s_is_long) (defBody s_is_long) (defScope s_is_long) .none kV1 dc1 pm1 an1 cd1 ct1), sl1⟩)
    (c1 : PySem.W.codeIn K cd1 "is_long" = true)
    (k1 : PySem.W.keepIn K (.ref f1) = true)
    (a2 : PySem.W.nsIn K mainGlobals "with_sign_of" = some (some (.ref f2)))
    (l2 : K.lookup f2 = some ⟨oc2, od2, .func (PySem.W.fnOf "with_sign_of" "with_sign_of" (defArgs s_with_sign_of) (defBody s_with_sign_of) (defScope s_with_sign_of) .none kV2 dc2 pm2 an2 cd2 ct2), sl2⟩)
    (c2 : PySem.W.codeIn K cd2 "with_sign_of" = true)
    (k2 : PySem.W.keepIn K (.ref f2) = true)
    (a3 : PySem.W.nsIn K mainGlobals "divided" = some (some (.ref f3)))
    (l3 : K.lookup f3 = some ⟨oc3, od3, .func (PySem.W.fnOf "divided" "divided" (defArgs s_divided) (defBody s_divided) (defScope s_divided) .none kV3 dc3 pm3 an3 cd3 ct3), sl3⟩)
    (c3 : PySem.W.codeIn K cd3 "divided" = true)
    (k3 : PySem.W.keepIn K (.ref f3) = true)
    (a4 : PySem.W.nsIn K mainGlobals "divided_rounded" = some (some (.ref f4)))
    (l4 : K.lookup f4 = some ⟨oc4, od4, .func (PySem.W.fnOf "divided_rounded" "divided_rounded" (defArgs s_divided_rounded) (defBody s_divided_rounded) (defScope s_divided_rounded) .none kV4 dc4 pm4 an4 cd4 ct4), sl4⟩)
    (c4 : PySem.W.codeIn K cd4 "divided_rounded" = true)
    (k4 : PySem.W.keepIn K (.ref f4) = true)
    (a5 : PySem.W.nsIn K mainGlobals "upper_word" = some (some (.ref f5)))
    (l5 : K.lookup f5 = some ⟨oc5, od5, .func (PySem.W.fnOf "upper_word" "upper_word" (defArgs s_upper_word) (defBody s_upper_word) (defScope s_upper_word) .none kV5 dc5 pm5 an5 cd5 ct5), sl5⟩)
    (c5 : PySem.W.codeIn K cd5 "upper_word" = true)
    (k5 : PySem.W.keepIn K (.ref f5) = true)
    (a6 : PySem.W.nsIn K mainGlobals "lower_word" = some (some (.ref f6)))
    (l6 : K.lookup f6 = some ⟨oc6, od6, .func (PySem.W.fnOf "lower_word" "lower_word" (defArgs s_lower_word) (defBody s_lower_word) (defScope s_lower_word) .none kV6 dc6 pm6 an6 cd6 ct6), sl6⟩)
    (c6 : PySem.W.codeIn K cd6 "lower_word" = true)
    (k6 : PySem.W.keepIn K (.ref f6) = true)
    (a7 : PySem.W.nsIn K mainGlobals "lower_twenty" = some (some (.ref f7)))
    (l7 : K.lookup f7 = some ⟨oc7, od7, .func (PySem.W.fnOf "lower_twenty" "lower_twenty" (defArgs s_lower_twenty) (defBody s_lower_twenty) (defScope s_lower_twenty) .none kV7 dc7 pm7 an7 cd7 ct7), sl7⟩)
    (c7 : PySem.W.codeIn K cd7 "lower_twenty" = true)
    (k7 : PySem.W.keepIn K (.ref f7) = true)
    (a8 : PySem.W.nsIn K mainGlobals "digit_sum" = some (some (.ref f8)))
    (l8 : K.lookup f8 = some ⟨oc8, od8, .func (PySem.W.fnOf "digit_sum" "digit_sum" (defArgs s_digit_sum) (defBody s_digit_sum) (defScope s_digit_sum) .none kV8 dc8 pm8 an8 cd8 ct8), sl8⟩)
    (c8 : PySem.W.codeIn K cd8 "digit_sum" = true)
    (k8 : PySem.W.keepIn K (.ref f8) = true)
    (a9 : PySem.W.nsIn K mainGlobals "power_of_ten" = some (some (.ref f9)))
    (l9 : K.lookup f9 = some ⟨oc9, od9, .func (PySem.W.fnOf "power_of_ten" "power_of_ten" (defArgs s_power_of_ten) (defBody s_power_of_ten) (defScope s_power_of_ten) .none kV9 dc9 pm9 an9 cd9 ct9), sl9⟩)
    (c9 : PySem.W.codeIn K cd9 "power_of_ten" = true)
    (k9 : PySem.W.keepIn K (.ref f9) = true)
    (a10 : PySem.W.nsIn K mainGlobals "tens_that_fit" = some (some (.ref f10)))
    (l10 : K.lookup f10 = some ⟨oc10, od10, .func (PySem.W.fnOf "tens_that_fit" "tens_that_fit" (defArgs s_tens_that_fit) (defBody s_tens_that_fit) (defScope s_tens_that_fit) .none kV10 dc10 pm10 an10 cd10 ct10), sl10⟩)
    (c10 : PySem.W.codeIn K cd10 "tens_that_fit" = true)
    (k10 : PySem.W.keepIn K (.ref f10) = true)
    (a11 : PySem.W.nsIn K mainGlobals "is_address" = some (some (.ref f11)))
    (l11 : K.lookup f11 = some ⟨oc11, od11, .func (PySem.W.fnOf "is_address" "is_address" (defArgs s_is_address) (defBody s_is_address) (defScope s_is_address) .none kV11 dc11 pm11 an11 cd11 ct11), sl11⟩)
    (c11 : PySem.W.codeIn K cd11 "is_address" = true)
    (k11 : PySem.W.keepIn K (.ref f11) = true)
    (a12 : PySem.W.nsIn K mainGlobals "is_tick" = some (some (.ref f12)))
    (l12 : K.lookup f12 = some ⟨oc12, od12, .func (PySem.W.fnOf "is_tick" "is_tick" (defArgs s_is_tick) (defBody s_is_tick) (defScope s_is_tick) .none kV12 dc12 pm12 an12 cd12 ct12), sl12⟩)
    (c12 : PySem.W.codeIn K cd12 "is_tick" = true)
    (k12 : PySem.W.keepIn K (.ref f12) = true)
    (a13 : PySem.W.nsIn K mainGlobals "next_around" = some (some (.ref f13)))
    (l13 : K.lookup f13 = some ⟨oc13, od13, .func (PySem.W.fnOf "next_around" "next_around" (defArgs s_next_around) (defBody s_next_around) (defScope s_next_around) .none kV13 dc13 pm13 an13 cd13 ct13), sl13⟩)
    (c13 : PySem.W.codeIn K cd13 "next_around" = true)
    (k13 : PySem.W.keepIn K (.ref f13) = true)
    (a14 : PySem.W.nsIn K mainGlobals "band_from" = some (some (.ref f14)))
    (l14 : K.lookup f14 = some ⟨oc14, od14, .func (PySem.W.fnOf "band_from" "band_from" (defArgs s_band_from) (defBody s_band_from) (defScope s_band_from) .none kV14 dc14 pm14 an14 cd14 ct14), sl14⟩)
    (c14 : PySem.W.codeIn K cd14 "band_from" = true)
    (k14 : PySem.W.keepIn K (.ref f14) = true)
    (a15 : PySem.W.nsIn K mainGlobals "waited" = some (some (.ref f15)))
    (l15 : K.lookup f15 = some ⟨oc15, od15, .func (PySem.W.fnOf "waited" "waited" (defArgs s_waited) (defBody s_waited) (defScope s_waited) .none kV15 dc15 pm15 an15 cd15 ct15), sl15⟩)
    (c15 : PySem.W.codeIn K cd15 "waited" = true)
    (k15 : PySem.W.keepIn K (.ref f15) = true)
    (a16 : PySem.W.findIn K (.ref C_Machine) "__init__" = some (some (.ref f16)))
    (i16 : PySem.W.isFn K (.ref f16) = true)
    (l16 : K.lookup f16 = some ⟨oc16, od16, .func (PySem.W.fnOf "__init__" "Machine.__init__" (defArgs s_Machine_init) (defBody s_Machine_init) (defScope s_Machine_init) .none kV16 dc16 pm16 an16 cd16 ct16), sl16⟩)
    (c16 : PySem.W.codeIn K cd16 "Machine.__init__" = true)
    (k16 : PySem.W.keepIn K (.ref f16) = true)
    (a17 : PySem.W.findIn K (.ref C_Machine) "begin" = some (some (.ref f17)))
    (i17 : PySem.W.isFn K (.ref f17) = true)
    (l17 : K.lookup f17 = some ⟨oc17, od17, .func (PySem.W.fnOf "begin" "Machine.begin" (defArgs s_Machine_begin) (defBody s_Machine_begin) (defScope s_Machine_begin) .none kV17 dc17 pm17 an17 cd17 ct17), sl17⟩)
    (c17 : PySem.W.codeIn K cd17 "Machine.begin" = true)
    (k17 : PySem.W.keepIn K (.ref f17) = true)
    (a18 : PySem.W.findIn K (.ref C_Machine) "keep" = some (some (.ref f18)))
    (i18 : PySem.W.isFn K (.ref f18) = true)
    (l18 : K.lookup f18 = some ⟨oc18, od18, .func (PySem.W.fnOf "keep" "Machine.keep" (defArgs s_Machine_keep) (defBody s_Machine_keep) (defScope s_Machine_keep) .none kV18 dc18 pm18 an18 cd18 ct18), sl18⟩)
    (c18 : PySem.W.codeIn K cd18 "Machine.keep" = true)
    (k18 : PySem.W.keepIn K (.ref f18) = true)
    (a19 : PySem.W.findIn K (.ref C_Machine) "pass_to" = some (some (.ref f19)))
    (i19 : PySem.W.isFn K (.ref f19) = true)
    (l19 : K.lookup f19 = some ⟨oc19, od19, .func (PySem.W.fnOf "pass_to" "Machine.pass_to" (defArgs s_Machine_pass_to) (defBody s_Machine_pass_to) (defScope s_Machine_pass_to) .none kV19 dc19 pm19 an19 cd19 ct19), sl19⟩)
    (c19 : PySem.W.codeIn K cd19 "Machine.pass_to" = true)
    (k19 : PySem.W.keepIn K (.ref f19) = true)
    (a20 : PySem.W.findIn K (.ref C_Cards) "__init__" = some (some (.ref f20)))
    (i20 : PySem.W.isFn K (.ref f20) = true)
    (l20 : K.lookup f20 = some ⟨oc20, od20, .func (PySem.W.fnOf "__init__" "Cards.__init__" (defArgs s_Cards_init) (defBody s_Cards_init) (defScope s_Cards_init) .none kV20 dc20 pm20 an20 cd20 ct20), sl20⟩)
    (c20 : PySem.W.codeIn K cd20 "Cards.__init__" = true)
    (k20 : PySem.W.keepIn K (.ref f20) = true)
    (a21 : PySem.W.findIn K (.ref C_Cards) "is_left" = some (some (.ref f21)))
    (i21 : PySem.W.isFn K (.ref f21) = true)
    (l21 : K.lookup f21 = some ⟨oc21, od21, .func (PySem.W.fnOf "is_left" "Cards.is_left" (defArgs s_Cards_is_left) (defBody s_Cards_is_left) (defScope s_Cards_is_left) .none kV21 dc21 pm21 an21 cd21 ct21), sl21⟩)
    (c21 : PySem.W.codeIn K cd21 "Cards.is_left" = true)
    (k21 : PySem.W.keepIn K (.ref f21) = true)
    (a22 : PySem.W.findIn K (.ref C_Cards) "read_to" = some (some (.ref f22)))
    (i22 : PySem.W.isFn K (.ref f22) = true)
    (l22 : K.lookup f22 = some ⟨oc22, od22, .func (PySem.W.fnOf "read_to" "Cards.read_to" (defArgs s_Cards_read_to) (defBody s_Cards_read_to) (defScope s_Cards_read_to) .none kV22 dc22 pm22 an22 cd22 ct22), sl22⟩)
    (c22 : PySem.W.codeIn K cd22 "Cards.read_to" = true)
    (k22 : PySem.W.keepIn K (.ref f22) = true)
    (a23 : PySem.W.findIn K (.ref C_Cards) "punch_from" = some (some (.ref f23)))
    (i23 : PySem.W.isFn K (.ref f23) = true)
    (l23 : K.lookup f23 = some ⟨oc23, od23, .func (PySem.W.fnOf "punch_from" "Cards.punch_from" (defArgs s_Cards_punch_from) (defBody s_Cards_punch_from) (defScope s_Cards_punch_from) .none kV23 dc23 pm23 an23 cd23 ct23), sl23⟩)
    (c23 : PySem.W.codeIn K cd23 "Cards.punch_from" = true)
    (k23 : PySem.W.keepIn K (.ref f23) = true)
    (a24 : PySem.W.nsIn K mainGlobals "code_of" = some (some (.ref f24)))
    (l24 : K.lookup f24 = some ⟨oc24, od24, .func (PySem.W.fnOf "code_of" "code_of" (defArgs s_code_of) (defBody s_code_of) (defScope s_code_of) .none kV24 dc24 pm24 an24 cd24 ct24), sl24⟩)
    (c24 : PySem.W.codeIn K cd24 "code_of" = true)
    (k24 : PySem.W.keepIn K (.ref f24) = true)
    (a25 : PySem.W.nsIn K mainGlobals "data_of" = some (some (.ref f25)))
    (l25 : K.lookup f25 = some ⟨oc25, od25, .func (PySem.W.fnOf "data_of" "data_of" (defArgs s_data_of) (defBody s_data_of) (defScope s_data_of) .none kV25 dc25 pm25 an25 cd25 ct25), sl25⟩)
    (c25 : PySem.W.codeIn K cd25 "data_of" = true)
    (k25 : PySem.W.keepIn K (.ref f25) = true)
    (a26 : PySem.W.nsIn K mainGlobals "next_of" = some (some (.ref f26)))
    (l26 : K.lookup f26 = some ⟨oc26, od26, .func (PySem.W.fnOf "next_of" "next_of" (defArgs s_next_of) (defBody s_next_of) (defScope s_next_of) .none kV26 dc26 pm26 an26 cd26 ct26), sl26⟩)
    (c26 : PySem.W.codeIn K cd26 "next_of" = true)
    (k26 : PySem.W.keepIn K (.ref f26) = true)
    (a27 : PySem.W.nsIn K mainGlobals "is_order" = some (some (.ref f27)))
    (l27 : K.lookup f27 = some ⟨oc27, od27, .func (PySem.W.fnOf "is_order" "is_order" (defArgs s_is_order) (defBody s_is_order) (defScope s_is_order) .none kV27 dc27 pm27 an27 cd27 ct27), sl27⟩)
    (c27 : PySem.W.codeIn K cd27 "is_order" = true)
    (k27 : PySem.W.keepIn K (.ref f27) = true)
    (a28 : PySem.W.nsIn K mainGlobals "writing" = some (some (.ref f28)))
    (l28 : K.lookup f28 = some ⟨oc28, od28, .func (PySem.W.fnOf "writing" "writing" (defArgs s_writing) (defBody s_writing) (defScope s_writing) .none kV28 dc28 pm28 an28 cd28 ct28), sl28⟩)
    (c28 : PySem.W.codeIn K cd28 "writing" = true)
    (k28 : PySem.W.keepIn K (.ref f28) = true)
    (a29 : PySem.W.nsIn K mainGlobals "loads_d" = some (some (.ref f29)))
    (l29 : K.lookup f29 = some ⟨oc29, od29, .func (PySem.W.fnOf "loads_d" "loads_d" (defArgs s_loads_d) (defBody s_loads_d) (defScope s_loads_d) .none kV29 dc29 pm29 an29 cd29 ct29), sl29⟩)
    (c29 : PySem.W.codeIn K cd29 "loads_d" = true)
    (k29 : PySem.W.keepIn K (.ref f29) = true)
    (a30 : PySem.W.nsIn K mainGlobals "waits" = some (some (.ref f30)))
    (l30 : K.lookup f30 = some ⟨oc30, od30, .func (PySem.W.fnOf "waits" "waits" (defArgs s_waits) (defBody s_waits) (defScope s_waits) .none kV30 dc30 pm30 an30 cd30 ct30), sl30⟩)
    (c30 : PySem.W.codeIn K cd30 "waits" = true)
    (k30 : PySem.W.keepIn K (.ref f30) = true)
    (a31 : PySem.W.nsIn K mainGlobals "shifts_by_data" = some (some (.ref f31)))
    (l31 : K.lookup f31 = some ⟨oc31, od31, .func (PySem.W.fnOf "shifts_by_data" "shifts_by_data" (defArgs s_shifts_by_data) (defBody s_shifts_by_data) (defScope s_shifts_by_data) .none kV31 dc31 pm31 an31 cd31 ct31), sl31⟩)
    (c31 : PySem.W.codeIn K cd31 "shifts_by_data" = true)
    (k31 : PySem.W.keepIn K (.ref f31) = true)
    (a32 : PySem.W.nsIn K mainGlobals "has_data_address" = some (some (.ref f32)))
    (l32 : K.lookup f32 = some ⟨oc32, od32, .func (PySem.W.fnOf "has_data_address" "has_data_address" (defArgs s_has_data_address) (defBody s_has_data_address) (defScope s_has_data_address) .none kV32 dc32 pm32 an32 cd32 ct32), sl32⟩)
    (c32 : PySem.W.codeIn K cd32 "has_data_address" = true)
    (k32 : PySem.W.keepIn K (.ref f32) = true)
    (a33 : PySem.W.nsIn K mainGlobals "stopping_state" = some (some (.ref f33)))
    (l33 : K.lookup f33 = some ⟨oc33, od33, .func (PySem.W.fnOf "stopping_state" "stopping_state" (defArgs s_stopping_state) (defBody s_stopping_state) (defScope s_stopping_state) .none kV33 dc33 pm33 an33 cd33 ct33), sl33⟩)
    (c33 : PySem.W.codeIn K cd33 "stopping_state" = true)
    (k33 : PySem.W.keepIn K (.ref f33) = true)
    (a34 : PySem.W.nsIn K mainGlobals "nothing_more" = some (some (.ref f34)))
    (l34 : K.lookup f34 = some ⟨oc34, od34, .func (PySem.W.fnOf "nothing_more" "nothing_more" (defArgs s_nothing_more) (defBody s_nothing_more) (defScope s_nothing_more) .none kV34 dc34 pm34 an34 cd34 ct34), sl34⟩)
    (c34 : PySem.W.codeIn K cd34 "nothing_more" = true)
    (k34 : PySem.W.keepIn K (.ref f34) = true)
    (a35 : PySem.W.nsIn K mainGlobals "load_a" = some (some (.ref f35)))
    (l35 : K.lookup f35 = some ⟨oc35, od35, .func (PySem.W.fnOf "load_a" "load_a" (defArgs s_load_a) (defBody s_load_a) (defScope s_load_a) .none kV35 dc35 pm35 an35 cd35 ct35), sl35⟩)
    (c35 : PySem.W.codeIn K cd35 "load_a" = true)
    (k35 : PySem.W.keepIn K (.ref f35) = true)
    (a36 : PySem.W.nsIn K mainGlobals "load_negated" = some (some (.ref f36)))
    (l36 : K.lookup f36 = some ⟨oc36, od36, .func (PySem.W.fnOf "load_negated" "load_negated" (defArgs s_load_negated) (defBody s_load_negated) (defScope s_load_negated) .none kV36 dc36 pm36 an36 cd36 ct36), sl36⟩)
    (c36 : PySem.W.codeIn K cd36 "load_negated" = true)
    (k36 : PySem.W.keepIn K (.ref f36) = true)
    (a37 : PySem.W.nsIn K mainGlobals "add" = some (some (.ref f37)))
    (l37 : K.lookup f37 = some ⟨oc37, od37, .func (PySem.W.fnOf "add" "add" (defArgs s_add) (defBody s_add) (defScope s_add) .none kV37 dc37 pm37 an37 cd37 ct37), sl37⟩)
    (c37 : PySem.W.codeIn K cd37 "add" = true)
    (k37 : PySem.W.keepIn K (.ref f37) = true)
    (a38 : PySem.W.nsIn K mainGlobals "subtract" = some (some (.ref f38)))
    (l38 : K.lookup f38 = some ⟨oc38, od38, .func (PySem.W.fnOf "subtract" "subtract" (defArgs s_subtract) (defBody s_subtract) (defScope s_subtract) .none kV38 dc38 pm38 an38 cd38 ct38), sl38⟩)
    (c38 : PySem.W.codeIn K cd38 "subtract" = true)
    (k38 : PySem.W.keepIn K (.ref f38) = true)
    (a39 : PySem.W.nsIn K mainGlobals "add_unsigned" = some (some (.ref f39)))
    (l39 : K.lookup f39 = some ⟨oc39, od39, .func (PySem.W.fnOf "add_unsigned" "add_unsigned" (defArgs s_add_unsigned) (defBody s_add_unsigned) (defScope s_add_unsigned) .none kV39 dc39 pm39 an39 cd39 ct39), sl39⟩)
    (c39 : PySem.W.codeIn K cd39 "add_unsigned" = true)
    (k39 : PySem.W.keepIn K (.ref f39) = true)
    (a40 : PySem.W.nsIn K mainGlobals "subtract_unsigned" = some (some (.ref f40)))
    (l40 : K.lookup f40 = some ⟨oc40, od40, .func (PySem.W.fnOf "subtract_unsigned" "subtract_unsigned" (defArgs s_subtract_unsigned) (defBody s_subtract_unsigned) (defScope s_subtract_unsigned) .none kV40 dc40 pm40 an40 cd40 ct40), sl40⟩)
    (c40 : PySem.W.codeIn K cd40 "subtract_unsigned" = true)
    (k40 : PySem.W.keepIn K (.ref f40) = true)
    (a41 : PySem.W.nsIn K mainGlobals "add_upper" = some (some (.ref f41)))
    (l41 : K.lookup f41 = some ⟨oc41, od41, .func (PySem.W.fnOf "add_upper" "add_upper" (defArgs s_add_upper) (defBody s_add_upper) (defScope s_add_upper) .none kV41 dc41 pm41 an41 cd41 ct41), sl41⟩)
    (c41 : PySem.W.codeIn K cd41 "add_upper" = true)
    (k41 : PySem.W.keepIn K (.ref f41) = true)
    (a42 : PySem.W.nsIn K mainGlobals "subtract_upper" = some (some (.ref f42)))
    (l42 : K.lookup f42 = some ⟨oc42, od42, .func (PySem.W.fnOf "subtract_upper" "subtract_upper" (defArgs s_subtract_upper) (defBody s_subtract_upper) (defScope s_subtract_upper) .none kV42 dc42 pm42 an42 cd42 ct42), sl42⟩)
    (c42 : PySem.W.codeIn K cd42 "subtract_upper" = true)
    (k42 : PySem.W.keepIn K (.ref f42) = true)
    (a43 : PySem.W.nsIn K mainGlobals "multiply" = some (some (.ref f43)))
    (l43 : K.lookup f43 = some ⟨oc43, od43, .func (PySem.W.fnOf "multiply" "multiply" (defArgs s_multiply) (defBody s_multiply) (defScope s_multiply) .none kV43 dc43 pm43 an43 cd43 ct43), sl43⟩)
    (c43 : PySem.W.codeIn K cd43 "multiply" = true)
    (k43 : PySem.W.keepIn K (.ref f43) = true)
    (a44 : PySem.W.nsIn K mainGlobals "divide" = some (some (.ref f44)))
    (l44 : K.lookup f44 = some ⟨oc44, od44, .func (PySem.W.fnOf "divide" "divide" (defArgs s_divide) (defBody s_divide) (defScope s_divide) .none kV44 dc44 pm44 an44 cd44 ct44), sl44⟩)
    (c44 : PySem.W.codeIn K cd44 "divide" = true)
    (k44 : PySem.W.keepIn K (.ref f44) = true)
    (a45 : PySem.W.nsIn K mainGlobals "store_lower" = some (some (.ref f45)))
    (l45 : K.lookup f45 = some ⟨oc45, od45, .func (PySem.W.fnOf "store_lower" "store_lower" (defArgs s_store_lower) (defBody s_store_lower) (defScope s_store_lower) .none kV45 dc45 pm45 an45 cd45 ct45), sl45⟩)
    (c45 : PySem.W.codeIn K cd45 "store_lower" = true)
    (k45 : PySem.W.keepIn K (.ref f45) = true)
    (a46 : PySem.W.nsIn K mainGlobals "store_upper" = some (some (.ref f46)))
    (l46 : K.lookup f46 = some ⟨oc46, od46, .func (PySem.W.fnOf "store_upper" "store_upper" (defArgs s_store_upper) (defBody s_store_upper) (defScope s_store_upper) .none kV46 dc46 pm46 an46 cd46 ct46), sl46⟩)
    (c46 : PySem.W.codeIn K cd46 "store_upper" = true)
    (k46 : PySem.W.keepIn K (.ref f46) = true)
    (a47 : PySem.W.nsIn K mainGlobals "store_d" = some (some (.ref f47)))
    (l47 : K.lookup f47 = some ⟨oc47, od47, .func (PySem.W.fnOf "store_d" "store_d" (defArgs s_store_d) (defBody s_store_d) (defScope s_store_d) .none kV47 dc47 pm47 an47 cd47 ct47), sl47⟩)
    (c47 : PySem.W.codeIn K cd47 "store_d" = true)
    (k47 : PySem.W.keepIn K (.ref f47) = true)
    (a48 : PySem.W.nsIn K mainGlobals "shift_left" = some (some (.ref f48)))
    (l48 : K.lookup f48 = some ⟨oc48, od48, .func (PySem.W.fnOf "shift_left" "shift_left" (defArgs s_shift_left) (defBody s_shift_left) (defScope s_shift_left) .none kV48 dc48 pm48 an48 cd48 ct48), sl48⟩)
    (c48 : PySem.W.codeIn K cd48 "shift_left" = true)
    (k48 : PySem.W.keepIn K (.ref f48) = true)
    (a49 : PySem.W.nsIn K mainGlobals "shift_right" = some (some (.ref f49)))
    (l49 : K.lookup f49 = some ⟨oc49, od49, .func (PySem.W.fnOf "shift_right" "shift_right" (defArgs s_shift_right) (defBody s_shift_right) (defScope s_shift_right) .none kV49 dc49 pm49 an49 cd49 ct49), sl49⟩)
    (c49 : PySem.W.codeIn K cd49 "shift_right" = true)
    (k49 : PySem.W.keepIn K (.ref f49) = true)
    (a50 : PySem.W.nsIn K mainGlobals "shift_right_rounded" = some (some (.ref f50)))
    (l50 : K.lookup f50 = some ⟨oc50, od50, .func (PySem.W.fnOf "shift_right_rounded" "shift_right_rounded" (defArgs s_shift_right_rounded) (defBody s_shift_right_rounded) (defScope s_shift_right_rounded) .none kV50 dc50 pm50 an50 cd50 ct50), sl50⟩)
    (c50 : PySem.W.codeIn K cd50 "shift_right_rounded" = true)
    (k50 : PySem.W.keepIn K (.ref f50) = true)
    (a51 : PySem.W.nsIn K mainGlobals "shift_and_count" = some (some (.ref f51)))
    (l51 : K.lookup f51 = some ⟨oc51, od51, .func (PySem.W.fnOf "shift_and_count" "shift_and_count" (defArgs s_shift_and_count) (defBody s_shift_and_count) (defScope s_shift_and_count) .none kV51 dc51 pm51 an51 cd51 ct51), sl51⟩)
    (c51 : PySem.W.codeIn K cd51 "shift_and_count" = true)
    (k51 : PySem.W.keepIn K (.ref f51) = true)
    (a52 : PySem.W.nsIn K mainGlobals "branch_below_zero" = some (some (.ref f52)))
    (l52 : K.lookup f52 = some ⟨oc52, od52, .func (PySem.W.fnOf "branch_below_zero" "branch_below_zero" (defArgs s_branch_below_zero) (defBody s_branch_below_zero) (defScope s_branch_below_zero) .none kV52 dc52 pm52 an52 cd52 ct52), sl52⟩)
    (c52 : PySem.W.codeIn K cd52 "branch_below_zero" = true)
    (k52 : PySem.W.keepIn K (.ref f52) = true)
    (a53 : PySem.W.nsIn K mainGlobals "branch_not_zero" = some (some (.ref f53)))
    (l53 : K.lookup f53 = some ⟨oc53, od53, .func (PySem.W.fnOf "branch_not_zero" "branch_not_zero" (defArgs s_branch_not_zero) (defBody s_branch_not_zero) (defScope s_branch_not_zero) .none kV53 dc53 pm53 an53 cd53 ct53), sl53⟩)
    (c53 : PySem.W.codeIn K cd53 "branch_not_zero" = true)
    (k53 : PySem.W.keepIn K (.ref f53) = true)
    (a54 : PySem.W.nsIn K mainGlobals "branch_over" = some (some (.ref f54)))
    (l54 : K.lookup f54 = some ⟨oc54, od54, .func (PySem.W.fnOf "branch_over" "branch_over" (defArgs s_branch_over) (defBody s_branch_over) (defScope s_branch_over) .none kV54 dc54 pm54 an54 cd54 ct54), sl54⟩)
    (c54 : PySem.W.codeIn K cd54 "branch_over" = true)
    (k54 : PySem.W.keepIn K (.ref f54) = true)
    (a55 : PySem.W.nsIn K mainGlobals "look_up" = some (some (.ref f55)))
    (l55 : K.lookup f55 = some ⟨oc55, od55, .func (PySem.W.fnOf "look_up" "look_up" (defArgs s_look_up) (defBody s_look_up) (defScope s_look_up) .none kV55 dc55 pm55 an55 cd55 ct55), sl55⟩)
    (c55 : PySem.W.codeIn K cd55 "look_up" = true)
    (k55 : PySem.W.keepIn K (.ref f55) = true)
    (a56 : PySem.W.nsIn K mainGlobals "act" = some (some (.ref f56)))
    (l56 : K.lookup f56 = some ⟨oc56, od56, .func (PySem.W.fnOf "act" "act" (defArgs s_act) (defBody s_act) (defScope s_act) .none kV56 dc56 pm56 an56 cd56 ct56), sl56⟩)
    (c56 : PySem.W.codeIn K cd56 "act" = true)
    (k56 : PySem.W.keepIn K (.ref f56) = true)
    (a57 : PySem.W.nsIn K mainGlobals "carry_out" = some (some (.ref f57)))
    (l57 : K.lookup f57 = some ⟨oc57, od57, .func (PySem.W.fnOf "carry_out" "carry_out" (defArgs s_carry_out) (defBody s_carry_out) (defScope s_carry_out) .none kV57 dc57 pm57 an57 cd57 ct57), sl57⟩)
    (c57 : PySem.W.codeIn K cd57 "carry_out" = true)
    (k57 : PySem.W.keepIn K (.ref f57) = true)
    (a58 : PySem.W.nsIn K mainGlobals "one_order" = some (some (.ref f58)))
    (l58 : K.lookup f58 = some ⟨oc58, od58, .func (PySem.W.fnOf "one_order" "one_order" (defArgs s_one_order) (defBody s_one_order) (defScope s_one_order) .none kV58 dc58 pm58 an58 cd58 ct58), sl58⟩)
    (c58 : PySem.W.codeIn K cd58 "one_order" = true)
    (k58 : PySem.W.keepIn K (.ref f58) = true)
    (a59 : PySem.W.nsIn K mainGlobals "run_orders" = some (some (.ref f59)))
    (l59 : K.lookup f59 = some ⟨oc59, od59, .func (PySem.W.fnOf "run_orders" "run_orders" (defArgs s_run_orders) (defBody s_run_orders) (defScope s_run_orders) .none kV59 dc59 pm59 an59 cd59 ct59), sl59⟩)
    (c59 : PySem.W.codeIn K cd59 "run_orders" = true)
    (k59 : PySem.W.keepIn K (.ref f59) = true)
    (a60 : PySem.W.nsIn K mainGlobals "new" = some (some (.ref f60)))
    (l60 : K.lookup f60 = some ⟨oc60, od60, .func (PySem.W.fnOf "new" "new" (defArgs s_new) (defBody s_new) (defScope s_new) .none kV60 dc60 pm60 an60 cd60 ct60), sl60⟩)
    (c60 : PySem.W.codeIn K cd60 "new" = true)
    (k60 : PySem.W.keepIn K (.ref f60) = true)
    (a61 : PySem.W.nsIn K mainGlobals "poke" = some (some (.ref f61)))
    (l61 : K.lookup f61 = some ⟨oc61, od61, .func (PySem.W.fnOf "poke" "poke" (defArgs s_poke) (defBody s_poke) (defScope s_poke) .none kV61 dc61 pm61 an61 cd61 ct61), sl61⟩)
    (c61 : PySem.W.codeIn K cd61 "poke" = true)
    (k61 : PySem.W.keepIn K (.ref f61) = true)
    (a62 : PySem.W.nsIn K mainGlobals "peek" = some (some (.ref f62)))
    (l62 : K.lookup f62 = some ⟨oc62, od62, .func (PySem.W.fnOf "peek" "peek" (defArgs s_peek) (defBody s_peek) (defScope s_peek) .none kV62 dc62 pm62 an62 cd62 ct62), sl62⟩)
    (c62 : PySem.W.codeIn K cd62 "peek" = true)
    (k62 : PySem.W.keepIn K (.ref f62) = true)
    (a63 : PySem.W.nsIn K mainGlobals "told" = some (some (.ref f63)))
    (l63 : K.lookup f63 = some ⟨oc63, od63, .func (PySem.W.fnOf "told" "told" (defArgs s_told) (defBody s_told) (defScope s_told) .none kV63 dc63 pm63 an63 cd63 ct63), sl63⟩)
    (c63 : PySem.W.codeIn K cd63 "told" = true)
    (k63 : PySem.W.keepIn K (.ref f63) = true)
    (a64 : PySem.W.nsIn K mainGlobals "are_cards" = some (some (.ref f64)))
    (l64 : K.lookup f64 = some ⟨oc64, od64, .func (PySem.W.fnOf "are_cards" "are_cards" (defArgs s_are_cards) (defBody s_are_cards) (defScope s_are_cards) .none kV64 dc64 pm64 an64 cd64 ct64), sl64⟩)
    (c64 : PySem.W.codeIn K cd64 "are_cards" = true)
    (k64 : PySem.W.keepIn K (.ref f64) = true)
    (a65 : PySem.W.nsIn K mainGlobals "run" = some (some (.ref f65)))
    (l65 : K.lookup f65 = some ⟨oc65, od65, .func (PySem.W.fnOf "run" "run" (defArgs s_run) (defBody s_run) (defScope s_run) .none kV65 dc65 pm65 an65 cd65 ct65), sl65⟩)
    (c65 : PySem.W.codeIn K cd65 "run" = true)
    (k65 : PySem.W.keepIn K (.ref f65) = true)
    (a66 : PySem.W.nsIn K mainGlobals "order" = some (some (.ref f66)))
    (l66 : K.lookup f66 = some ⟨oc66, od66, .func (PySem.W.fnOf "order" "order" (defArgs s_order) (defBody s_order) (defScope s_order) .none kV66 dc66 pm66 an66 cd66 ct66), sl66⟩)
    (c66 : PySem.W.codeIn K cd66 "order" = true)
    (k66 : PySem.W.keepIn K (.ref f66) = true)
    (a67 : PySem.W.nsIn K mainGlobals "drum" = some (some (.ref f67)))
    (l67 : K.lookup f67 = some ⟨oc67, od67, .func (PySem.W.fnOf "drum" "drum" (defArgs s_drum) (defBody s_drum) (defScope s_drum) .none kV67 dc67 pm67 an67 cd67 ct67), sl67⟩)
    (c67 : PySem.W.codeIn K cd67 "drum" = true)
    (k67 : PySem.W.keepIn K (.ref f67) = true)
    (a68 : PySem.W.nsIn K mainGlobals "is_drum_form" = some (some (.ref f68)))
    (l68 : K.lookup f68 = some ⟨oc68, od68, .func (PySem.W.fnOf "is_drum_form" "is_drum_form" (defArgs s_is_drum_form) (defBody s_is_drum_form) (defScope s_is_drum_form) .none kV68 dc68 pm68 an68 cd68 ct68), sl68⟩)
    (c68 : PySem.W.codeIn K cd68 "is_drum_form" = true)
    (k68 : PySem.W.keepIn K (.ref f68) = true)
    (a69 : PySem.W.nsIn K mainGlobals "are_values" = some (some (.ref f69)))
    (l69 : K.lookup f69 = some ⟨oc69, od69, .func (PySem.W.fnOf "are_values" "are_values" (defArgs s_are_values) (defBody s_are_values) (defScope s_are_values) .none kV69 dc69 pm69 an69 cd69 ct69), sl69⟩)
    (c69 : PySem.W.codeIn K cd69 "are_values" = true)
    (k69 : PySem.W.keepIn K (.ref f69) = true)
    (a70 : PySem.W.nsIn K mainGlobals "drum_of" = some (some (.ref f70)))
    (l70 : K.lookup f70 = some ⟨oc70, od70, .func (PySem.W.fnOf "drum_of" "drum_of" (defArgs s_drum_of) (defBody s_drum_of) (defScope s_drum_of) .none kV70 dc70 pm70 an70 cd70 ct70), sl70⟩)
    (c70 : PySem.W.codeIn K cd70 "drum_of" = true)
    (k70 : PySem.W.keepIn K (.ref f70) = true)
    (a71 : PySem.W.nsIn K mainGlobals "load" = some (some (.ref f71)))
    (l71 : K.lookup f71 = some ⟨oc71, od71, .func (PySem.W.fnOf "load" "load" (defArgs s_load) (defBody s_load) (defScope s_load) .none kV71 dc71 pm71 an71 cd71 ct71), sl71⟩)
    (c71 : PySem.W.codeIn K cd71 "load" = true)
    (k71 : PySem.W.keepIn K (.ref f71) = true)
    (a72 : PySem.W.nsIn K mainGlobals "answer_one" = some (some (.ref f72)))
    (l72 : K.lookup f72 = some ⟨oc72, od72, .func (PySem.W.fnOf "answer_one" "answer_one" (defArgs s_answer_one) (defBody s_answer_one) (defScope s_answer_one) .none kV72 dc72 pm72 an72 cd72 ct72), sl72⟩)
    (c72 : PySem.W.codeIn K cd72 "answer_one" = true)
    (k72 : PySem.W.keepIn K (.ref f72) = true)
    (a73 : PySem.W.nsIn K mainGlobals "answers" = some (some (.ref f73)))
    (l73 : K.lookup f73 = some ⟨oc73, od73, .func (PySem.W.fnOf "answers" "answers" (defArgs s_answers) (defBody s_answers) (defScope s_answers) .none kV73 dc73 pm73 an73 cd73 ct73), sl73⟩)
    (c73 : PySem.W.codeIn K cd73 "answers" = true)
    (k73 : PySem.W.keepIn K (.ref f73) = true)
    (pg_Machine : PySem.W.plainGet K C_Machine Str.empty = true)
    (hd_Machine : PySem.W.hasDictIn K C_Machine = true)
    (po_Machine : PySem.W.plainOver K C_Machine = true)
    (sa_Machine : PySem.W.findIn K (.ref C_Machine) "__setattr__" = some (some (.builtin "object.__setattr__")))
    (mk_Machine : PySem.W.makesIn K C_Machine = true)
    (kc_Machine : PySem.W.keepIn K (.ref C_Machine) = true)
    (n_Machine_state : PySem.W.findIn K (.ref C_Machine) "state" = some none)
    (n_Machine_over : PySem.W.findIn K (.ref C_Machine) "over" = some none)
    (n_Machine_n : PySem.W.findIn K (.ref C_Machine) "n" = some none)
    (n_Machine_t : PySem.W.findIn K (.ref C_Machine) "t" = some none)
    (n_Machine_a : PySem.W.findIn K (.ref C_Machine) "a" = some none)
    (n_Machine_d : PySem.W.findIn K (.ref C_Machine) "d" = some none)
    (n_Machine_drum : PySem.W.findIn K (.ref C_Machine) "drum" = some none)
    (pg_Cards : PySem.W.plainGet K C_Cards Str.empty = true)
    (hd_Cards : PySem.W.hasDictIn K C_Cards = true)
    (po_Cards : PySem.W.plainOver K C_Cards = true)
    (sa_Cards : PySem.W.findIn K (.ref C_Cards) "__setattr__" = some (some (.builtin "object.__setattr__")))
    (mk_Cards : PySem.W.makesIn K C_Cards = true)
    (kc_Cards : PySem.W.keepIn K (.ref C_Cards) = true)
    (n_Cards_words : PySem.W.findIn K (.ref C_Cards) "words" = some none)
    (n_Cards_read_count : PySem.W.findIn K (.ref C_Cards) "read_count" = some none)
    (n_Cards_punched : PySem.W.findIn K (.ref C_Cards) "punched" = some none)
    (g_LARGEST_WORD : PySem.W.nsIn K mainGlobals "LARGEST_WORD" = some (some (.int 9999999999 t_LARGEST_WORD)))
    (g_LARGEST_LONG : PySem.W.nsIn K mainGlobals "LARGEST_LONG" = some (some (.int 99999999999999999999 t_LARGEST_LONG)))
    (g_WORD_BASE : PySem.W.nsIn K mainGlobals "WORD_BASE" = some (some (.int 10000000000 t_WORD_BASE)))
    (g_LONG_BASE : PySem.W.nsIn K mainGlobals "LONG_BASE" = some (some (.int 100000000000000000000 t_LONG_BASE)))
    (g_LONG_DIGITS : PySem.W.nsIn K mainGlobals "LONG_DIGITS" = some (some (.int 20 t_LONG_DIGITS)))
    (g_DRUM_SIZE : PySem.W.nsIn K mainGlobals "DRUM_SIZE" = some (some (.int 2000 t_DRUM_SIZE)))
    (g_BAND_SIZE : PySem.W.nsIn K mainGlobals "BAND_SIZE" = some (some (.int 40 t_BAND_SIZE)))
    (g_TICK_COUNT : PySem.W.nsIn K mainGlobals "TICK_COUNT" = some (some (.int 18446744073709551616 t_TICK_COUNT)))
    (g_CARD_SIZE : PySem.W.nsIn K mainGlobals "CARD_SIZE" = some (some (.int 8 t_CARD_SIZE)))
    (g_HALT : PySem.W.nsIn K mainGlobals "HALT" = some (some (.int 0 t_HALT)))
    (g_NO_OPERATION : PySem.W.nsIn K mainGlobals "NO_OPERATION" = some (some (.int 1 t_NO_OPERATION)))
    (g_READ_CARD : PySem.W.nsIn K mainGlobals "READ_CARD" = some (some (.int 70 t_READ_CARD)))
    (g_PUNCH_CARD : PySem.W.nsIn K mainGlobals "PUNCH_CARD" = some (some (.int 71 t_PUNCH_CARD)))
    (g_NAMES : PySem.W.nsIn K mainGlobals "NAMES" = some (some (.ref r_NAMES)))
    (l_NAMES : K.lookup r_NAMES = some ⟨.type "dict", none, .dict es_NAMES ep_NAMES, #[]⟩)
    (d_NAMES : kdOk r_NAMES es_NAMES.toList [(Sum.inl 0, .str "HLT"), (Sum.inl 1, .str "NOP"), (Sum.inl 10, .str "LDA"), (Sum.inl 11, .str "LDN"), (Sum.inl 12, .str "ADD"), (Sum.inl 13, .str "SUB"), (Sum.inl 14, .str "ADM"), (Sum.inl 15, .str "SBM"), (Sum.inl 16, .str "ADU"), (Sum.inl 17, .str "SBU"), (Sum.inl 18, .str "LDD"), (Sum.inl 20, .str "MUL"), (Sum.inl 21, .str "DIV"), (Sum.inl 30, .str "STL"), (Sum.inl 31, .str "STU"), (Sum.inl 32, .str "STD"), (Sum.inl 40, .str "SHL"), (Sum.inl 41, .str "SHR"), (Sum.inl 42, .str "SRR"), (Sum.inl 43, .str "SCT"), (Sum.inl 50, .str "BMI"), (Sum.inl 51, .str "BNZ"), (Sum.inl 52, .str "BOV"), (Sum.inl 60, .str "TLU"), (Sum.inl 70, .str "RDC"), (Sum.inl 71, .str "PCH")] = true)
    (g_LARGEST_SHIFT : PySem.W.nsIn K mainGlobals "LARGEST_SHIFT" = some (some (.int 20 t_LARGEST_SHIFT)))
    (g_GOES_ON : PySem.W.nsIn K mainGlobals "GOES_ON" = some (some (.int 0 t_GOES_ON)))
    (g_STOPPED_BY_ORDER : PySem.W.nsIn K mainGlobals "STOPPED_BY_ORDER" = some (some (.int 1 t_STOPPED_BY_ORDER)))
    (g_BELOW_ZERO : PySem.W.nsIn K mainGlobals "BELOW_ZERO" = some (some (.int 2 t_BELOW_ZERO)))
    (g_NO_SUCH_CODE : PySem.W.nsIn K mainGlobals "NO_SUCH_CODE" = some (some (.int 3 t_NO_SUCH_CODE)))
    (g_NO_ADDRESS : PySem.W.nsIn K mainGlobals "NO_ADDRESS" = some (some (.int 4 t_NO_ADDRESS)))
    (g_NO_SHIFT : PySem.W.nsIn K mainGlobals "NO_SHIFT" = some (some (.int 5 t_NO_SHIFT)))
    (g_NO_CARD : PySem.W.nsIn K mainGlobals "NO_CARD" = some (some (.int 6 t_NO_CARD)))
    (g_PASSED_WHERE_NONE : PySem.W.nsIn K mainGlobals "PASSED_WHERE_NONE" = some (some (.int 39 t_PASSED_WHERE_NONE)))
    (g_ACTIONS : PySem.W.nsIn K mainGlobals "ACTIONS" = some (some (.ref r_ACTIONS)))
    (l_ACTIONS : K.lookup r_ACTIONS = some ⟨.type "dict", none, .dict es_ACTIONS ep_ACTIONS, #[]⟩)
    (d_ACTIONS : kdOk r_ACTIONS es_ACTIONS.toList [(Sum.inl 1, .ref f34), (Sum.inl 10, .ref f35), (Sum.inl 11, .ref f36), (Sum.inl 12, .ref f37), (Sum.inl 13, .ref f38), (Sum.inl 14, .ref f39), (Sum.inl 15, .ref f40), (Sum.inl 16, .ref f41), (Sum.inl 17, .ref f42), (Sum.inl 18, .ref f34), (Sum.inl 20, .ref f43), (Sum.inl 21, .ref f44), (Sum.inl 30, .ref f45), (Sum.inl 31, .ref f46), (Sum.inl 32, .ref f47), (Sum.inl 40, .ref f48), (Sum.inl 41, .ref f49), (Sum.inl 42, .ref f50), (Sum.inl 43, .ref f51), (Sum.inl 50, .ref f52), (Sum.inl 51, .ref f53), (Sum.inl 52, .ref f54), (Sum.inl 60, .ref f55)] = true)
    (g_TICKS_TO_TAKE_APART : PySem.W.nsIn K mainGlobals "TICKS_TO_TAKE_APART" = some (some (.int 3 t_TICKS_TO_TAKE_APART)))
    (g_TICKS_OF_A_CARD : PySem.W.nsIn K mainGlobals "TICKS_OF_A_CARD" = some (some (.int 60 t_TICKS_OF_A_CARD)))
    (g_NEW : PySem.W.nsIn K mainGlobals "NEW" = some (some (.int 1 t_NEW)))
    (g_POKE : PySem.W.nsIn K mainGlobals "POKE" = some (some (.int 2 t_POKE)))
    (g_PEEK : PySem.W.nsIn K mainGlobals "PEEK" = some (some (.int 3 t_PEEK)))
    (g_TOLD : PySem.W.nsIn K mainGlobals "TOLD" = some (some (.int 4 t_TOLD)))
    (g_RUN : PySem.W.nsIn K mainGlobals "RUN" = some (some (.int 5 t_RUN)))
    (g_ORDER : PySem.W.nsIn K mainGlobals "ORDER" = some (some (.int 6 t_ORDER)))
    (g_DRUM : PySem.W.nsIn K mainGlobals "DRUM" = some (some (.int 7 t_DRUM)))
    (g_ARGUMENT_COUNTS : PySem.W.nsIn K mainGlobals "ARGUMENT_COUNTS" = some (some (.ref r_ARGUMENT_COUNTS)))
    (l_ARGUMENT_COUNTS : K.lookup r_ARGUMENT_COUNTS = some ⟨.type "dict", none, .dict es_ARGUMENT_COUNTS ep_ARGUMENT_COUNTS, #[]⟩)
    (d_ARGUMENT_COUNTS : kdOk r_ARGUMENT_COUNTS es_ARGUMENT_COUNTS.toList [(Sum.inl 1, .int 1), (Sum.inl 2, .int 2), (Sum.inl 3, .int 1), (Sum.inl 4, .int 0), (Sum.inl 5, .int 2), (Sum.inl 6, .int 1), (Sum.inl 7, .int 0), (Sum.inl 8, .int 6)] = true)
    (g_CALLS_WITH_A_LIST : PySem.W.nsIn K mainGlobals "CALLS_WITH_A_LIST" = some (some (.ref r_CALLS_WITH_A_LIST)))
    (l_CALLS_WITH_A_LIST : K.lookup r_CALLS_WITH_A_LIST = some ⟨.type "tuple", none, .seq it_CALLS_WITH_A_LIST in_CALLS_WITH_A_LIST, isl_CALLS_WITH_A_LIST⟩)
    (zz_CALLS_WITH_A_LIST : it_CALLS_WITH_A_LIST.size ≤ sizeLine)
    (d_CALLS_WITH_A_LIST : valsOk it_CALLS_WITH_A_LIST.toList [.int 5, .int 8] = true)
    (g_DONE : PySem.W.nsIn K mainGlobals "DONE" = some (some (.int 0 t_DONE)))
    (g_NOT_GRANTED : PySem.W.nsIn K mainGlobals "NOT_GRANTED" = some (some (.int (-1) t_NOT_GRANTED)))
    (g_NOT_OF_THE_FORM : PySem.W.nsIn K mainGlobals "NOT_OF_THE_FORM" = some (some (.int (-6) t_NOT_OF_THE_FORM)))
    (g_MOST_ORDERS : PySem.W.nsIn K mainGlobals "MOST_ORDERS" = some (some (.int 10000 t_MOST_ORDERS)))
    (g_MOST_CARD_WORDS : PySem.W.nsIn K mainGlobals "MOST_CARD_WORDS" = some (some (.int 512 t_MOST_CARD_WORDS)))
    (g_LAST_STATE : PySem.W.nsIn K mainGlobals "LAST_STATE" = some (some (.int 6 t_LAST_STATE)))
    (z_abs : PySem.W.nsIn K mainGlobals "abs" = some none)
    (z_all : PySem.W.nsIn K mainGlobals "all" = some none)
    (z_enumerate : PySem.W.nsIn K mainGlobals "enumerate" = some none)
    (z_len : PySem.W.nsIn K mainGlobals "len" = some none)
    (z_ord : PySem.W.nsIn K mainGlobals "ord" = some none)
    (z_range : PySem.W.nsIn K mainGlobals "range" = some none)
    (z_str : PySem.W.nsIn K mainGlobals "str" = some none)
    : ∃ fd : FuncData, (∀ (s : Shared) (us : List Value), us.length = (["calls"] : List Str).length → BindsTo s fd ⟨us, []⟩ ((["calls"] : List Str).zip us)) ∧ ∀ base : Heap, K.In base → base.Ns mainGlobals mg → FnOk P w K mg base CX0 11 fa fd ["calls"] (sp_main K) := by
  have e : f73 = fa := (Value.ref.inj (Option.some.inj (hfa.symm.trans (PySem.W.mg_of X G a73)))).symm
  subst e
  have F0 := fun_mk (st := s_is_word) l0 c0 k0
  have b0 := F0.binds (ps := ["number"]) fun _ _ _ _ _ _ us hl => match us, hl with | [_], _ => rfl
  have F1 := fun_mk (st := s_is_long) l1 c1 k1
  have b1 := F1.binds (ps := ["number"]) fun _ _ _ _ _ _ us hl => match us, hl with | [_], _ => rfl
  have F2 := fun_mk (st := s_with_sign_of) l2 c2 k2
  have b2 := F2.binds (ps := ["number", "size"]) fun _ _ _ _ _ _ us hl => match us, hl with | [_, _], _ => rfl
  have F3 := fun_mk (st := s_divided) l3 c3 k3
  have b3 := F3.binds (ps := ["number", "divisor"]) fun _ _ _ _ _ _ us hl => match us, hl with | [_, _], _ => rfl
  have F4 := fun_mk (st := s_divided_rounded) l4 c4 k4
  have b4 := F4.binds (ps := ["number", "divisor"]) fun _ _ _ _ _ _ us hl => match us, hl with | [_, _], _ => rfl
  have F5 := fun_mk (st := s_upper_word) l5 c5 k5
  have b5 := F5.binds (ps := ["number"]) fun _ _ _ _ _ _ us hl => match us, hl with | [_], _ => rfl
  have F6 := fun_mk (st := s_lower_word) l6 c6 k6
  have b6 := F6.binds (ps := ["number"]) fun _ _ _ _ _ _ us hl => match us, hl with | [_], _ => rfl
  have F7 := fun_mk (st := s_lower_twenty) l7 c7 k7
  have b7 := F7.binds (ps := ["number"]) fun _ _ _ _ _ _ us hl => match us, hl with | [_], _ => rfl
  have F8 := fun_mk (st := s_digit_sum) l8 c8 k8
  have b8 := F8.binds (ps := ["number"]) fun _ _ _ _ _ _ us hl => match us, hl with | [_], _ => rfl
  have F9 := fun_mk (st := s_power_of_ten) l9 c9 k9
  have b9 := F9.binds (ps := ["exponent"]) fun _ _ _ _ _ _ us hl => match us, hl with | [_], _ => rfl
  have F10 := fun_mk (st := s_tens_that_fit) l10 c10 k10
  have b10 := F10.binds (ps := ["number"]) fun _ _ _ _ _ _ us hl => match us, hl with | [_], _ => rfl
  have F11 := fun_mk (st := s_is_address) l11 c11 k11
  have b11 := F11.binds (ps := ["number"]) fun _ _ _ _ _ _ us hl => match us, hl with | [_], _ => rfl
  have F12 := fun_mk (st := s_is_tick) l12 c12 k12
  have b12 := F12.binds (ps := ["number"]) fun _ _ _ _ _ _ us hl => match us, hl with | [_], _ => rfl
  have F13 := fun_mk (st := s_next_around) l13 c13 k13
  have b13 := F13.binds (ps := ["address"]) fun _ _ _ _ _ _ us hl => match us, hl with | [_], _ => rfl
  have F14 := fun_mk (st := s_band_from) l14 c14 k14
  have b14 := F14.binds (ps := ["drum", "address"]) fun _ _ _ _ _ _ us hl => match us, hl with | [_, _], _ => rfl
  have F15 := fun_mk (st := s_waited) l15 c15 k15
  have b15 := F15.binds (ps := ["tick", "address"]) fun _ _ _ _ _ _ us hl => match us, hl with | [_, _], _ => rfl
  have F16 := fun_mk (st := s_Machine_init) l16 c16 k16
  have b16 := F16.binds (ps := ["self"]) fun _ _ _ _ _ _ us hl => match us, hl with | [_], _ => rfl
  have F17 := fun_mk (st := s_Machine_begin) l17 c17 k17
  have b17 := F17.binds (ps := ["self", "start"]) fun _ _ _ _ _ _ us hl => match us, hl with | [_, _], _ => rfl
  have F18 := fun_mk (st := s_Machine_keep) l18 c18 k18
  have b18 := F18.binds (ps := ["self", "number"]) fun _ _ _ _ _ _ us hl => match us, hl with | [_, _], _ => rfl
  have F19 := fun_mk (st := s_Machine_pass_to) l19 c19 k19
  have b19 := F19.binds (ps := ["self", "tick"]) fun _ _ _ _ _ _ us hl => match us, hl with | [_, _], _ => rfl
  have F20 := fun_mk (st := s_Cards_init) l20 c20 k20
  have b20 := F20.binds (ps := ["self", "words"]) fun _ _ _ _ _ _ us hl => match us, hl with | [_, _], _ => rfl
  have F21 := fun_mk (st := s_Cards_is_left) l21 c21 k21
  have b21 := F21.binds (ps := ["self"]) fun _ _ _ _ _ _ us hl => match us, hl with | [_], _ => rfl
  have F22 := fun_mk (st := s_Cards_read_to) l22 c22 k22
  have b22 := F22.binds (ps := ["self", "drum", "address"]) fun _ _ _ _ _ _ us hl => match us, hl with | [_, _, _], _ => rfl
  have F23 := fun_mk (st := s_Cards_punch_from) l23 c23 k23
  have b23 := F23.binds (ps := ["self", "drum", "address"]) fun _ _ _ _ _ _ us hl => match us, hl with | [_, _, _], _ => rfl
  have F24 := fun_mk (st := s_code_of) l24 c24 k24
  have b24 := F24.binds (ps := ["word"]) fun _ _ _ _ _ _ us hl => match us, hl with | [_], _ => rfl
  have F25 := fun_mk (st := s_data_of) l25 c25 k25
  have b25 := F25.binds (ps := ["word"]) fun _ _ _ _ _ _ us hl => match us, hl with | [_], _ => rfl
  have F26 := fun_mk (st := s_next_of) l26 c26 k26
  have b26 := F26.binds (ps := ["word"]) fun _ _ _ _ _ _ us hl => match us, hl with | [_], _ => rfl
  have F27 := fun_mk (st := s_is_order) l27 c27 k27
  have b27 := F27.binds (ps := ["word"]) fun _ _ _ _ _ _ us hl => match us, hl with | [_], _ => rfl
  have F28 := fun_mk (st := s_writing) l28 c28 k28
  have b28 := F28.binds (ps := ["word"]) fun _ _ _ _ _ _ us hl => match us, hl with | [_], _ => rfl
  have F29 := fun_mk (st := s_loads_d) l29 c29 k29
  have b29 := F29.binds (ps := ["code"]) fun _ _ _ _ _ _ us hl => match us, hl with | [_], _ => rfl
  have F30 := fun_mk (st := s_waits) l30 c30 k30
  have b30 := F30.binds (ps := ["code"]) fun _ _ _ _ _ _ us hl => match us, hl with | [_], _ => rfl
  have F31 := fun_mk (st := s_shifts_by_data) l31 c31 k31
  have b31 := F31.binds (ps := ["code"]) fun _ _ _ _ _ _ us hl => match us, hl with | [_], _ => rfl
  have F32 := fun_mk (st := s_has_data_address) l32 c32 k32
  have b32 := F32.binds (ps := ["code"]) fun _ _ _ _ _ _ us hl => match us, hl with | [_], _ => rfl
  have F33 := fun_mk (st := s_stopping_state) l33 c33 k33
  have b33 := F33.binds (ps := ["word", "is_card_left"]) fun _ _ _ _ _ _ us hl => match us, hl with | [_, _], _ => rfl
  have F34 := fun_mk (st := s_nothing_more) l34 c34 k34
  have b34 := F34.binds (ps := ["machine", "address"]) fun _ _ _ _ _ _ us hl => match us, hl with | [_, _], _ => rfl
  have F35 := fun_mk (st := s_load_a) l35 c35 k35
  have b35 := F35.binds (ps := ["machine", "address"]) fun _ _ _ _ _ _ us hl => match us, hl with | [_, _], _ => rfl
  have F36 := fun_mk (st := s_load_negated) l36 c36 k36
  have b36 := F36.binds (ps := ["machine", "address"]) fun _ _ _ _ _ _ us hl => match us, hl with | [_, _], _ => rfl
  have F37 := fun_mk (st := s_add) l37 c37 k37
  have b37 := F37.binds (ps := ["machine", "address"]) fun _ _ _ _ _ _ us hl => match us, hl with | [_, _], _ => rfl
  have F38 := fun_mk (st := s_subtract) l38 c38 k38
  have b38 := F38.binds (ps := ["machine", "address"]) fun _ _ _ _ _ _ us hl => match us, hl with | [_, _], _ => rfl
  have F39 := fun_mk (st := s_add_unsigned) l39 c39 k39
  have b39 := F39.binds (ps := ["machine", "address"]) fun _ _ _ _ _ _ us hl => match us, hl with | [_, _], _ => rfl
  have F40 := fun_mk (st := s_subtract_unsigned) l40 c40 k40
  have b40 := F40.binds (ps := ["machine", "address"]) fun _ _ _ _ _ _ us hl => match us, hl with | [_, _], _ => rfl
  have F41 := fun_mk (st := s_add_upper) l41 c41 k41
  have b41 := F41.binds (ps := ["machine", "address"]) fun _ _ _ _ _ _ us hl => match us, hl with | [_, _], _ => rfl
  have F42 := fun_mk (st := s_subtract_upper) l42 c42 k42
  have b42 := F42.binds (ps := ["machine", "address"]) fun _ _ _ _ _ _ us hl => match us, hl with | [_, _], _ => rfl
  have F43 := fun_mk (st := s_multiply) l43 c43 k43
  have b43 := F43.binds (ps := ["machine", "address"]) fun _ _ _ _ _ _ us hl => match us, hl with | [_, _], _ => rfl
  have F44 := fun_mk (st := s_divide) l44 c44 k44
  have b44 := F44.binds (ps := ["machine", "address"]) fun _ _ _ _ _ _ us hl => match us, hl with | [_, _], _ => rfl
  have F45 := fun_mk (st := s_store_lower) l45 c45 k45
  have b45 := F45.binds (ps := ["machine", "address"]) fun _ _ _ _ _ _ us hl => match us, hl with | [_, _], _ => rfl
  have F46 := fun_mk (st := s_store_upper) l46 c46 k46
  have b46 := F46.binds (ps := ["machine", "address"]) fun _ _ _ _ _ _ us hl => match us, hl with | [_, _], _ => rfl
  have F47 := fun_mk (st := s_store_d) l47 c47 k47
  have b47 := F47.binds (ps := ["machine", "address"]) fun _ _ _ _ _ _ us hl => match us, hl with | [_, _], _ => rfl
  have F48 := fun_mk (st := s_shift_left) l48 c48 k48
  have b48 := F48.binds (ps := ["machine", "address"]) fun _ _ _ _ _ _ us hl => match us, hl with | [_, _], _ => rfl
  have F49 := fun_mk (st := s_shift_right) l49 c49 k49
  have b49 := F49.binds (ps := ["machine", "address"]) fun _ _ _ _ _ _ us hl => match us, hl with | [_, _], _ => rfl
  have F50 := fun_mk (st := s_shift_right_rounded) l50 c50 k50
  have b50 := F50.binds (ps := ["machine", "address"]) fun _ _ _ _ _ _ us hl => match us, hl with | [_, _], _ => rfl
  have F51 := fun_mk (st := s_shift_and_count) l51 c51 k51
  have b51 := F51.binds (ps := ["machine", "address"]) fun _ _ _ _ _ _ us hl => match us, hl with | [_, _], _ => rfl
  have F52 := fun_mk (st := s_branch_below_zero) l52 c52 k52
  have b52 := F52.binds (ps := ["machine", "address"]) fun _ _ _ _ _ _ us hl => match us, hl with | [_, _], _ => rfl
  have F53 := fun_mk (st := s_branch_not_zero) l53 c53 k53
  have b53 := F53.binds (ps := ["machine", "address"]) fun _ _ _ _ _ _ us hl => match us, hl with | [_, _], _ => rfl
  have F54 := fun_mk (st := s_branch_over) l54 c54 k54
  have b54 := F54.binds (ps := ["machine", "address"]) fun _ _ _ _ _ _ us hl => match us, hl with | [_, _], _ => rfl
  have F55 := fun_mk (st := s_look_up) l55 c55 k55
  have b55 := F55.binds (ps := ["machine", "address"]) fun _ _ _ _ _ _ us hl => match us, hl with | [_, _], _ => rfl
  have F56 := fun_mk (st := s_act) l56 c56 k56
  have b56 := F56.binds (ps := ["machine", "cards", "code", "address"]) fun _ _ _ _ _ _ us hl => match us, hl with | [_, _, _, _], _ => rfl
  have F57 := fun_mk (st := s_carry_out) l57 c57 k57
  have b57 := F57.binds (ps := ["machine", "cards", "word", "tick"]) fun _ _ _ _ _ _ us hl => match us, hl with | [_, _, _, _], _ => rfl
  have F58 := fun_mk (st := s_one_order) l58 c58 k58
  have b58 := F58.binds (ps := ["machine", "cards"]) fun _ _ _ _ _ _ us hl => match us, hl with | [_, _], _ => rfl
  have F59 := fun_mk (st := s_run_orders) l59 c59 k59
  have b59 := F59.binds (ps := ["machine", "cards", "orders", "until"]) fun _ _ _ _ _ _ us hl => match us, hl with | [_, _, _, _], _ => rfl
  have F60 := fun_mk (st := s_new) l60 c60 k60
  have b60 := F60.binds (ps := ["machine", "start"]) fun _ _ _ _ _ _ us hl => match us, hl with | [_, _], _ => rfl
  have F61 := fun_mk (st := s_poke) l61 c61 k61
  have b61 := F61.binds (ps := ["machine", "address", "word"]) fun _ _ _ _ _ _ us hl => match us, hl with | [_, _, _], _ => rfl
  have F62 := fun_mk (st := s_peek) l62 c62 k62
  have b62 := F62.binds (ps := ["machine", "address"]) fun _ _ _ _ _ _ us hl => match us, hl with | [_, _], _ => rfl
  have F63 := fun_mk (st := s_told) l63 c63 k63
  have b63 := F63.binds (ps := ["machine"]) fun _ _ _ _ _ _ us hl => match us, hl with | [_], _ => rfl
  have F64 := fun_mk (st := s_are_cards) l64 c64 k64
  have b64 := F64.binds (ps := ["words"]) fun _ _ _ _ _ _ us hl => match us, hl with | [_], _ => rfl
  have F65 := fun_mk (st := s_run) l65 c65 k65
  have b65 := F65.binds (ps := ["machine", "orders", "until", "words"]) fun _ _ _ _ _ _ us hl => match us, hl with | [_, _, _, _], _ => rfl
  have F66 := fun_mk (st := s_order) l66 c66 k66
  have b66 := F66.binds (ps := ["word"]) fun _ _ _ _ _ _ us hl => match us, hl with | [_], _ => rfl
  have F67 := fun_mk (st := s_drum) l67 c67 k67
  have b67 := F67.binds (ps := ["machine"]) fun _ _ _ _ _ _ us hl => match us, hl with | [_], _ => rfl
  have F68 := fun_mk (st := s_is_drum_form) l68 c68 k68
  have b68 := F68.binds (ps := ["numbers"]) fun _ _ _ _ _ _ us hl => match us, hl with | [_], _ => rfl
  have F69 := fun_mk (st := s_are_values) l69 c69 k69
  have b69 := F69.binds (ps := ["state", "over", "n", "t", "a", "d"]) fun _ _ _ _ _ _ us hl => match us, hl with | [_, _, _, _, _, _], _ => rfl
  have F70 := fun_mk (st := s_drum_of) l70 c70 k70
  have b70 := F70.binds (ps := ["numbers"]) fun _ _ _ _ _ _ us hl => match us, hl with | [_], _ => rfl
  have F71 := fun_mk (st := s_load) l71 c71 k71
  have b71 := F71.binds (ps := ["machine", "state", "over", "n", "t", "a", "d", "numbers"]) fun _ _ _ _ _ _ us hl => match us, hl with | [_, _, _, _, _, _, _, _], _ => rfl
  have F72 := fun_mk (st := s_answer_one) l72 c72 k72
  have b72 := F72.binds (ps := ["machine", "call", "arguments", "numbers"]) fun _ _ _ _ _ _ us hl => match us, hl with | [_, _, _, _], _ => rfl
  have F73 := fun_mk (st := s_answers) l73 c73 k73
  have b73 := F73.binds (ps := ["calls"]) fun _ _ _ _ _ _ us hl => match us, hl with | [_], _ => rfl
  have T : Txt K mg ⟨f0, f1, f2, f3, f4, f5, f6, f7, f8, f9, f10, f11, f12, f13, f14, f15, f16, f17, f18, f19, f20, f21, f22, f23, f24, f25, f26, f27, f28, f29, f30, f31, f32, f33, f34, f35, f36, f37, f38, f39, f40, f41, f42, f43, f44, f45, f46, f47, f48, f49, f50, f51, f52, f53, f54, f55, f56, f57, f58, f59, f60, f61, f62, f63, f64, f65, f66, f67, f68, f69, f70, f71, f72, f73, C_Machine, C_Cards, r_NAMES, r_ACTIONS, r_ARGUMENT_COUNTS, r_CALLS_WITH_A_LIST⟩ ⟨_, _, _, _, _, _, _, _, _, _, _, _, _, _, _, _, _, _, _, _, _, _, _, _, _, _, _, _, _, _, _, _, _, _, _, _, _, _, _, _, _, _, _, _, _, _, _, _, _, _, _, _, _, _, _, _, _, _, _, _, _, _, _, _, _, _, _, _, _, _, _, _, _, _⟩ := ⟨F0, b0, F1, b1, F2, b2, F3, b3, F4, b4, F5, b5, F6, b6, F7, b7, F8, b8, F9, b9, F10, b10, F11, b11, F12, b12, F13, b13, F14, b14, F15, b15, F16, b16, F17, b17, F18, b18, F19, b19, F20, b20, F21, b21, F22, b22, F23, b23, F24, b24, F25, b25, F26, b26, F27, b27, F28, b28, F29, b29, F30, b30, F31, b31, F32, b32, F33, b33, F34, b34, F35, b35, F36, b36, F37, b37, F38, b38, F39, b39, F40, b40, F41, b41, F42, b42, F43, b43, F44, b44, F45, b45, F46, b46, F47, b47, F48, b48, F49, b49, F50, b50, F51, b51, F52, b52, F53, b53, F54, b54, F55, b55, F56, b56, F57, b57, F58, b58, F59, b59, F60, b60, F61, b61, F62, b62, F63, b63, F64, b64, F65, b65, F66, b66, F67, b67, F68, b68, F69, b69, F70, b70, F71, b71, F72, b72, F73, b73, PySem.W.mg_of X G a0, PySem.W.mg_of X G a1, PySem.W.mg_of X G a2, PySem.W.mg_of X G a3, PySem.W.mg_of X G a4, PySem.W.mg_of X G a5, PySem.W.mg_of X G a6, PySem.W.mg_of X G a7, PySem.W.mg_of X G a8, PySem.W.mg_of X G a9, PySem.W.mg_of X G a10, PySem.W.mg_of X G a11, PySem.W.mg_of X G a12, PySem.W.mg_of X G a13, PySem.W.mg_of X G a14, PySem.W.mg_of X G a15, PySem.W.mg_of X G a24, PySem.W.mg_of X G a25, PySem.W.mg_of X G a26, PySem.W.mg_of X G a27, PySem.W.mg_of X G a28, PySem.W.mg_of X G a29, PySem.W.mg_of X G a30, PySem.W.mg_of X G a31, PySem.W.mg_of X G a32, PySem.W.mg_of X G a33, PySem.W.mg_of X G a34, PySem.W.mg_of X G a35, PySem.W.mg_of X G a36, PySem.W.mg_of X G a37, PySem.W.mg_of X G a38, PySem.W.mg_of X G a39, PySem.W.mg_of X G a40, PySem.W.mg_of X G a41, PySem.W.mg_of X G a42, PySem.W.mg_of X G a43, PySem.W.mg_of X G a44, PySem.W.mg_of X G a45, PySem.W.mg_of X G a46, PySem.W.mg_of X G a47, PySem.W.mg_of X G a48, PySem.W.mg_of X G a49, PySem.W.mg_of X G a50, PySem.W.mg_of X G a51, PySem.W.mg_of X G a52, PySem.W.mg_of X G a53, PySem.W.mg_of X G a54, PySem.W.mg_of X G a55, PySem.W.mg_of X G a56, PySem.W.mg_of X G a57, PySem.W.mg_of X G a58, PySem.W.mg_of X G a59, PySem.W.mg_of X G a60, PySem.W.mg_of X G a61, PySem.W.mg_of X G a62, PySem.W.mg_of X G a63, PySem.W.mg_of X G a64, PySem.W.mg_of X G a65, PySem.W.mg_of X G a66, PySem.W.mg_of X G a67, PySem.W.mg_of X G a68, PySem.W.mg_of X G a69, PySem.W.mg_of X G a70, PySem.W.mg_of X G a71, PySem.W.mg_of X G a72, PySem.W.mg_of X G a73, ⟨pg_Machine, hd_Machine, po_Machine, sa_Machine⟩, PySem.W.mg_of X G g_Machine, ⟨mk_Machine, a16, i16, kc_Machine⟩, n_Machine_state, n_Machine_over, n_Machine_n, n_Machine_t, n_Machine_a, n_Machine_d, n_Machine_drum, ⟨pg_Cards, hd_Cards, po_Cards, sa_Cards⟩, PySem.W.mg_of X G g_Cards, ⟨mk_Cards, a20, i20, kc_Cards⟩, n_Cards_words, n_Cards_read_count, n_Cards_punched, ⟨a17, i17, k17⟩, ⟨a18, i18, k18⟩, ⟨a19, i19, k19⟩, ⟨a21, i21, k21⟩, ⟨a22, i22, k22⟩, ⟨a23, i23, k23⟩, ⟨_, PySem.W.mg_of X G g_LARGEST_WORD⟩, ⟨_, PySem.W.mg_of X G g_LARGEST_LONG⟩, ⟨_, PySem.W.mg_of X G g_WORD_BASE⟩, ⟨_, PySem.W.mg_of X G g_LONG_BASE⟩, ⟨_, PySem.W.mg_of X G g_LONG_DIGITS⟩, ⟨_, PySem.W.mg_of X G g_DRUM_SIZE⟩, ⟨_, PySem.W.mg_of X G g_BAND_SIZE⟩, ⟨_, PySem.W.mg_of X G g_TICK_COUNT⟩, ⟨_, PySem.W.mg_of X G g_CARD_SIZE⟩, ⟨_, PySem.W.mg_of X G g_HALT⟩, ⟨_, PySem.W.mg_of X G g_NO_OPERATION⟩, ⟨_, PySem.W.mg_of X G g_READ_CARD⟩, ⟨_, PySem.W.mg_of X G g_PUNCH_CARD⟩, PySem.W.mg_of X G g_NAMES, kdict_mk l_NAMES d_NAMES, ⟨_, PySem.W.mg_of X G g_LARGEST_SHIFT⟩, ⟨_, PySem.W.mg_of X G g_GOES_ON⟩, ⟨_, PySem.W.mg_of X G g_STOPPED_BY_ORDER⟩, ⟨_, PySem.W.mg_of X G g_BELOW_ZERO⟩, ⟨_, PySem.W.mg_of X G g_NO_SUCH_CODE⟩, ⟨_, PySem.W.mg_of X G g_NO_ADDRESS⟩, ⟨_, PySem.W.mg_of X G g_NO_SHIFT⟩, ⟨_, PySem.W.mg_of X G g_NO_CARD⟩, ⟨_, PySem.W.mg_of X G g_PASSED_WHERE_NONE⟩, PySem.W.mg_of X G g_ACTIONS, kdict_mk l_ACTIONS d_ACTIONS, ⟨_, PySem.W.mg_of X G g_TICKS_TO_TAKE_APART⟩, ⟨_, PySem.W.mg_of X G g_TICKS_OF_A_CARD⟩, ⟨_, PySem.W.mg_of X G g_NEW⟩, ⟨_, PySem.W.mg_of X G g_POKE⟩, ⟨_, PySem.W.mg_of X G g_PEEK⟩, ⟨_, PySem.W.mg_of X G g_TOLD⟩, ⟨_, PySem.W.mg_of X G g_RUN⟩, ⟨_, PySem.W.mg_of X G g_ORDER⟩, ⟨_, PySem.W.mg_of X G g_DRUM⟩, PySem.W.mg_of X G g_ARGUMENT_COUNTS, kdict_mk l_ARGUMENT_COUNTS d_ARGUMENT_COUNTS, PySem.W.mg_of X G g_CALLS_WITH_A_LIST, ktup_mk l_CALLS_WITH_A_LIST d_CALLS_WITH_A_LIST zz_CALLS_WITH_A_LIST, ⟨_, PySem.W.mg_of X G g_DONE⟩, ⟨_, PySem.W.mg_of X G g_NOT_GRANTED⟩, ⟨_, PySem.W.mg_of X G g_NOT_OF_THE_FORM⟩, ⟨_, PySem.W.mg_of X G g_MOST_ORDERS⟩, ⟨_, PySem.W.mg_of X G g_MOST_CARD_WORDS⟩, ⟨_, PySem.W.mg_of X G g_LAST_STATE⟩, PySem.W.mg_none_of X G z_abs, PySem.W.mg_none_of X G z_all, PySem.W.mg_none_of X G z_enumerate, PySem.W.mg_none_of X G z_len, PySem.W.mg_none_of X G z_ord, PySem.W.mg_none_of X G z_range, PySem.W.mg_none_of X G z_str⟩
  exact ⟨_, fun s us hu => match us, hu with | [_], _ => .of_eq rfl, fun base _ _ => ok_main T⟩
theorem len_within {lo hi : Int} {n : Nat} {x : PySem.W.Codec.denoteAll [.list 0 n (.int lo hi)]} (h : PySem.W.Codec.withinAll [.list 0 n (.int lo hi)] x = true) : x.1.length ≤ n := by
  have h1 : (PySem.W.Codec.within (.list 0 n (.int lo hi)) x.1 && PySem.W.Codec.withinAll [] x.2) = true := h
  rw [Bool.and_eq_true] at h1
  have h2 := h1.1
  simp only [PySem.W.Codec.within, PySem.W.Codec.inList, PySem.W.Codec.inLen, PySem.W.Codec.inNat, Bool.and_eq_true, decide_eq_true_eq] at h2
  exact h2.1.2
end TD
-- names taken, so that the head lays no equations for its greatest states: they grow with the square of the heap
def PySem.W.Fast.tw4953954816442898540 : Unit := ()
def PySem.W.Fast.tw910738304393101155 : Unit := ()
def PySem.W.Fast.tw14178081861602947562 : Unit := ()
def PySem.W.Fast.tw10354547806217040598 : Unit := ()
def PySem.W.Fast.tw9487994265926899890 : Unit := ()
def PySem.W.Fast.tw11582298983284392900 : Unit := ()
def PySem.W.Fast.tw9376111780225547182 : Unit := ()
def PySem.W.Fast.tw630526307567472167 : Unit := ()
def PySem.W.Fast.tw7408315834681758410 : Unit := ()
def PySem.W.Fast.tw11805740533162838969 : Unit := ()
def PySem.W.Fast.tw224042765679373953 : Unit := ()
def PySem.W.Fast.tw3041937337850657505 : Unit := ()
def PySem.W.Fast.tw1604998606484712109 : Unit := ()
def PySem.W.Fast.tw2586880970773605610 : Unit := ()
def PySem.W.Fast.tw13697253358629947466 : Unit := ()
def PySem.W.Fast.tw10501232567663065151 : Unit := ()
def PySem.W.Fast.tw10023763144354179323 : Unit := ()
open PySem PySem.W PyProof.Rows
set_option maxRecDepth 100000 in
set_option maxHeartbeats 0 in
theorem PySem.Challenge.cw_turndrum_s01_answers_holds : PySem.Challenge.rw_turndrum_s01_answers.Holds := by
  w_on; k_headS; (case hw => exact ⟨[.list [.int 4]], by decide +kernel, by decide +kernel⟩)
  k_fillS
  refine L2.walk_specK (r := PySem.Challenge.rw_turndrum_s01_answers) (k := 11) (CX := L2.CX0) (ps := ["calls"]) (sp := TD.sp_main) (by decide +kernel) rfl rfl ⟨rfl, by decide, by decide⟩ (fun w h Y => PySem.W.kIn_of Y) ?F ?S (fun _ _ _ _ z => z)
  case F =>
    intro w mg fa h Y KX G hmg
    refine' TD.all_mk KX G hmg ?g_Machine ?g_Cards ?a0 ?l0 ?c0 ?k0 ?a1 ?l1 ?c1 ?k1 ?a2 ?l2 ?c2 ?k2 ?a3 ?l3 ?c3 ?k3 ?a4 ?l4 ?c4 ?k4 ?a5 ?l5 ?c5 ?k5 ?a6 ?l6 ?c6 ?k6 ?a7 ?l7 ?c7 ?k7 ?a8 ?l8 ?c8 ?k8 ?a9 ?l9 ?c9 ?k9 ?a10 ?l10 ?c10 ?k10 ?a11 ?l11 ?c11 ?k11 ?a12 ?l12 ?c12 ?k12 ?a13 ?l13 ?c13 ?k13 ?a14 ?l14 ?c14 ?k14 ?a15 ?l15 ?c15 ?k15 ?a16 ?i16 ?l16 ?c16 ?k16 ?a17 ?i17 ?l17 ?c17 ?k17 ?a18 ?i18 ?l18 ?c18 ?k18 ?a19 ?i19 ?l19 ?c19 ?k19 ?a20 ?i20 ?l20 ?c20 ?k20 ?a21 ?i21 ?l21 ?c21 ?k21 ?a22 ?i22 ?l22 ?c22 ?k22 ?a23 ?i23 ?l23 ?c23 ?k23 ?a24 ?l24 ?c24 ?k24 ?a25 ?l25 ?c25 ?k25 ?a26 ?l26 ?c26 ?k26 ?a27 ?l27 ?c27 ?k27 ?a28 ?l28 ?c28 ?k28 ?a29 ?l29 ?c29 ?k29 ?a30 ?l30 ?c30 ?k30 ?a31 ?l31 ?c31 ?k31 ?a32 ?l32 ?c32 ?k32 ?a33 ?l33 ?c33 ?k33 ?a34 ?l34 ?c34 ?k34 ?a35 ?l35 ?c35 ?k35 ?a36 ?l36 ?c36 ?k36 ?a37 ?l37 ?c37 ?k37 ?a38 ?l38 ?c38 ?k38 ?a39 ?l39 ?c39 ?k39 ?a40 ?l40 ?c40 ?k40 ?a41 ?l41 ?c41 ?k41 ?a42 ?l42 ?c42 ?k42 ?a43 ?l43 ?c43 ?k43 ?a44 ?l44 ?c44 ?k44 ?a45 ?l45 ?c45 ?k45 ?a46 ?l46 ?c46 ?k46 ?a47 ?l47 ?c47 ?k47 ?a48 ?l48 ?c48 ?k48 ?a49 ?l49 ?c49 ?k49 ?a50 ?l50 ?c50 ?k50 ?a51 ?l51 ?c51 ?k51 ?a52 ?l52 ?c52 ?k52 ?a53 ?l53 ?c53 ?k53 ?a54 ?l54 ?c54 ?k54 ?a55 ?l55 ?c55 ?k55 ?a56 ?l56 ?c56 ?k56 ?a57 ?l57 ?c57 ?k57 ?a58 ?l58 ?c58 ?k58 ?a59 ?l59 ?c59 ?k59 ?a60 ?l60 ?c60 ?k60 ?a61 ?l61 ?c61 ?k61 ?a62 ?l62 ?c62 ?k62 ?a63 ?l63 ?c63 ?k63 ?a64 ?l64 ?c64 ?k64 ?a65 ?l65 ?c65 ?k65 ?a66 ?l66 ?c66 ?k66 ?a67 ?l67 ?c67 ?k67 ?a68 ?l68 ?c68 ?k68 ?a69 ?l69 ?c69 ?k69 ?a70 ?l70 ?c70 ?k70 ?a71 ?l71 ?c71 ?k71 ?a72 ?l72 ?c72 ?k72 ?a73 ?l73 ?c73 ?k73 ?pg_Machine ?hd_Machine ?po_Machine ?sa_Machine ?mk_Machine ?kc_Machine ?n_Machine_state ?n_Machine_over ?n_Machine_n ?n_Machine_t ?n_Machine_a ?n_Machine_d ?n_Machine_drum ?pg_Cards ?hd_Cards ?po_Cards ?sa_Cards ?mk_Cards ?kc_Cards ?n_Cards_words ?n_Cards_read_count ?n_Cards_punched ?g_LARGEST_WORD ?g_LARGEST_LONG ?g_WORD_BASE ?g_LONG_BASE ?g_LONG_DIGITS ?g_DRUM_SIZE ?g_BAND_SIZE ?g_TICK_COUNT ?g_CARD_SIZE ?g_HALT ?g_NO_OPERATION ?g_READ_CARD ?g_PUNCH_CARD ?g_NAMES ?l_NAMES ?d_NAMES ?g_LARGEST_SHIFT ?g_GOES_ON ?g_STOPPED_BY_ORDER ?g_BELOW_ZERO ?g_NO_SUCH_CODE ?g_NO_ADDRESS ?g_NO_SHIFT ?g_NO_CARD ?g_PASSED_WHERE_NONE ?g_ACTIONS ?l_ACTIONS ?d_ACTIONS ?g_TICKS_TO_TAKE_APART ?g_TICKS_OF_A_CARD ?g_NEW ?g_POKE ?g_PEEK ?g_TOLD ?g_RUN ?g_ORDER ?g_DRUM ?g_ARGUMENT_COUNTS ?l_ARGUMENT_COUNTS ?d_ARGUMENT_COUNTS ?g_CALLS_WITH_A_LIST ?l_CALLS_WITH_A_LIST ?zz_CALLS_WITH_A_LIST ?d_CALLS_WITH_A_LIST ?g_DONE ?g_NOT_GRANTED ?g_NOT_OF_THE_FORM ?g_MOST_ORDERS ?g_MOST_CARD_WORDS ?g_LAST_STATE ?z_abs ?z_all ?z_enumerate ?z_len ?z_ord ?z_range ?z_str
    (case g_Machine => first | k_is | rfl | decide +kernel)
    (case g_Cards => first | k_is | rfl | decide +kernel)
    (case a0 => first | k_is | rfl | decide +kernel)
    (case l0 => first | k_is | rfl | decide +kernel)
    (case c0 => first | k_is | rfl | decide +kernel)
    (case k0 => first | k_is | rfl | decide +kernel)
    (case a1 => first | k_is | rfl | decide +kernel)
    (case l1 => first | k_is | rfl | decide +kernel)
    (case c1 => first | k_is | rfl | decide +kernel)
    (case k1 => first | k_is | rfl | decide +kernel)
    (case a2 => first | k_is | rfl | decide +kernel)
    (case l2 => first | k_is | rfl | decide +kernel)
    (case c2 => first | k_is | rfl | decide +kernel)
    (case k2 => first | k_is | rfl | decide +kernel)
    (case a3 => first | k_is | rfl | decide +kernel)
    (case l3 => first | k_is | rfl | decide +kernel)
    (case c3 => first | k_is | rfl | decide +kernel)
    (case k3 => first | k_is | rfl | decide +kernel)
    (case a4 => first | k_is | rfl | decide +kernel)
    (case l4 => first | k_is | rfl | decide +kernel)
    (case c4 => first | k_is | rfl | decide +kernel)
    (case k4 => first | k_is | rfl | decide +kernel)
    (case a5 => first | k_is | rfl | decide +kernel)
    (case l5 => first | k_is | rfl | decide +kernel)
    (case c5 => first | k_is | rfl | decide +kernel)
    (case k5 => first | k_is | rfl | decide +kernel)
    (case a6 => first | k_is | rfl | decide +kernel)
    (case l6 => first | k_is | rfl | decide +kernel)
    (case c6 => first | k_is | rfl | decide +kernel)
    (case k6 => first | k_is | rfl | decide +kernel)
    (case a7 => first | k_is | rfl | decide +kernel)
    (case l7 => first | k_is | rfl | decide +kernel)
    (case c7 => first | k_is | rfl | decide +kernel)
    (case k7 => first | k_is | rfl | decide +kernel)
    (case a8 => first | k_is | rfl | decide +kernel)
    (case l8 => first | k_is | rfl | decide +kernel)
    (case c8 => first | k_is | rfl | decide +kernel)
    (case k8 => first | k_is | rfl | decide +kernel)
    (case a9 => first | k_is | rfl | decide +kernel)
    (case l9 => first | k_is | rfl | decide +kernel)
    (case c9 => first | k_is | rfl | decide +kernel)
    (case k9 => first | k_is | rfl | decide +kernel)
    (case a10 => first | k_is | rfl | decide +kernel)
    (case l10 => first | k_is | rfl | decide +kernel)
    (case c10 => first | k_is | rfl | decide +kernel)
    (case k10 => first | k_is | rfl | decide +kernel)
    (case a11 => first | k_is | rfl | decide +kernel)
    (case l11 => first | k_is | rfl | decide +kernel)
    (case c11 => first | k_is | rfl | decide +kernel)
    (case k11 => first | k_is | rfl | decide +kernel)
    (case a12 => first | k_is | rfl | decide +kernel)
    (case l12 => first | k_is | rfl | decide +kernel)
    (case c12 => first | k_is | rfl | decide +kernel)
    (case k12 => first | k_is | rfl | decide +kernel)
    (case a13 => first | k_is | rfl | decide +kernel)
    (case l13 => first | k_is | rfl | decide +kernel)
    (case c13 => first | k_is | rfl | decide +kernel)
    (case k13 => first | k_is | rfl | decide +kernel)
    (case a14 => first | k_is | rfl | decide +kernel)
    (case l14 => first | k_is | rfl | decide +kernel)
    (case c14 => first | k_is | rfl | decide +kernel)
    (case k14 => first | k_is | rfl | decide +kernel)
    (case a15 => first | k_is | rfl | decide +kernel)
    (case l15 => first | k_is | rfl | decide +kernel)
    (case c15 => first | k_is | rfl | decide +kernel)
    (case k15 => first | k_is | rfl | decide +kernel)
    (case a16 => first | k_is | rfl | decide +kernel)
    (case i16 => first | k_is | rfl | decide +kernel)
    (case l16 => first | k_is | rfl | decide +kernel)
    (case c16 => first | k_is | rfl | decide +kernel)
    (case k16 => first | k_is | rfl | decide +kernel)
    (case a17 => first | k_is | rfl | decide +kernel)
    (case i17 => first | k_is | rfl | decide +kernel)
    (case l17 => first | k_is | rfl | decide +kernel)
    (case c17 => first | k_is | rfl | decide +kernel)
    (case k17 => first | k_is | rfl | decide +kernel)
    (case a18 => first | k_is | rfl | decide +kernel)
    (case i18 => first | k_is | rfl | decide +kernel)
    (case l18 => first | k_is | rfl | decide +kernel)
    (case c18 => first | k_is | rfl | decide +kernel)
    (case k18 => first | k_is | rfl | decide +kernel)
    (case a19 => first | k_is | rfl | decide +kernel)
    (case i19 => first | k_is | rfl | decide +kernel)
    (case l19 => first | k_is | rfl | decide +kernel)
    (case c19 => first | k_is | rfl | decide +kernel)
    (case k19 => first | k_is | rfl | decide +kernel)
    (case a20 => first | k_is | rfl | decide +kernel)
    (case i20 => first | k_is | rfl | decide +kernel)
    (case l20 => first | k_is | rfl | decide +kernel)
    (case c20 => first | k_is | rfl | decide +kernel)
    (case k20 => first | k_is | rfl | decide +kernel)
    (case a21 => first | k_is | rfl | decide +kernel)
    (case i21 => first | k_is | rfl | decide +kernel)
    (case l21 => first | k_is | rfl | decide +kernel)
    (case c21 => first | k_is | rfl | decide +kernel)
    (case k21 => first | k_is | rfl | decide +kernel)
    (case a22 => first | k_is | rfl | decide +kernel)
    (case i22 => first | k_is | rfl | decide +kernel)
    (case l22 => first | k_is | rfl | decide +kernel)
    (case c22 => first | k_is | rfl | decide +kernel)
    (case k22 => first | k_is | rfl | decide +kernel)
    (case a23 => first | k_is | rfl | decide +kernel)
    (case i23 => first | k_is | rfl | decide +kernel)
    (case l23 => first | k_is | rfl | decide +kernel)
    (case c23 => first | k_is | rfl | decide +kernel)
    (case k23 => first | k_is | rfl | decide +kernel)
    (case a24 => first | k_is | rfl | decide +kernel)
    (case l24 => first | k_is | rfl | decide +kernel)
    (case c24 => first | k_is | rfl | decide +kernel)
    (case k24 => first | k_is | rfl | decide +kernel)
    (case a25 => first | k_is | rfl | decide +kernel)
    (case l25 => first | k_is | rfl | decide +kernel)
    (case c25 => first | k_is | rfl | decide +kernel)
    (case k25 => first | k_is | rfl | decide +kernel)
    (case a26 => first | k_is | rfl | decide +kernel)
    (case l26 => first | k_is | rfl | decide +kernel)
    (case c26 => first | k_is | rfl | decide +kernel)
    (case k26 => first | k_is | rfl | decide +kernel)
    (case a27 => first | k_is | rfl | decide +kernel)
    (case l27 => first | k_is | rfl | decide +kernel)
    (case c27 => first | k_is | rfl | decide +kernel)
    (case k27 => first | k_is | rfl | decide +kernel)
    (case a28 => first | k_is | rfl | decide +kernel)
    (case l28 => first | k_is | rfl | decide +kernel)
    (case c28 => first | k_is | rfl | decide +kernel)
    (case k28 => first | k_is | rfl | decide +kernel)
    (case a29 => first | k_is | rfl | decide +kernel)
    (case l29 => first | k_is | rfl | decide +kernel)
    (case c29 => first | k_is | rfl | decide +kernel)
    (case k29 => first | k_is | rfl | decide +kernel)
    (case a30 => first | k_is | rfl | decide +kernel)
    (case l30 => first | k_is | rfl | decide +kernel)
    (case c30 => first | k_is | rfl | decide +kernel)
    (case k30 => first | k_is | rfl | decide +kernel)
    (case a31 => first | k_is | rfl | decide +kernel)
    (case l31 => first | k_is | rfl | decide +kernel)
    (case c31 => first | k_is | rfl | decide +kernel)
    (case k31 => first | k_is | rfl | decide +kernel)
    (case a32 => first | k_is | rfl | decide +kernel)
    (case l32 => first | k_is | rfl | decide +kernel)
    (case c32 => first | k_is | rfl | decide +kernel)
    (case k32 => first | k_is | rfl | decide +kernel)
    (case a33 => first | k_is | rfl | decide +kernel)
    (case l33 => first | k_is | rfl | decide +kernel)
    (case c33 => first | k_is | rfl | decide +kernel)
    (case k33 => first | k_is | rfl | decide +kernel)
    (case a34 => first | k_is | rfl | decide +kernel)
    (case l34 => first | k_is | rfl | decide +kernel)
    (case c34 => first | k_is | rfl | decide +kernel)
    (case k34 => first | k_is | rfl | decide +kernel)
    (case a35 => first | k_is | rfl | decide +kernel)
    (case l35 => first | k_is | rfl | decide +kernel)
    (case c35 => first | k_is | rfl | decide +kernel)
    (case k35 => first | k_is | rfl | decide +kernel)
    (case a36 => first | k_is | rfl | decide +kernel)
    (case l36 => first | k_is | rfl | decide +kernel)
    (case c36 => first | k_is | rfl | decide +kernel)
    (case k36 => first | k_is | rfl | decide +kernel)
    (case a37 => first | k_is | rfl | decide +kernel)
    (case l37 => first | k_is | rfl | decide +kernel)
    (case c37 => first | k_is | rfl | decide +kernel)
    (case k37 => first | k_is | rfl | decide +kernel)
    (case a38 => first | k_is | rfl | decide +kernel)
    (case l38 => first | k_is | rfl | decide +kernel)
    (case c38 => first | k_is | rfl | decide +kernel)
    (case k38 => first | k_is | rfl | decide +kernel)
    (case a39 => first | k_is | rfl | decide +kernel)
    (case l39 => first | k_is | rfl | decide +kernel)
    (case c39 => first | k_is | rfl | decide +kernel)
    (case k39 => first | k_is | rfl | decide +kernel)
    (case a40 => first | k_is | rfl | decide +kernel)
    (case l40 => first | k_is | rfl | decide +kernel)
    (case c40 => first | k_is | rfl | decide +kernel)
    (case k40 => first | k_is | rfl | decide +kernel)
    (case a41 => first | k_is | rfl | decide +kernel)
    (case l41 => first | k_is | rfl | decide +kernel)
    (case c41 => first | k_is | rfl | decide +kernel)
    (case k41 => first | k_is | rfl | decide +kernel)
    (case a42 => first | k_is | rfl | decide +kernel)
    (case l42 => first | k_is | rfl | decide +kernel)
    (case c42 => first | k_is | rfl | decide +kernel)
    (case k42 => first | k_is | rfl | decide +kernel)
    (case a43 => first | k_is | rfl | decide +kernel)
    (case l43 => first | k_is | rfl | decide +kernel)
    (case c43 => first | k_is | rfl | decide +kernel)
    (case k43 => first | k_is | rfl | decide +kernel)
    (case a44 => first | k_is | rfl | decide +kernel)
    (case l44 => first | k_is | rfl | decide +kernel)
    (case c44 => first | k_is | rfl | decide +kernel)
    (case k44 => first | k_is | rfl | decide +kernel)
    (case a45 => first | k_is | rfl | decide +kernel)
    (case l45 => first | k_is | rfl | decide +kernel)
    (case c45 => first | k_is | rfl | decide +kernel)
    (case k45 => first | k_is | rfl | decide +kernel)
    (case a46 => first | k_is | rfl | decide +kernel)
    (case l46 => first | k_is | rfl | decide +kernel)
    (case c46 => first | k_is | rfl | decide +kernel)
    (case k46 => first | k_is | rfl | decide +kernel)
    (case a47 => first | k_is | rfl | decide +kernel)
    (case l47 => first | k_is | rfl | decide +kernel)
    (case c47 => first | k_is | rfl | decide +kernel)
    (case k47 => first | k_is | rfl | decide +kernel)
    (case a48 => first | k_is | rfl | decide +kernel)
    (case l48 => first | k_is | rfl | decide +kernel)
    (case c48 => first | k_is | rfl | decide +kernel)
    (case k48 => first | k_is | rfl | decide +kernel)
    (case a49 => first | k_is | rfl | decide +kernel)
    (case l49 => first | k_is | rfl | decide +kernel)
    (case c49 => first | k_is | rfl | decide +kernel)
    (case k49 => first | k_is | rfl | decide +kernel)
    (case a50 => first | k_is | rfl | decide +kernel)
    (case l50 => first | k_is | rfl | decide +kernel)
    (case c50 => first | k_is | rfl | decide +kernel)
    (case k50 => first | k_is | rfl | decide +kernel)
    (case a51 => first | k_is | rfl | decide +kernel)
    (case l51 => first | k_is | rfl | decide +kernel)
    (case c51 => first | k_is | rfl | decide +kernel)
    (case k51 => first | k_is | rfl | decide +kernel)
    (case a52 => first | k_is | rfl | decide +kernel)
    (case l52 => first | k_is | rfl | decide +kernel)
    (case c52 => first | k_is | rfl | decide +kernel)
    (case k52 => first | k_is | rfl | decide +kernel)
    (case a53 => first | k_is | rfl | decide +kernel)
    (case l53 => first | k_is | rfl | decide +kernel)
    (case c53 => first | k_is | rfl | decide +kernel)
    (case k53 => first | k_is | rfl | decide +kernel)
    (case a54 => first | k_is | rfl | decide +kernel)
    (case l54 => first | k_is | rfl | decide +kernel)
    (case c54 => first | k_is | rfl | decide +kernel)
    (case k54 => first | k_is | rfl | decide +kernel)
    (case a55 => first | k_is | rfl | decide +kernel)
    (case l55 => first | k_is | rfl | decide +kernel)
    (case c55 => first | k_is | rfl | decide +kernel)
    (case k55 => first | k_is | rfl | decide +kernel)
    (case a56 => first | k_is | rfl | decide +kernel)
    (case l56 => first | k_is | rfl | decide +kernel)
    (case c56 => first | k_is | rfl | decide +kernel)
    (case k56 => first | k_is | rfl | decide +kernel)
    (case a57 => first | k_is | rfl | decide +kernel)
    (case l57 => first | k_is | rfl | decide +kernel)
    (case c57 => first | k_is | rfl | decide +kernel)
    (case k57 => first | k_is | rfl | decide +kernel)
    (case a58 => first | k_is | rfl | decide +kernel)
    (case l58 => first | k_is | rfl | decide +kernel)
    (case c58 => first | k_is | rfl | decide +kernel)
    (case k58 => first | k_is | rfl | decide +kernel)
    (case a59 => first | k_is | rfl | decide +kernel)
    (case l59 => first | k_is | rfl | decide +kernel)
    (case c59 => first | k_is | rfl | decide +kernel)
    (case k59 => first | k_is | rfl | decide +kernel)
    (case a60 => first | k_is | rfl | decide +kernel)
    (case l60 => first | k_is | rfl | decide +kernel)
    (case c60 => first | k_is | rfl | decide +kernel)
    (case k60 => first | k_is | rfl | decide +kernel)
    (case a61 => first | k_is | rfl | decide +kernel)
    (case l61 => first | k_is | rfl | decide +kernel)
    (case c61 => first | k_is | rfl | decide +kernel)
    (case k61 => first | k_is | rfl | decide +kernel)
    (case a62 => first | k_is | rfl | decide +kernel)
    (case l62 => first | k_is | rfl | decide +kernel)
    (case c62 => first | k_is | rfl | decide +kernel)
    (case k62 => first | k_is | rfl | decide +kernel)
    (case a63 => first | k_is | rfl | decide +kernel)
    (case l63 => first | k_is | rfl | decide +kernel)
    (case c63 => first | k_is | rfl | decide +kernel)
    (case k63 => first | k_is | rfl | decide +kernel)
    (case a64 => first | k_is | rfl | decide +kernel)
    (case l64 => first | k_is | rfl | decide +kernel)
    (case c64 => first | k_is | rfl | decide +kernel)
    (case k64 => first | k_is | rfl | decide +kernel)
    (case a65 => first | k_is | rfl | decide +kernel)
    (case l65 => first | k_is | rfl | decide +kernel)
    (case c65 => first | k_is | rfl | decide +kernel)
    (case k65 => first | k_is | rfl | decide +kernel)
    (case a66 => first | k_is | rfl | decide +kernel)
    (case l66 => first | k_is | rfl | decide +kernel)
    (case c66 => first | k_is | rfl | decide +kernel)
    (case k66 => first | k_is | rfl | decide +kernel)
    (case a67 => first | k_is | rfl | decide +kernel)
    (case l67 => first | k_is | rfl | decide +kernel)
    (case c67 => first | k_is | rfl | decide +kernel)
    (case k67 => first | k_is | rfl | decide +kernel)
    (case a68 => first | k_is | rfl | decide +kernel)
    (case l68 => first | k_is | rfl | decide +kernel)
    (case c68 => first | k_is | rfl | decide +kernel)
    (case k68 => first | k_is | rfl | decide +kernel)
    (case a69 => first | k_is | rfl | decide +kernel)
    (case l69 => first | k_is | rfl | decide +kernel)
    (case c69 => first | k_is | rfl | decide +kernel)
    (case k69 => first | k_is | rfl | decide +kernel)
    (case a70 => first | k_is | rfl | decide +kernel)
    (case l70 => first | k_is | rfl | decide +kernel)
    (case c70 => first | k_is | rfl | decide +kernel)
    (case k70 => first | k_is | rfl | decide +kernel)
    (case a71 => first | k_is | rfl | decide +kernel)
    (case l71 => first | k_is | rfl | decide +kernel)
    (case c71 => first | k_is | rfl | decide +kernel)
    (case k71 => first | k_is | rfl | decide +kernel)
    (case a72 => first | k_is | rfl | decide +kernel)
    (case l72 => first | k_is | rfl | decide +kernel)
    (case c72 => first | k_is | rfl | decide +kernel)
    (case k72 => first | k_is | rfl | decide +kernel)
    (case a73 => first | k_is | rfl | decide +kernel)
    (case l73 => first | k_is | rfl | decide +kernel)
    (case c73 => first | k_is | rfl | decide +kernel)
    (case k73 => first | k_is | rfl | decide +kernel)
    (case pg_Machine => first | k_is | rfl | decide +kernel)
    (case hd_Machine => first | k_is | rfl | decide +kernel)
    (case po_Machine => first | k_is | rfl | decide +kernel)
    (case sa_Machine => first | k_is | rfl | decide +kernel)
    (case mk_Machine => first | k_is | rfl | decide +kernel)
    (case kc_Machine => first | k_is | rfl | decide +kernel)
    (case n_Machine_state => first | k_is | rfl | decide +kernel)
    (case n_Machine_over => first | k_is | rfl | decide +kernel)
    (case n_Machine_n => first | k_is | rfl | decide +kernel)
    (case n_Machine_t => first | k_is | rfl | decide +kernel)
    (case n_Machine_a => first | k_is | rfl | decide +kernel)
    (case n_Machine_d => first | k_is | rfl | decide +kernel)
    (case n_Machine_drum => first | k_is | rfl | decide +kernel)
    (case pg_Cards => first | k_is | rfl | decide +kernel)
    (case hd_Cards => first | k_is | rfl | decide +kernel)
    (case po_Cards => first | k_is | rfl | decide +kernel)
    (case sa_Cards => first | k_is | rfl | decide +kernel)
    (case mk_Cards => first | k_is | rfl | decide +kernel)
    (case kc_Cards => first | k_is | rfl | decide +kernel)
    (case n_Cards_words => first | k_is | rfl | decide +kernel)
    (case n_Cards_read_count => first | k_is | rfl | decide +kernel)
    (case n_Cards_punched => first | k_is | rfl | decide +kernel)
    (case g_LARGEST_WORD => first | k_is | rfl | decide +kernel)
    (case g_LARGEST_LONG => first | k_is | rfl | decide +kernel)
    (case g_WORD_BASE => first | k_is | rfl | decide +kernel)
    (case g_LONG_BASE => first | k_is | rfl | decide +kernel)
    (case g_LONG_DIGITS => first | k_is | rfl | decide +kernel)
    (case g_DRUM_SIZE => first | k_is | rfl | decide +kernel)
    (case g_BAND_SIZE => first | k_is | rfl | decide +kernel)
    (case g_TICK_COUNT => first | k_is | rfl | decide +kernel)
    (case g_CARD_SIZE => first | k_is | rfl | decide +kernel)
    (case g_HALT => first | k_is | rfl | decide +kernel)
    (case g_NO_OPERATION => first | k_is | rfl | decide +kernel)
    (case g_READ_CARD => first | k_is | rfl | decide +kernel)
    (case g_PUNCH_CARD => first | k_is | rfl | decide +kernel)
    (case g_NAMES => first | k_is | rfl | decide +kernel)
    (case l_NAMES => first | k_is | rfl | decide +kernel)
    (case d_NAMES => first | k_is | rfl | decide +kernel)
    (case g_LARGEST_SHIFT => first | k_is | rfl | decide +kernel)
    (case g_GOES_ON => first | k_is | rfl | decide +kernel)
    (case g_STOPPED_BY_ORDER => first | k_is | rfl | decide +kernel)
    (case g_BELOW_ZERO => first | k_is | rfl | decide +kernel)
    (case g_NO_SUCH_CODE => first | k_is | rfl | decide +kernel)
    (case g_NO_ADDRESS => first | k_is | rfl | decide +kernel)
    (case g_NO_SHIFT => first | k_is | rfl | decide +kernel)
    (case g_NO_CARD => first | k_is | rfl | decide +kernel)
    (case g_PASSED_WHERE_NONE => first | k_is | rfl | decide +kernel)
    (case g_ACTIONS => first | k_is | rfl | decide +kernel)
    (case l_ACTIONS => first | k_is | rfl | decide +kernel)
    (case d_ACTIONS => first | k_is | rfl | decide +kernel)
    (case g_TICKS_TO_TAKE_APART => first | k_is | rfl | decide +kernel)
    (case g_TICKS_OF_A_CARD => first | k_is | rfl | decide +kernel)
    (case g_NEW => first | k_is | rfl | decide +kernel)
    (case g_POKE => first | k_is | rfl | decide +kernel)
    (case g_PEEK => first | k_is | rfl | decide +kernel)
    (case g_TOLD => first | k_is | rfl | decide +kernel)
    (case g_RUN => first | k_is | rfl | decide +kernel)
    (case g_ORDER => first | k_is | rfl | decide +kernel)
    (case g_DRUM => first | k_is | rfl | decide +kernel)
    (case g_ARGUMENT_COUNTS => first | k_is | rfl | decide +kernel)
    (case l_ARGUMENT_COUNTS => first | k_is | rfl | decide +kernel)
    (case d_ARGUMENT_COUNTS => first | k_is | rfl | decide +kernel)
    (case g_CALLS_WITH_A_LIST => first | k_is | rfl | decide +kernel)
    (case l_CALLS_WITH_A_LIST => first | k_is | rfl | decide +kernel)
    (case zz_CALLS_WITH_A_LIST => first | k_is | rfl | decide +kernel)
    (case d_CALLS_WITH_A_LIST => first | k_is | rfl | decide +kernel)
    (case g_DONE => first | k_is | rfl | decide +kernel)
    (case g_NOT_GRANTED => first | k_is | rfl | decide +kernel)
    (case g_NOT_OF_THE_FORM => first | k_is | rfl | decide +kernel)
    (case g_MOST_ORDERS => first | k_is | rfl | decide +kernel)
    (case g_MOST_CARD_WORDS => first | k_is | rfl | decide +kernel)
    (case g_LAST_STATE => first | k_is | rfl | decide +kernel)
    (case z_abs => first | k_is | rfl | decide +kernel)
    (case z_all => first | k_is | rfl | decide +kernel)
    (case z_enumerate => first | k_is | rfl | decide +kernel)
    (case z_len => first | k_is | rfl | decide +kernel)
    (case z_ord => first | k_is | rfl | decide +kernel)
    (case z_range => first | k_is | rfl | decide +kernel)
    (case z_str => first | k_is | rfl | decide +kernel)
  case S =>
    intro K H xs a hO hwi hask hx
    cases hx with
    | cons h1 h2 =>
      cases h2
      cases h1 with
      | lst hs ha =>
        have e := L2.ints_dw a.1 _ ha
        subst e
        have hlen : a.1.length ≤ 14000 := TD.len_within hwi
        exact ⟨_, a.1, rfl, hs, hlen, hask, fun H' p hp => .lst (L2.SqL.of hp) (L2.dw_ints _)⟩
#print axioms PySem.Challenge.cw_turndrum_s01_answers_holds
end
