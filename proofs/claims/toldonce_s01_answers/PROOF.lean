import PyProof.Rows.All
import Wide.All
import OpenK.AllK
import Wide.FinOn
import PyProof.EqAt
import PyProof.EqKinds
import PyProof.TupleCall
import KE.BitLaws
import Open.SpecLaws
import KE.OsHead
import KE.OsGo
import KE.KMinBuiltin
import KE.KPairComp
import PyFlatLaws
import PyKct7
import PySem.Challenge.RW_toldonce_s01_answers
section
set_option Elab.async false
set_option linter.all false
set_option maxRecDepth 100000
namespace L2
open PySem PySem.Spec PyProof.Rows
/-- a key: an int or a str -/
abbrev Key := Sum Int Str
def keyIs : Key → Value → Bool
  | .inl k, v => Value.isInt k v
  | .inr x, v => Value.isStrOf x v
def keyH (w : World) : Key → Int
  | .inl k => hashInt k
  | .inr x => hashStr w x
theorem keyIs_shape : ∀ {k : Key} {v : Value}, keyIs k v = true → (∃ i t, k = Sum.inl i ∧ v = Value.int i t) ∨ (∃ x t, k = Sum.inr x ∧ v = Value.str x t)
  | .inl i, v, h => by
    obtain ⟨t, e⟩ := Value.isInt_shape (k := i) (v := v) h
    exact .inl ⟨i, t, rfl, e⟩
  | .inr x, v, h => by
    obtain ⟨t, e⟩ := Value.isStrOf_shape (x := x) (v := v) h
    exact .inr ⟨x, t, rfl, e⟩
theorem keyIs_int (i : Int) (t : Tok) : keyIs (.inl i) (.int i t) = true := by simp [keyIs, Value.isInt]
theorem keyIs_str (x : Str) (t : Tok) : keyIs (.inr x) (.str x t) = true := by simp [keyIs, Value.isStrOf]
theorem key_ll (a b : Int) : decide ((Sum.inl a : Key) = Sum.inl b) = (a == b) := by
  by_cases e : a = b
  · subst e; simp
  · have h : ¬ (Sum.inl a : Key) = Sum.inl b := fun q => e (Sum.inl.inj q)
    rw [decide_eq_false h]
    exact (beq_eq_false_iff_ne.mpr e).symm
theorem key_rr (a b : Str) : decide ((Sum.inr a : Key) = Sum.inr b) = decide (a = b) := by
  by_cases e : a = b
  · subst e; simp
  · have h : ¬ (Sum.inr a : Key) = Sum.inr b := fun q => e (Sum.inr.inj q)
    rw [decide_eq_false h, decide_eq_false e]
theorem key_lr (a : Int) (b : Str) : decide ((Sum.inl a : Key) = Sum.inr b) = false := decide_eq_false (fun q => nomatch q)
theorem key_rl (a : Str) (b : Int) : decide ((Sum.inr a : Key) = Sum.inl b) = false := decide_eq_false (fun q => nomatch q)
def mixKind (prog : Program) (w : World) : PySem.KeyKind prog w Key where
  is := keyIs
  hash := keyH w
  inj := fun v a b ha hb => by
    rcases keyIs_shape ha with ⟨i, t, rfl, rfl⟩ | ⟨x, t, rfl, rfl⟩
    · rcases keyIs_shape hb with ⟨j, u, rfl, e⟩ | ⟨y, u, rfl, e⟩
      · injection e with e1 _; rw [e1]
      · exact nomatch e
    · rcases keyIs_shape hb with ⟨j, u, rfl, e⟩ | ⟨y, u, rfl, e⟩
      · exact nomatch e
      · injection e with e1 _; rw [e1]
  byValue := fun k v h => by
    rcases keyIs_shape h with ⟨i, t, rfl, rfl⟩ | ⟨x, t, rfl, rfl⟩ <;> rfl
  pyHash := fun hv h => by
    rcases keyIs_shape hv with ⟨i, t, rfl, rfl⟩ | ⟨x, t, rfl, rfl⟩
    · exact wpAny_pyHash_int h
    · exact wpAny_pyHash_str h
  eqBool := fun hu hv h => by
    rcases keyIs_shape hu with ⟨i, t, rfl, rfl⟩ | ⟨x, t, rfl, rfl⟩
    · rcases keyIs_shape hv with ⟨j, u, rfl, rfl⟩ | ⟨y, u, rfl, rfl⟩
      · rw [key_ll] at h; exact wpAny_eqBool_int h
      · rw [key_lr] at h; exact SeqAt.EqAt.int_str i t y u _ _ _ _ h
    · rcases keyIs_shape hv with ⟨j, u, rfl, rfl⟩ | ⟨y, u, rfl, rfl⟩
      · rw [key_rl] at h; exact SeqAt.EqAt.str_int x t j u _ _ _ _ h
      · rw [key_rr] at h; exact wpAny_eqBool_str h
  «strs» := fun k x t v h => by
    rcases keyIs_shape h with ⟨i, u, rfl, e⟩ | ⟨y, u, rfl, e⟩
    · exact nomatch e
    · injection e with e1 _
      subst e1
      cases v <;> rfl
theorem mixKind_int (prog : Program) (w : World) (i : Int) (t : Tok) : (mixKind prog w).is (.inl i) (.int i t) = true := keyIs_int i t
theorem mixKind_str (prog : Program) (w : World) (x : Str) (t : Tok) : (mixKind prog w).is (.inr x) (.str x t) = true := keyIs_str x t
end L2
namespace L2
open PySem PySem.Spec PyProof.Rows
/-- a value, without the heap -/
inductive V where
  | non | bl (b : Bool) | int (i : Int) | str (x : Str) | byt (b : Array UInt8) | flt (b : UInt64) | ref (a : Addr) | ty (n : String)
  deriving DecidableEq
def RelV : V → Value → Prop
  | .non, u => u = Value.none
  | .bl b, u => u = Value.bool b
  | .int i, u => ∃ t, u = Value.int i t
  | .str x, u => ∃ t, u = Value.str x t
  | .byt b, u => ∃ t, u = Value.bytes b t
  | .flt b, u => ∃ t, u = Value.float b t
  | .ref a, u => u = Value.ref a
  | .ty n, u => u = Value.type n
abbrev Vals : List V → List Value → Prop := Paired RelV
theorem Vals.length {xs : List V} {us : List Value} (r : Vals xs us) : xs.length = us.length := Paired.length r
theorem Vals.get : ∀ {xs : List V} {us : List Value} {i : Nat} {x : V}, Vals xs us → xs[i]? = some x → ∃ u, us[i]? = some u ∧ RelV x u
  | _, _, _, _, .nil, e => by simp at e
  | _, _, 0, _, .cons r _, e => by simp at e; subst e; exact ⟨_, rfl, r⟩
  | _, _, i + 1, x, .cons _ t, e => by
    obtain ⟨u, h1, h2⟩ := Vals.get (i := i) (x := x) t (by simpa using e)
    exact ⟨u, by simpa using h1, h2⟩
theorem Vals.set {x : V} {u : Value} (r : RelV x u) : ∀ {xs : List V} {us : List Value} (i : Nat), Vals xs us → Vals (xs.set i x) (us.set i u)
  | _, _, _, .nil => .nil
  | _, _, 0, .cons _ t => .cons r t
  | _, _, i + 1, .cons q t => .cons q (Vals.set r i t)
theorem Vals.append : ∀ {xs ys : List V} {us ws : List Value}, Vals xs us → Vals ys ws → Vals (xs ++ ys) (us ++ ws)
  | _, _, _, _, .nil, s => s
  | _, _, _, _, .cons r t, s => .cons r (Vals.append t s)
theorem Vals.take : ∀ {xs : List V} {us : List Value} (n : Nat), Vals xs us → Vals (xs.take n) (us.take n)
  | _, _, 0, _ => .nil
  | _, _, _ + 1, .nil => .nil
  | _, _, n + 1, .cons r t => .cons r (Vals.take n t)
theorem Vals.drop : ∀ {xs : List V} {us : List Value} (n : Nat), Vals xs us → Vals (xs.drop n) (us.drop n)
  | _, _, 0, r => r
  | _, _, _ + 1, .nil => .nil
  | _, _, n + 1, .cons _ t => Vals.drop n t
def RelO : Option V → Option Value → Prop
  | some v, some u => RelV v u
  | none, none => True
  | _, _ => False
def KV {κ : Type} : List (κ × V) → List (κ × Value) → Prop := Paired fun (p : κ × V) (q : κ × Value) => p.1 = q.1 ∧ RelV p.2 q.2
/-- a key of a dict (00_mix): an int or a text -/
def kV : Key → V
  | .inl i => .int i
  | .inr x => .str x
/-- what stands at a tracked address -/
inductive HO where
  /-- a list -/
  | lst (xs : List V)
  /-- a tuple (never changes) -/
  | tup (xs : List V)
  /-- a dict whose keys are ints and texts; one whose keys are tuples of ints and texts (the empty one is both) -/
  | dK (kvs : List (Key × V)) | dT (kvs : List (List Key × V))
  /-- a set of ints: its members, its size -/
  | set (S : Int → Bool) (n : Nat)
  /-- an instance of the class at C, its dict at dx, its attributes -/
  | ins (C dx : Addr) (fs : List (Str × V))
  /-- the dict of the instance at x -/
  | own (x : Addr)
  /-- the dict of an exception -/
  | xd (fs : List (Str × V))
  /-- a bound method, f of x -/
  | met (f x : Addr)
  /-- a range object lo, lo + 1, .. below hi -/
  | rng (lo hi : Int)
  /-- a thing that is known to the object (the script; a dict while a loop walks it): read, never written while it is so -/
  | frz (o : Obj) (u : HO)
  /-- a code object's table -/
  | tbl (ps : Array Value)
  /-- any other thing, by what is true of its one object (a def of one's own: SetO a S n := HO.ext fun h => ..) -/
  | ext (φ : Heap → Prop)
abbrev Hp := Addr → Option HO
def upd (H : Hp) (a : Addr) (o : HO) : Hp := fun b => if b = a then some o else H b
theorem upd_same {H : Hp} {a : Addr} {o : HO} : upd H a o a = some o := by unfold upd; rw [if_pos rfl]
theorem upd_ne {H : Hp} {a b : Addr} {o : HO} (h : b ≠ a) : upd H a o b = H b := by unfold upd; rw [if_neg h]
theorem upd_upd {H : Hp} {a : Addr} {o u : HO} : upd (upd H a o) a u = upd H a u := by
  funext b; unfold upd; split <;> rfl
/-- two objects of different content stand apart -/
theorem ne_of {H : Hp} {a b : Addr} {o u : HO} (h : H a = some o) (h' : H b = some u) (d : o ≠ u) : a ≠ b := by
  intro e; subst e; rw [h] at h'; exact d (Option.some.inj h')
theorem ne_of_none {H : Hp} {a b : Addr} {o : HO} (h : H a = some o) (h' : H b = none) : a ≠ b := by
  intro e; subst e; rw [h] at h'; cases h'
section
variable (P : Program) (w : World)
def ObjOk (H : Hp) (h : Heap) (a : Addr) : HO → Prop
  | .lst xs => xs.length ≤ sizeLine ∧ ∃ (its : List Value) (n : Nat), Vals xs its ∧ h.get? a = some { cls := .type "list", data := .seq its.toArray n }
  | .tup xs => xs.length ≤ sizeLine ∧ ∃ its : List Value, Vals xs its ∧ IsTup h a its.toArray
  | .dK kvs => kvs.length ≤ sizeLine ∧ (a == sysModules) = false ∧ ∃ vs, KV kvs vs ∧ h.DictOf (mixKind P w) a vs
  | .dT kvs => kvs.length ≤ sizeLine ∧ (a == sysModules) = false ∧ ∃ xs : List (List Key × Addr × Value),
      Paired (fun (p : List Key × V) (q : List Key × Addr × Value) => p.1 = q.1 ∧ H q.2.1 = some (.tup (p.1.map kV)) ∧ RelV p.2 q.2.2) kvs xs ∧
      ∃ o es ep, h.get? a = some o ∧ o.ExactDict ∧ o.data = .dict es ep ∧ es.toList = xs.map (entryOfKey (tupleKind (mixKind P w))) ∧ (xs.map (·.1)).Nodup
  | .set S n => h.SetOf (intKind P w) a S n
  | .ins C dx fs => H dx = some (.own a) ∧ fs.length ≤ 1000 ∧ dx ≠ a ∧ h.get? a = some (PySem.W.instObj C dx) ∧
      ∃ mA, h.Ns1 dx mA ∧ (∀ f, RelO (fs.lookup f) (mA f)) ∧ PySem.Within mA (fs.map (·.1))
  | .own _ => ∃ o, h.get? a = some o
  | .xd fs => ∃ mA, h.Ns1 a mA ∧ ∀ f, RelO (fs.lookup f) (mA f)
  | .rng lo hi => ∃ t u v, h.get? a = some { cls := .type "range", data := .fields #[.int lo t, .int hi u, .int 1 v] }
  | .frz o u => h.get? a = some o ∧ ObjOk H h a u
  | .tbl ps => h.get? a = some { cls := .none, data := .fields ps }
  | .met f x => h.get? a = some (PySem.W.methodObj (.ref f) (.ref x))
  | .ext φ => φ h ∧ (∃ o, h.get? a = some o) ∧ ∀ h1 h2 : Heap, φ h1 → (∀ o, h1.get? a = some o → h2.get? a = some o) → φ h2
/-- the abstract heap is held -/
def HOk (H : Hp) (h : Heap) : Prop := ∀ a o, H a = some o → ObjOk P w H h a o
end
section
variable {P : Program} {w : World} {H H' : Hp} {h h' : Heap} {a : Addr} {o : HO}
theorem ObjOk.lt (x : ObjOk P w H h a o) : a < h.objs.size := by
  cases o with
  | lst xs => obtain ⟨_, _, _, _, e⟩ := x; exact Heap.lt_size e
  | tup xs => obtain ⟨_, _, _, p⟩ := x; exact p.lt
  | dK kvs => obtain ⟨_, _, _, _, o, _, _, e, _⟩ := x; exact Heap.lt_size e
  | dT kvs => obtain ⟨_, _, _, _, o, _, _, e, _⟩ := x; exact Heap.lt_size e
  | set S n => obtain ⟨o, _, _, _, e, _⟩ := x; exact Heap.lt_size e
  | ins C dx fs => obtain ⟨_, _, _, e, _⟩ := x; exact Heap.lt_size e
  | own y => obtain ⟨_, e⟩ := x; exact Heap.lt_size e
  | xd fs => obtain ⟨_, ⟨_, _, _, e, _⟩, _⟩ := x; exact Heap.lt_size e
  | rng lo hi => obtain ⟨_, _, _, e⟩ := x; exact Heap.lt_size e
  | frz ob u => obtain ⟨e, _⟩ := x; exact Heap.lt_size e
  | tbl ps => exact Heap.lt_size (show h.get? a = some _ from x)
  | met f y => exact Heap.lt_size (show h.get? a = some _ from x)
  | ext φ => obtain ⟨_, ⟨_, e⟩, _⟩ := x; exact Heap.lt_size e
theorem Paired.mapP {α β : Type} {F G : α → β → Prop} : ∀ {l₁ : List α} {l₂ : List β}, Paired F l₁ l₂ → (∀ a b, F a b → G a b) → Paired G l₁ l₂
  | _, _, .nil, _ => .nil
  | _, _, .cons r t, f => .cons (f _ _ r) (Paired.mapP t f)
/-- what an object's description leans on: its own object, its own dict, the tuples -/
theorem ObjOk.stay (x : ObjOk P w H h a o) (k : ∀ b u, (b = a ∨ H b = some (.own a)) → h.get? b = some u → h'.get? b = some u)
    (ho : ∀ b, H b = some (.own a) → H' b = some (.own a)) (ht : ∀ b xs, H b = some (.tup xs) → H' b = some (.tup xs)) : ObjOk P w H' h' a o := by
  induction o with
  | lst xs => obtain ⟨z, its, n, r, e⟩ := x; exact ⟨z, its, n, r, k _ _ (.inl rfl) e⟩
  | tup xs => obtain ⟨z, its, r, ob, e, c⟩ := x; exact ⟨z, its, r, ob, k _ _ (.inl rfl) e, c⟩
  | dK kvs => obtain ⟨z, y, vs, r, ob, es, ep, e, c⟩ := x; exact ⟨z, y, vs, r, ob, es, ep, k _ _ (.inl rfl) e, c⟩
  | dT kvs =>
    obtain ⟨z, y, xs, r, ob, es, ep, e, c⟩ := x
    exact ⟨z, y, xs, Paired.mapP r fun p q z => ⟨z.1, ht _ _ z.2.1, z.2.2⟩, ob, es, ep, k _ _ (.inl rfl) e, c⟩
  | set S n => obtain ⟨ob, es, ep, t, e, c⟩ := x; exact ⟨ob, es, ep, t, k _ _ (.inl rfl) e, c⟩
  | ins C dx fs =>
    obtain ⟨d, z, ne, e, mA, ⟨od, es, ep, e2, c⟩, r⟩ := x
    exact ⟨ho _ d, z, ne, k _ _ (.inl rfl) e, mA, ⟨od, es, ep, k _ _ (.inr d) e2, c⟩, r⟩
  | own y => obtain ⟨ob, e⟩ := x; exact ⟨ob, k _ _ (.inl rfl) e⟩
  | xd fs => obtain ⟨mA, ⟨od, es, ep, e, c⟩, r⟩ := x; exact ⟨mA, ⟨od, es, ep, k _ _ (.inl rfl) e, c⟩, r⟩
  | rng lo hi => obtain ⟨t, u, v, e⟩ := x; exact ⟨t, u, v, k _ _ (.inl rfl) e⟩
  | frz ob u ih => obtain ⟨e, q⟩ := x; exact ⟨k _ _ (.inl rfl) e, ih q⟩
  | tbl ps =>
    have e : h.get? a = some { cls := .none, data := .fields ps } := x
    show h'.get? a = some { cls := .none, data := .fields ps }
    exact k a _ (.inl rfl) e
  | met f y =>
    have e : h.get? a = some (PySem.W.methodObj (.ref f) (.ref y)) := x
    show h'.get? a = some (PySem.W.methodObj (.ref f) (.ref y))
    exact k a _ (.inl rfl) e
  | ext φ => obtain ⟨p, ⟨o, e⟩, st⟩ := x; exact ⟨st _ _ p fun o q => k _ _ (.inl rfl) q, ⟨o, k _ _ (.inl rfl) e⟩, st⟩
theorem HOk.lt (x : HOk P w H h) (e : H a = some o) : a < h.objs.size := (x a o e).lt
theorem HOk.fresh (x : HOk P w H h) (e : h.objs.size ≤ a) : H a = none := by
  cases q : H a with
  | none => rfl
  | some u => exact absurd (Nat.lt_of_lt_of_le (x.lt q) e) (Nat.lt_irrefl _)
/-- every object of the heap is kept -/
theorem HOk.kept (x : HOk P w H h) (k : ∀ b u, h.get? b = some u → h'.get? b = some u) : HOk P w H h' := fun a o e =>
  (x a o e).stay (fun b u _ q => k b u q) (fun _ q => q) fun _ _ q => q
/-- a new object is laid and tracked -/
theorem HOk.laid (x : HOk P w H h) (k : ∀ b u, h.get? b = some u → h'.get? b = some u) (hp : h.objs.size ≤ a) (new : ObjOk P w (upd H a o) h' a o) : HOk P w (upd H a o) h' := fun b u e => by
  have hn := x.fresh hp
  by_cases hb : b = a
  · subst hb; rw [upd_same] at e; cases e; exact new
  · rw [upd_ne hb] at e
    exact (x b u e).stay (fun c v _ q => k c v q) (fun c q => by rw [upd_ne (ne_of_none q hn)]; exact q) fun c xs q => by rw [upd_ne (ne_of_none q hn)]; exact q
end
/-- what may be read as u: it is u, or a known u -/
def Rd (H : Hp) (a : Addr) (u : HO) : Prop := H a = some u ∨ ∃ o, H a = some (.frz o u)
theorem Rd.ok {P : Program} {w : World} {H : Hp} {h : Heap} {a : Addr} {u : HO} (r : Rd H a u) (x : HOk P w H h) : ObjOk P w H h a u := by
  rcases r with r | ⟨o, r⟩
  · exact x a u r
  · obtain ⟨_, q⟩ := x a _ r
    exact q
/-- what may be written -/
def Mut : Option HO → Prop
  | some (.lst _) => True
  | some (.dK _) => True
  | some (.dT _) => True
  | some (.set _ _) => True
  | some (.ins _ _ _) => True
  | some (.ext _) => True
  | _ => False
section
variable {P : Program} {w : World} {H : Hp} {h h' : Heap} {x e : Addr} {o' : HO}
/-- the object at e is changed: x itself, or the dict of the instance x -/
theorem HOk.write (ok : HOk P w H h) (mu : Mut (H x)) (he : e = x ∨ H e = some (.own x)) (k : ∀ b u, b ≠ e → h.get? b = some u → h'.get? b = some u) (heo : ∃ u, h'.get? e = some u)
    (new : ObjOk P w (upd H x o') h' x o') : HOk P w (upd H x o') h' := fun b u q => by
  have nown : ∀ c y, H c = some (.own y) → c ≠ x := fun c y r z => by subst z; rw [r] at mu; exact mu
  have ntup : ∀ c xs, H c = some (.tup xs) → c ≠ x := fun c xs r z => by subst z; rw [r] at mu; exact mu
  by_cases hb : b = x
  · subst hb; rw [upd_same] at q; cases q; exact new
  · rw [upd_ne hb] at q
    by_cases hbe : b = e
    · have q' : H b = some (.own x) := by
        rcases he with z | z
        · exact absurd (hbe.trans z) hb
        · rw [hbe]; exact z
      rw [q] at q'; cases q'
      obtain ⟨v, hv⟩ := heo
      exact ⟨v, by rw [hbe]; exact hv⟩
    · refine (ok b u q).stay (fun c v hc r => k c v ?_ r) (fun c r => by rw [upd_ne (nown c b r)]; exact r) fun c xs r => by rw [upd_ne (ntup c xs r)]; exact r
      rcases hc with rfl | hc
      · exact hbe
      · rintro rfl
        rcases he with z | z
        · exact nown c b hc z
        · rw [hc] at z; cases z; exact hb rfl
end
structure Un (fs ex : List Addr) (H H' : Hp) (h h' : Heap) : Prop where
  keep : ∀ b o, h.get? b = some o → H b = none → b ∉ fs → b ∉ ex → h'.get? b = some o
  slot : ∀ b o, h.get? b = some o → H b = none → b ∈ fs → b ∉ ex → ∃ sl, h'.get? b = some { o with slots := sl }
  free : ∀ b o, h.get? b = some o → H b = none → b ∉ ex → H' b = none
  there : ∀ b o, h.get? b = some o → b ∉ ex → ∃ o', h'.get? b = some o'
  tups : ∀ b xs, H b = some (.tup xs) → H' b = some (.tup xs)
  frzs : ∀ b o u, H b = some (.frz o u) → H' b = some (.frz o u)
  tbls : ∀ b ps, H b = some (.tbl ps) → ∃ more, H' b = some (.tbl (ps ++ more))
section
variable {fs fs' ex ex' : List Addr} {H H1 H2 : Hp} {h h1 h2 h' : Heap} {a x e : Addr} {o : HO}
theorem Un.any (u : Un fs ex H H1 h h1) {b : Addr} {ob : Obj} (q : h.get? b = some ob) (n : H b = none) (hx : b ∉ ex) : ∃ sl, h1.get? b = some { ob with slots := sl } := by
  by_cases hb : b ∈ fs
  · exact u.slot b ob q n hb hx
  · exact ⟨ob.slots, u.keep b ob q n hb hx⟩
theorem Un.kept (k : ∀ b u, h.get? b = some u → h'.get? b = some u) : Un fs ex H H h h' :=
  ⟨fun b ob q _ _ _ => k b ob q, fun b ob q _ _ _ => ⟨ob.slots, k b ob q⟩, fun _ _ _ n _ => n, fun b ob q _ => ⟨ob, k b ob q⟩, fun _ _ q => q, fun _ _ _ q => q, fun _ ps q => ⟨#[], by rw [q]; simp⟩⟩
theorem Un.refl : Un fs ex H H h h := Un.kept fun _ _ q => q
theorem Un.laid (k : ∀ b u, h.get? b = some u → h'.get? b = some u) (hp : h.objs.size ≤ a) (hn : H a = none) : Un fs ex H (upd H a o) h h' where
  keep := fun b u q _ _ _ => k b u q
  slot := fun b u q _ _ _ => ⟨u.slots, k b u q⟩
  free := fun b u q n _ => by rw [upd_ne (Nat.ne_of_lt (Nat.lt_of_lt_of_le (Heap.lt_size q) hp))]; exact n
  there := fun b u q _ => ⟨u, k b u q⟩
  tups := fun b xs q => by rw [upd_ne (ne_of_none q hn)]; exact q
  frzs := fun b u xs q => by rw [upd_ne (ne_of_none q hn)]; exact q
  tbls := fun b ps q => ⟨#[], by rw [upd_ne (ne_of_none q hn), q]; simp⟩
theorem Un.write (mu : Mut (H x)) (he : e = x ∨ H e = some (.own x)) (k : ∀ b u, b ≠ e → h.get? b = some u → h'.get? b = some u) (heo : ∃ u, h'.get? e = some u) : Un fs ex H (upd H x o) h h' := by
  have hx : ∀ b, H b = none → b ≠ x := fun b n z => by subst z; rw [n] at mu; exact mu
  have hb : ∀ b, H b = none → b ≠ e := fun b n z => by
    subst z
    rcases he with r | r
    · exact hx b n r
    · rw [n] at r; cases r
  have hm : ∀ b u, H b = some u → ¬ Mut (some u) → b ≠ x := fun b u q nm z => by subst z; rw [q] at mu; exact nm mu
  refine ⟨fun b u q n _ _ => k b u (hb b n) q, fun b u q n _ _ => ⟨u.slots, k b u (hb b n) q⟩, fun b u q n _ => by rw [upd_ne (hx b n)]; exact n, fun b u q _ => ?_,
    fun b xs q => by rw [upd_ne (hm b _ q fun z => z)]; exact q, fun b u xs q => by rw [upd_ne (hm b _ q fun z => z)]; exact q, fun b ps q => ⟨#[], by rw [upd_ne (hm b _ q fun z => z), q]; simp⟩⟩
  by_cases hbe : b = e
  · subst hbe; exact heo
  · exact ⟨u, k b u hbe q⟩
end
def trk (h : Heap) (H : Hp) : List Addr := (List.range h.objs.size).filter fun a => (H a).isSome
def hidT (h : Heap) (H : Hp) : Heap := PySem.W.hideAll h (trk h H)
theorem hidT_size (h : Heap) (H : Hp) : (hidT h H).objs.size = h.objs.size := PySem.W.hideAll_size _ _
theorem hidT_get {h : Heap} {H : Hp} {b : Addr} {o : Obj} (e : h.get? b = some o) (n : H b = none) : (hidT h H).get? b = some o :=
  PySem.W.hideAll_get _ e fun hm => by
    have q : (H b).isSome = true := (List.mem_filter.mp hm).2
    rw [n] at q; simp at q
theorem of_hidT {h : Heap} {H : Hp} {b : Addr} {o : Obj} (e : (hidT h H).get? b = some o) : h.get? b = some o ∧ H b = none := by
  have e' : h.get? b = some o := PySem.W.of_hideAll (trk h H) e
  refine ⟨e', ?_⟩
  cases q : H b with
  | none => rfl
  | some x =>
    have hm : b ∈ trk h H := List.mem_filter.mpr ⟨List.mem_range.mpr (Heap.lt_size e'), by simp [q]⟩
    have z : (hidT h H).get? b = none := PySem.W.hideAll_none (trk h H) hm
    rw [z] at e; cases e
end L2
namespace L2
open PySem PySem.Spec PyProof.Rows
/-- the module's facts, over the base: the heap at the law's entry without what is tracked there -/
structure Mod (K : PySem.W.Frag) (mg : Str → Option Value) (base : Heap) : Prop where
  kin : K.In base
  glob : base.Ns mainGlobals mg
  blt : ∃ mb, base.Ns builtinsNs mb ∧ ∀ x : Str, x ≠ "__name__" → mb x = bootBuiltins x
  nolimit : base.NoLimit
/-- the context: a def's body (or a comprehension's block) running. base: fixed through the whole law; s₀, H₀: the entry; outer: the frames whose slots others may change (a def's callers); stack: all frames that run;
   ex: iterators that were made ahead of the entry and are walked here (a comprehension's); fn: the names whose cells were made at the entry (a def: all; a comprehension's block: its own); calm: not within an except suite; pn: pins that every state bears; xe: what is wanted of an exception that leaves the code -/
structure Cx where
  prog : Program
  w : World
  K : PySem.W.Frag
  mg : Str → Option Value
  base : Heap
  A : Around
  N : List Str
  s_0 : Shared
  H_0 : Hp
  env : Env
  outer : List Env
  stack : List Env
  ex : List Addr
  fn : Str → Bool
  calm : Bool
  pn : List (Addr × Obj)
  xe : Value → Shared → Prop
/-- the callers' frames -/
def frs (l : List Env) : List Addr := l.filterMap (·.frame)
abbrev Cx.fs (X : Cx) : List Addr := frs X.outer
def Vis (sc : Scope) (x : Str) : Prop := sc.names.lookup x = some .local ∨ sc.names.lookup x = some .cell ∨ sc.names.lookup x = some .free
def Loc (sc : Scope) (x : Str) : Prop := sc.names.lookup x = some .local ∨ sc.names.lookup x = some .cell
def Look (env : Env) (h : Heap) (m : Str → Option Value) (x : Str) (u : Value) : Prop :=
  (env.kindOf x = some .local ∧ m x = some u) ∨ ((env.kindOf x = some .cell ∨ env.kindOf x = some .free) ∧ ∃ c, env.cells.lookup x = some c ∧ h.IsCell c (some u))
structure Cx.Ok (X : Cx) : Prop where
  mod : Mod X.K X.mg X.base
  kind : X.env.scope.kind = .function
  glob : X.env.globals = mainGlobals
  blt : X.env.builtins = builtinsNs
  above : X.s_0.heap.objs.size ≤ X.env.locals
  inj : ∀ x y c, X.env.cells.lookup x = some c → X.env.cells.lookup y = some c → x = y
  has : ∀ x, (X.env.kindOf x = some .cell ∨ X.env.kindOf x = some .free) → ∃ c, X.env.cells.lookup x = some c
  cab : ∀ x c, X.fn x = true → X.env.cells.lookup x = some c → X.s_0.heap.objs.size ≤ c
  hd : X.calm = true → X.A.handled = none
  frames : X.A.frames = some X.stack
  stk : X.stack = X.outer ∨ (X.stack = X.env :: X.outer ∧ X.env.frame = some X.env.locals)
  exf : ∀ b ∈ X.ex, b ≠ X.env.locals ∧ ∀ x c, X.env.cells.lookup x = some c → c ≠ b
  bs : ∀ b o, X.base.get? b = some o → X.s_0.heap.get? b = some o ∧ X.H_0 b = none
  bsz : X.base.objs.size ≤ X.s_0.heap.objs.size
  noex : ∀ b o, X.base.get? b = some o → b ∉ X.ex
  exfs : ∀ b ∈ X.ex, b ∉ X.fs
  funs : X.s_0.heap.FunFrames X.base X.outer
  frf : ∀ b ∈ X.fs, X.H_0 b = none
structure Inv (X : Cx) (pins : List (Addr × Obj)) (σ : List (Option V)) (H : Hp) (s : Shared) : Prop where
  ok : X.Ok
  os : s.os = X.s_0.os
  bare : AllBare s.gens
  base : Un X.fs X.ex X.H_0 H X.s_0.heap s.heap
  loc : ∃ m, s.heap.Ns X.env.locals m ∧ ∀ (i : Nat) (x : Str) (v : V), X.N[i]? = some x → σ[i]? = some (some v) → Vis X.env.scope x → ∃ u, RelV v u ∧ Look X.env s.heap m x u
  cell : ∀ x c, X.env.cells.lookup x = some c → ∃ v, s.heap.IsCell c v
  free : H X.env.locals = none
  freeC : ∀ x c, X.env.cells.lookup x = some c → H c = none
  pin : ∀ p ∈ X.pn ++ pins, s.heap.get? p.1 = some p.2 ∧ H p.1 = none ∧ p.1 ≠ X.env.locals ∧ p.1 ∉ X.fs ∧ ∀ v, p.2.data ≠ .cell v
  hok : HOk X.prog X.w H s.heap
  len : σ.length = X.N.length
section
variable {X : Cx} {pins : List (Addr × Obj)} {σ : List (Option V)} {H H' : Hp} {s : Shared} {h' : Heap}
theorem Cx.Ok.nofr (ok : X.Ok) {b : Addr} {o : Obj} (e : X.base.get? b = some o) : b ∉ X.fs := fun hb => by
  have := (ok.funs.mem hb).1
  rw [e] at this; cases this
theorem Inv.bs (I : Inv X pins σ H s) : ∀ b o, X.base.get? b = some o → s.heap.get? b = some o ∧ H b = none := fun b o e =>
  ⟨I.base.keep b o (I.ok.bs b o e).1 (I.ok.bs b o e).2 (I.ok.nofr e) (I.ok.noex b o e), I.base.free b o (I.ok.bs b o e).1 (I.ok.bs b o e).2 (I.ok.noex b o e)⟩
theorem Inv.bk (I : Inv X pins σ H s) : ∀ b o, X.base.get? b = some o → s.heap.get? b = some o := fun b o e => (I.bs b o e).1
theorem Inv.mod (I : Inv X pins σ H s) : Mod X.K X.mg X.base := I.ok.mod
theorem Inv.kIn (I : Inv X pins σ H s) : X.K.In s.heap := I.ok.mod.kin.keeps I.bk
/-- the frame over the base: for OpenK's rules (K.In X.base is I.mod.kin) -/
theorem Inv.fr (I : Inv X pins σ H s) : ∃ m, Fr X.base X.env.locals s.heap m :=
  let ⟨m, hn, _⟩ := I.loc
  ⟨m, hn, I.bk, Nat.le_trans I.ok.bsz I.ok.above⟩
theorem Inv.lt (I : Inv X pins σ H s) : X.env.locals < s.heap.objs.size := let ⟨_, hn, _⟩ := I.loc; hn.lt
theorem Inv.sz (I : Inv X pins σ H s) : X.s_0.heap.objs.size ≤ s.heap.objs.size := Nat.le_trans I.ok.above (Nat.le_of_lt I.lt)
theorem Inv.nofs (I : Inv X pins σ H s) {a : Addr} (h : s.heap.objs.size ≤ a) : a ∉ X.fs := fun hb => by
  obtain ⟨_, o, ho, _⟩ := I.ok.funs.mem hb
  exact absurd (Nat.lt_of_lt_of_le (Heap.lt_size ho) (Nat.le_trans I.sz h)) (Nat.lt_irrefl _)
theorem Inv.cne (I : Inv X pins σ H s) : ∀ x c, X.env.cells.lookup x = some c → c ≠ X.env.locals := fun x c e z => by
  obtain ⟨v, o, ho, hd⟩ := I.cell x c e
  obtain ⟨m, ⟨o', es, ep, ho', hd', _⟩, _⟩ := I.loc
  rw [z, ho'] at ho; cases ho; rw [hd'] at hd; cases hd
theorem Inv.funs (I : Inv X pins σ H s) : s.heap.FunFrames X.base X.outer := by
  have all : ∀ (l : List Env), (∀ b ∈ frs l, b ∈ X.fs) → X.s_0.heap.FunFrames X.base l → s.heap.FunFrames X.base l := by
    intro l
    induction l with
    | nil => intro _ _; trivial
    | cons env r ih =>
      intro hs hl
      obtain ⟨hk, ⟨L, o, hf, hn, ho, hd⟩, hr⟩ := hl
      have hL : L ∈ X.fs := hs L (by unfold frs; rw [List.filterMap_cons, hf]; exact List.mem_cons_self)
      obtain ⟨sl, e⟩ := I.base.slot L o ho (I.ok.frf L hL) hL fun z => I.ok.exfs L z hL
      exact ⟨hk, ⟨L, _, hf, hn, e, hd⟩, ih (fun b hb => hs b (by unfold frs; rw [List.filterMap_cons, hf]; exact List.mem_cons_of_mem _ hb)) hr⟩
  exact all X.outer (fun _ hb => hb) I.ok.funs
/-- the frames that run, for a call -/
theorem Inv.stack (I : Inv X pins σ H s) : s.heap.FunFrames X.base X.stack := by
  rcases I.ok.stk with e | ⟨e, hf⟩
  · rw [e]; exact I.funs
  · rw [e]
    obtain ⟨m, hn, _⟩ := I.loc
    refine .cons (by rw [I.ok.kind]; decide) hf hn ?_ I.funs
    exact Heap.get?_none_of_le (Nat.le_trans I.ok.bsz I.ok.above)
theorem Inv.stkSub (I : Inv X pins σ H s) : ∀ b ∈ frs X.stack, b ∈ X.env.locals :: X.fs := fun b hb => by
  rcases I.ok.stk with e | ⟨e, hf⟩
  · rw [e] at hb; exact List.mem_cons_of_mem _ hb
  · rw [e] at hb
    unfold frs at hb
    rw [List.filterMap_cons, hf] at hb
    exact hb
theorem Inv.stkFree (I : Inv X pins σ H s) : ∀ b ∈ frs X.stack, H b = none := fun b hb => by
  rcases List.mem_cons.mp (I.stkSub b hb) with e | hb
  · rw [e]; exact I.free
  · obtain ⟨_, o, ho, _⟩ := I.ok.funs.mem hb
    exact I.base.free b o ho (I.ok.frf b hb) fun z => I.ok.exfs b z hb
/-- THE STEP: the untracked objects but the frame and the records at ch are kept (the callers' frames up to slots), the frame's map is kept, the new abstract heap is held -/
theorem Inv.step {g' : Array GenState} {t' : Nat} {d' : Drawn} {ch : List Addr} (I : Inv X pins σ H s)
    (hch : ∀ b ∈ ch, (b ∈ X.ex ∨ X.s_0.heap.objs.size ≤ b) ∧ b ≠ X.env.locals ∧ (∀ x c, X.env.cells.lookup x = some c → c ≠ b) ∧ ∀ p ∈ X.pn ++ pins, p.1 ≠ b)
    (keep : ∀ b o, b ≠ X.env.locals → b ∉ X.fs → b ∉ ch → s.heap.get? b = some o → H b = none → h'.get? b = some o)
    (slot : ∀ b o, b ≠ X.env.locals → b ∈ X.fs → b ∉ ch → s.heap.get? b = some o → H b = none → ∃ sl, h'.get? b = some { o with slots := sl }) (free : ∀ b o, b ∉ ch → s.heap.get? b = some o → H b = none → H' b = none)
    (there : ∀ b o, b ∉ ch → s.heap.get? b = some o → ∃ o', h'.get? b = some o')
    (tups : ∀ b xs, H b = some (.tup xs) → H' b = some (.tup xs)) (frzs : ∀ b o u, H b = some (.frz o u) → H' b = some (.frz o u)) (tbls : ∀ b ps, H b = some (.tbl ps) → ∃ more, H' b = some (.tbl (ps ++ more)))
    (ns : ∀ m, s.heap.Ns X.env.locals m → h'.Ns X.env.locals m) (hok : HOk X.prog X.w H' h') (hg : AllBare g') :
    Inv X pins σ H' { s with heap := h', gens := g', drawn := d', toks := t' } := by
  have neL : ∀ b o, X.s_0.heap.get? b = some o → b ≠ X.env.locals := fun b o e => Nat.ne_of_lt (Nat.lt_of_lt_of_le (Heap.lt_size e) I.ok.above)
  have neC : ∀ b o, X.s_0.heap.get? b = some o → b ∉ X.ex → b ∉ ch := fun b o e hx hb => by
    rcases (hch b hb).1 with z | z
    · exact hx z
    · exact absurd (Nat.lt_of_lt_of_le (Heap.lt_size e) z) (Nat.lt_irrefl _)
  have cellK : ∀ x c, X.env.cells.lookup x = some c → ∀ v, s.heap.IsCell c v → h'.IsCell c v := fun x c e v ⟨o, ho, hd⟩ => by
    have nch : c ∉ ch := fun z => (hch c z).2.2.1 x c e rfl
    by_cases hc : c ∈ X.fs
    · obtain ⟨sl, q⟩ := slot c o (I.cne x c e) hc nch ho (I.freeC x c e)
      exact ⟨_, q, hd⟩
    · exact ⟨o, keep c o (I.cne x c e) hc nch ho (I.freeC x c e), hd⟩
  refine ⟨I.ok, I.os, hg, ⟨fun b o e n hb hx => ?_, fun b o e n hb hx => ?_, fun b o e n hx => ?_, fun b o e hx => ?_, fun b xs e => tups b xs (I.base.tups b xs e), fun b o xs e => frzs b o xs (I.base.frzs b o xs e), fun b ps e => ?_⟩, ?_, fun x c e => ?_, ?_, fun x c e => ?_, fun p hp => ?_, hok, I.len⟩
  · exact keep b o (neL b o e) hb (neC b o e hx) (I.base.keep b o e n hb hx) (I.base.free b o e n hx)
  · obtain ⟨sl, e1⟩ := I.base.slot b o e n hb hx
    obtain ⟨sl', e2⟩ := slot b _ (neL b o e) hb (neC b o e hx) e1 (I.base.free b o e n hx)
    exact ⟨sl', e2⟩
  · obtain ⟨o', e1⟩ := I.base.there b o e hx
    exact free b o' (neC b o e hx) e1 (I.base.free b o e n hx)
  · obtain ⟨o', e1⟩ := I.base.there b o e hx
    exact there b o' (neC b o e hx) e1
  · obtain ⟨m1, e1⟩ := I.base.tbls b ps e
    obtain ⟨m2, e2⟩ := tbls b _ e1
    exact ⟨m1 ++ m2, by rw [e2, Array.append_assoc]⟩
  · obtain ⟨m, hn, hl⟩ := I.loc
    refine ⟨m, ns m hn, fun i x v e1 e2 e3 => ?_⟩
    obtain ⟨u, r, l⟩ := hl i x v e1 e2 e3
    refine ⟨u, r, ?_⟩
    rcases l with l | ⟨k, c, e, z⟩
    · exact .inl l
    · exact .inr ⟨k, c, e, cellK x c e _ z⟩
  · obtain ⟨v, z⟩ := I.cell x c e
    exact ⟨v, cellK x c e v z⟩
  · obtain ⟨m, ⟨o, _, _, ho, _⟩, _⟩ := I.loc
    exact free _ o (fun z => (hch _ z).2.1 rfl) ho I.free
  · obtain ⟨v, o, ho, hd⟩ := I.cell x c e
    exact free c o (fun z => (hch c z).2.2.1 x c e rfl) ho (I.freeC x c e)
  · obtain ⟨e, n, ne, nf, d⟩ := I.pin p hp
    have nch : p.1 ∉ ch := fun z => (hch p.1 z).2.2.2 p hp rfl
    exact ⟨keep p.1 p.2 ne nf nch e n, free p.1 p.2 nch e n, ne, nf, d⟩
/-- .. where the frame's own object is kept too -/
theorem Inv.un {t' : Nat} (I : Inv X pins σ H s) (u : Un X.fs [] H H' s.heap h') (hok : HOk X.prog X.w H' h') : Inv X pins σ H' { s with heap := h', toks := t' } := by
  obtain ⟨m, ⟨o, es, ep, ho, r⟩, _⟩ := id I.loc
  obtain ⟨sl, hL⟩ := u.any ho I.free (by simp)
  exact I.step (g' := s.gens) (d' := s.drawn) (ch := []) (fun _ z => nomatch z) (fun b o _ hb _ e n => u.keep b o e n hb (by simp)) (fun b o _ hb _ e n => u.slot b o e n hb (by simp)) (fun b o _ e n => u.free b o e n (by simp)) (fun b o _ e => u.there b o e (by simp)) u.tups u.frzs u.tbls (fun m' hm => by
    obtain ⟨o', es', ep', ho', r'⟩ := hm
    rw [ho] at ho'; cases ho'
    exact ⟨_, es', ep', hL, r'⟩) hok I.bare
/-- behind a call (or a comprehension's block): the slots of this frame may have changed too, the records at ch may have turned -/
theorem Inv.call {g' : Array GenState} {t' : Nat} {d' : Drawn} {ch : List Addr} (I : Inv X pins σ H s) (u : Un (frs X.stack) ch H H' s.heap h') (hok : HOk X.prog X.w H' h') (hg : AllBare g')
    (hch : ∀ b ∈ ch, (b ∈ X.ex ∨ X.s_0.heap.objs.size ≤ b) ∧ b ≠ X.env.locals ∧ (∀ x c, X.env.cells.lookup x = some c → c ≠ b) ∧ ∀ p ∈ X.pn ++ pins, p.1 ≠ b) :
    Inv X pins σ H' { s with heap := h', gens := g', drawn := d', toks := t' } := by
  obtain ⟨m, ⟨o, es, ep, ho, r⟩, _⟩ := id I.loc
  obtain ⟨sl, hL⟩ := u.any ho I.free fun z => (hch _ z).2.1 rfl
  exact I.step (ch := ch) hch (fun b o hL hb hc e n => u.keep b o e n (fun z => (List.mem_cons.mp (I.stkSub b z)).elim hL hb) hc) (fun b o _ _ hc e n => u.any e n hc) (fun b o hc e n => u.free b o e n hc) (fun b o hc e => u.there b o e hc) u.tups u.frzs u.tbls (fun m' hm => by
    obtain ⟨o', es', ep', ho', r'⟩ := hm
    rw [ho] at ho'; cases ho'
    exact ⟨_, es', ep', hL, r'⟩) hok hg
/-- an untracked record of ours (an iterator) has turned -/
theorem Inv.turned {t' : Nat} {it : Addr} (I : Inv X pins σ H s) (k : ∀ b o, b ≠ it → s.heap.get? b = some o → h'.get? b = some o) (hn : H it = none) (hL : it ≠ X.env.locals)
    (h1 : it ∈ X.ex ∨ X.s_0.heap.objs.size ≤ it) (h2 : ∀ x c, X.env.cells.lookup x = some c → c ≠ it) (h3 : ∀ p ∈ X.pn ++ pins, p.1 ≠ it) : Inv X pins σ H { s with heap := h', toks := t' } := by
  have nit : ∀ b u, H b = some u → b ≠ it := fun b u e z => by rw [z, hn] at e; cases e
  refine I.step (g' := s.gens) (d' := s.drawn) (ch := [it]) (fun b hb => ?_) (fun b o _ _ hc e _ => k b o (fun z => hc (by simp [z])) e) (fun b o _ _ hc e _ => ⟨o.slots, k b o (fun z => hc (by simp [z])) e⟩) (fun _ _ _ _ n => n)
    (fun b o hc e => ⟨o, k b o (fun z => hc (by simp [z])) e⟩) (fun _ _ e => e) (fun _ _ _ e => e) (fun b ps e => ⟨#[], by rw [e]; simp⟩) (fun m hm => ?_) (fun b u e => ?_) I.bare
  · have e : b = it := by simpa using hb
    subst e
    exact ⟨h1, hL, h2, h3⟩
  · obtain ⟨o, es, ep, ho, r⟩ := hm
    exact ⟨o, es, ep, k _ o (Ne.symm hL) ho, r⟩
  · refine (I.hok b u e).stay (fun c v hc q => k c v ?_ q) (fun _ q => q) fun _ _ q => q
    rcases hc with z | z
    · rw [z]; exact nit b u e
    · exact nit c _ z
theorem Inv.tok (I : Inv X pins σ H s) (t : Nat) : Inv X pins σ H { s with toks := t } := I.un (h' := s.heap) (t' := t) Un.refl I.hok
/-- all objects kept -/
theorem Inv.kept {t' : Nat} (I : Inv X pins σ H s) (k : ∀ b u, s.heap.get? b = some u → h'.get? b = some u) : Inv X pins σ H { s with heap := h', toks := t' } := I.un (Un.kept k) (I.hok.kept k)
/-- a new object laid and tracked -/
theorem Inv.laid {a : Addr} {o : HO} {t' : Nat} (I : Inv X pins σ H s) (k : ∀ b u, s.heap.get? b = some u → h'.get? b = some u) (hp : s.heap.objs.size ≤ a) (new : ObjOk X.prog X.w (upd H a o) h' a o) :
    Inv X pins σ (upd H a o) { s with heap := h', toks := t' } := I.un (Un.laid k hp (I.hok.fresh hp)) (I.hok.laid k hp new)
/-- an object written -/
theorem Inv.write {x e : Addr} {o : HO} {t' : Nat} (I : Inv X pins σ H s) (mu : Mut (H x)) (he : e = x ∨ H e = some (.own x)) (k : ∀ b u, b ≠ e → s.heap.get? b = some u → h'.get? b = some u) (heo : ∃ u, h'.get? e = some u)
    (new : ObjOk X.prog X.w (upd H x o) h' x o) : Inv X pins σ (upd H x o) { s with heap := h', toks := t' } := I.un (Un.write mu he k heo) (I.hok.write mu he k heo new)
/-- forgetting slots, pins -/
theorem Inv.weak {σ' : List (Option V)} (I : Inv X pins σ H s) (hl : σ'.length = σ.length) (w : ∀ (i : Nat) v, σ'[i]? = some (some v) → σ[i]? = some (some v)) : Inv X pins σ' H s :=
  ⟨I.ok, I.os, I.bare, I.base, let ⟨m, hn, hl'⟩ := I.loc; ⟨m, hn, fun i x v e1 e2 e3 => hl' i x v e1 (w i v e2) e3⟩, I.cell, I.free, I.freeC, I.pin, I.hok, hl.trans I.len⟩
theorem Inv.pins_of {pins' : List (Addr × Obj)} (I : Inv X pins σ H s) (h : ∀ p ∈ pins', s.heap.get? p.1 = some p.2 ∧ H p.1 = none ∧ p.1 ≠ X.env.locals ∧ p.1 ∉ X.fs ∧ ∀ v, p.2.data ≠ .cell v) : Inv X pins' σ H s :=
  ⟨I.ok, I.os, I.bare, I.base, I.loc, I.cell, I.free, I.freeC, fun p hp => (List.mem_append.mp hp).elim (fun z => I.pin p (List.mem_append_left _ z)) (h p), I.hok, I.len⟩
theorem nodup_ix {N : List Str} (hN : N.Nodup) {i j : Nat} {x : Str} (a : N[i]? = some x) (b : N[j]? = some x) : i = j := by
  obtain ⟨h1, e1⟩ := List.getElem?_eq_some_iff.mp a
  obtain ⟨h2, e2⟩ := List.getElem?_eq_some_iff.mp b
  exact (List.getElem_inj hN).mp (e1.trans e2.symm)
/-- a name is stored; what changed -/
theorem store_ok2 {M : Model} {A : Around} {E : Value → Shared → Prop} {i : Nat} {x : Str} {v : V} {u : Value} {Q : Unit → Shared → Prop} (I : Inv X pins σ H s) (hN : X.N.Nodup) (hi : X.N[i]? = some x) (hx : Loc X.env.scope x) (r : RelV v u)
    (h : ∀ s', Inv X pins (σ.set i (some v)) H s' → (∃ a, Heap.SameBut a s.heap s'.heap ∧ (a = X.env.locals ∨ X.env.cells.lookup x = some a)) → Q () s') (hf : X.fn x = true ∨ X.env.scope.names.lookup x = some .local := by first | exact .inl rfl | exact .inr rfl | assumption) : wpAny M A (storeName X.env x u) Q E s := by
  obtain ⟨m, hn, hl⟩ := id I.loc
  have hcls : (X.env.scope.kind == .class || (X.env.scope.kind == .module && X.env.locals != X.env.globals)) = false := by rw [I.ok.kind]; rfl
  have hiσ : i < σ.length := by rw [I.len]; exact (List.getElem?_eq_some_iff.mp hi).1
  have cne := I.cne
  have tracked : ∀ {a : Addr} {h' : Heap}, (∃ o, s.heap.get? a = some o ∧ H a = none) → Heap.SameBut a s.heap h' → HOk X.prog X.w H h' := fun {a h'} ha hs b ob e => by
    obtain ⟨_, _, hfree⟩ := ha
    refine (I.hok b ob e).stay (fun c w' hc q => (hs.2 c ?_).trans q) (fun _ q => q) fun _ _ q => q
    rintro rfl
    rcases hc with rfl | hc
    · rw [hfree] at e; cases e
    · rw [hfree] at hc; cases hc
  rcases hx with hk | hk
  · refine wpAny_storeName_local hk hn (fun h' hn' hs => ?_) hcls
    obtain ⟨oL, _, _, hoL, _⟩ := id hn
    refine h _ ⟨I.ok, I.os, I.bare, ⟨fun b o e n hb hx => ?_, fun b o e n hb hx => ?_, I.base.free, fun b o e hx => ?_, I.base.tups, I.base.frzs, I.base.tbls⟩, ⟨_, hn', fun j y v' e1 e2 e3 => ?_⟩, fun y c e => ?_, I.free, I.freeC, fun p hp => ?_, tracked ⟨oL, hoL, I.free⟩ hs, by simpa using I.len⟩ ⟨_, hs, .inl rfl⟩
    · exact (hs.2 b (Nat.ne_of_lt (Nat.lt_of_lt_of_le (Heap.lt_size e) I.ok.above))).trans (I.base.keep b o e n hb hx)
    · obtain ⟨sl, e1⟩ := I.base.slot b o e n hb hx
      exact ⟨sl, (hs.2 b (Nat.ne_of_lt (Nat.lt_of_lt_of_le (Heap.lt_size e) I.ok.above))).trans e1⟩
    · obtain ⟨o', e1⟩ := I.base.there b o e hx
      exact ⟨o', (hs.2 b (Nat.ne_of_lt (Nat.lt_of_lt_of_le (Heap.lt_size e) I.ok.above))).trans e1⟩
    · by_cases hj : j = i
      · subst hj
        rw [hi] at e1; cases e1
        rw [List.getElem?_set_self hiσ] at e2
        cases e2
        exact ⟨u, r, .inl ⟨hk, by simp⟩⟩
      · rw [List.getElem?_set_ne (Ne.symm hj)] at e2
        obtain ⟨u', r', q⟩ := hl j y v' e1 e2 e3
        refine ⟨u', r', ?_⟩
        rcases q with ⟨k, e⟩ | ⟨k, c, e, z⟩
        · refine .inl ⟨k, ?_⟩
          have : y ≠ x := fun e => hj (nodup_ix hN e1 (e ▸ hi))
          simp [this, e]
        · exact .inr ⟨k, c, e, z.sameBut hs (cne y c e)⟩
    · obtain ⟨w', z⟩ := I.cell y c e
      exact ⟨w', z.sameBut hs (cne y c e)⟩
    · obtain ⟨e, n, ne, nf, d⟩ := I.pin p hp
      exact ⟨(hs.2 p.1 ne).trans e, n, ne, nf, d⟩
  · have hfn : X.fn x = true := by
      rcases hf with z | z
      · exact z
      · rw [z] at hk; cases hk
    obtain ⟨c, hc⟩ := I.ok.has x (.inl hk)
    obtain ⟨w', z⟩ := I.cell x c hc
    refine wpAny_storeName_cell I.ok.kind hk hc z (fun h' hc' hs => ?_)
    obtain ⟨oc, hoc, hocd⟩ := id z
    refine h { s with heap := h' } ⟨I.ok, I.os, I.bare, ⟨fun b o e n hb hx => ?_, fun b o e n hb hx => ?_, I.base.free, fun b o e hx => ?_, I.base.tups, I.base.frzs, I.base.tbls⟩, ⟨m, hn.sameBut hs (Ne.symm (cne x c hc)), fun j y v' e1 e2 e3 => ?_⟩, fun y c' e => ?_, I.free, I.freeC, fun p hp => ?_, tracked ⟨oc, hoc, I.freeC x c hc⟩ hs, by simpa using I.len⟩ ⟨c, hs, .inr hc⟩
    · exact (hs.2 b (Nat.ne_of_lt (Nat.lt_of_lt_of_le (Heap.lt_size e) (I.ok.cab x c hfn hc)))).trans (I.base.keep b o e n hb hx)
    · obtain ⟨sl, e1⟩ := I.base.slot b o e n hb hx
      exact ⟨sl, (hs.2 b (Nat.ne_of_lt (Nat.lt_of_lt_of_le (Heap.lt_size e) (I.ok.cab x c hfn hc)))).trans e1⟩
    · obtain ⟨o', e1⟩ := I.base.there b o e hx
      exact ⟨o', (hs.2 b (Nat.ne_of_lt (Nat.lt_of_lt_of_le (Heap.lt_size e) (I.ok.cab x c hfn hc)))).trans e1⟩
    · by_cases hj : j = i
      · subst hj
        rw [hi] at e1; cases e1
        rw [List.getElem?_set_self hiσ] at e2
        cases e2
        exact ⟨u, r, .inr ⟨.inl hk, c, hc, hc'⟩⟩
      · rw [List.getElem?_set_ne (Ne.symm hj)] at e2
        obtain ⟨u', r', q⟩ := hl j y v' e1 e2 e3
        refine ⟨u', r', ?_⟩
        rcases q with q | ⟨k, c', e, z'⟩
        · exact .inl q
        · refine .inr ⟨k, c', e, z'.sameBut hs ?_⟩
          rintro rfl
          exact hj (nodup_ix hN e1 (I.ok.inj _ _ _ e hc ▸ hi))
    · by_cases hcc : c' = c
      · subst hcc; exact ⟨_, hc'⟩
      · obtain ⟨w2, z2⟩ := I.cell y c' e
        exact ⟨w2, z2.sameBut hs hcc⟩
    · obtain ⟨e, n, ne, nf, d⟩ := I.pin p hp
      refine ⟨(hs.2 p.1 ?_).trans e, n, ne, nf, d⟩
      intro q
      rw [q, hoc] at e
      have q' : oc = p.2 := Option.some.inj e
      exact d w' (by rw [← q']; exact hocd)
theorem store_ok {M : Model} {A : Around} {E : Value → Shared → Prop} {i : Nat} {x : Str} {v : V} {u : Value} {Q : Unit → Shared → Prop} (I : Inv X pins σ H s) (hN : X.N.Nodup) (hi : X.N[i]? = some x) (hx : Loc X.env.scope x) (r : RelV v u)
    (h : ∀ s', Inv X pins (σ.set i (some v)) H s' → Q () s') (hf : X.fn x = true ∨ X.env.scope.names.lookup x = some .local := by first | exact .inl rfl | exact .inr rfl | assumption) : wpAny M A (storeName X.env x u) Q E s :=
  store_ok2 I hN hi hx r (fun s' I' _ => h s' I') hf
/-- behind a call or a block, the state as it is -/
theorem Inv.call' {s' : Shared} {ch : List Addr} (I : Inv X pins σ H s) (ho : s'.os = s.os) (u : Un (frs X.stack) ch H H' s.heap s'.heap) (hok : HOk X.prog X.w H' s'.heap) (hg : AllBare s'.gens)
    (hch : ∀ b ∈ ch, (b ∈ X.ex ∨ X.s_0.heap.objs.size ≤ b) ∧ b ≠ X.env.locals ∧ (∀ x c, X.env.cells.lookup x = some c → c ≠ b) ∧ ∀ p ∈ X.pn ++ pins, p.1 ≠ b) : Inv X pins σ H' s' := by
  obtain ⟨h', g', d', t', o'⟩ := s'
  have e : o' = s.os := ho
  subst e
  exact I.call (g' := g') (t' := t') (d' := d') u hok hg hch
end
/-- an exception: its class, its own dict's address (where it has one), the abstract heap behind it -/
abbrev XK := Value → Option Addr → Hp → Prop
abbrev St := List (Option V)
abbrev VK := V → Hp → Prop
/-- an expression's reading; a test's; an argument list's -/
abbrev TE := St → Hp → VK → Prop
abbrev TT := St → Hp → (Bool → Hp → Prop) → Prop
abbrev TA := St → Hp → (List V → Hp → Prop) → Prop
/-- what is wanted behind a statement -/
structure Ends where
  nx : St → Hp → Prop
  rt : VK
  bk : St → Hp → Prop := fun _ _ => False
  ct : St → Hp → Prop := fun _ _ => False
abbrev TS := Ends → St → Hp → Prop
def EP (X : Cx) (pins : List (Addr × Obj)) (σ : St) (Q : VK) (u : Value) (s' : Shared) : Prop := ∃ v H', Inv X pins σ H' s' ∧ RelV v u ∧ Q v H'
def TP (X : Cx) (pins : List (Addr × Obj)) (σ : St) (Q : Bool → Hp → Prop) (b : Bool) (s' : Shared) : Prop := ∃ H', Inv X pins σ H' s' ∧ Q b H'
def AP (X : Cx) (pins : List (Addr × Obj)) (σ : St) (Q : List V → Hp → Prop) (us : List Value) (s' : Shared) : Prop := ∃ vs H', Inv X pins σ H' s' ∧ Vals vs us ∧ Q vs H'
def SP (X : Cx) (pins : List (Addr × Obj)) (D : Ends) (f : Flow) (s' : Shared) : Prop :=
  match f with
  | .next => ∃ σ' H', Inv X pins σ' H' s' ∧ D.nx σ' H'
  | .brk => ∃ σ' H', Inv X pins σ' H' s' ∧ D.bk σ' H'
  | .cont => ∃ σ' H', Inv X pins σ' H' s' ∧ D.ct σ' H'
  | .ret u => ∃ v σ' H', Inv X pins σ' H' s' ∧ RelV v u ∧ D.rt v H'
def PE (X : Cx) (e : Expr) (t : TE) : Prop :=
  ∀ (pins : List (Addr × Obj)) (s : Shared) (σ : St) (H : Hp) (Q : VK), Inv X pins σ H s → t σ H Q → wpAny (model X.prog X.w) X.A (eval e X.env) (EP X pins σ Q) X.xe s
def PT (X : Cx) (e : Expr) (t : TT) : Prop :=
  ∀ (pins : List (Addr × Obj)) (s : Shared) (σ : St) (H : Hp) (Q : Bool → Hp → Prop), Inv X pins σ H s → t σ H Q → wpAny (model X.prog X.w) X.A (isTrue e X.env (eval e X.env)) (TP X pins σ Q) X.xe s
/-- a test whatever its 'whole' is (and, or) -/
def PW (X : Cx) (e : Expr) (t : TT) : Prop :=
  ∀ (whole : Sem Value) (pins : List (Addr × Obj)) (s : Shared) (σ : St) (H : Hp) (Q : Bool → Hp → Prop), Inv X pins σ H s → t σ H Q → wpAny (model X.prog X.w) X.A (isTrue e X.env whole) (TP X pins σ Q) X.xe s
theorem PW.pt {X : Cx} {e : Expr} {t : TT} (h : PW X e t) : PT X e t := h _
/-- an argument list (no star), from the left -/
def PA (X : Cx) (es : List Expr) (t : TA) : Prop :=
  ∀ (pos : Pos) (pins : List (Addr × Obj)) (s : Shared) (σ : St) (H : Hp) (Q : List V → Hp → Prop), Inv X pins σ H s → t σ H Q → wpAny (model X.prog X.w) X.A (spliced (backTo pos (starEach es X.env))) (AP X pins σ Q) X.xe s
def PS (X : Cx) (st : Stmt) (t : TS) : Prop :=
  ∀ (pins : List (Addr × Obj)) (s : Shared) (σ : St) (H : Hp) (D : Ends), Inv X pins σ H s → t D σ H → wpAny (model X.prog X.w) X.A (exec st X.env) (SP X pins D) X.xe s
def PSs (X : Cx) (st : List Stmt) (t : TS) : Prop :=
  ∀ (pins : List (Addr × Obj)) (s : Shared) (σ : St) (H : Hp) (D : Ends), Inv X pins σ H s → t D σ H → wpAny (model X.prog X.w) X.A (execs st X.env) (SP X pins D) X.xe s
/-- weaken the end -/
theorem thn {α : Type} {t : Sem α} {Q Q' : α → Shared → Prop} {M : Model} {A : Around} {E : Value → Shared → Prop} {s : Shared} (h : wpAny M A t Q E s) (hQ : ∀ a s, Q a s → Q' a s) : wpAny M A t Q' E s := wpAny_mono h hQ fun _ _ x => x
end L2
namespace L2
open PySem PySem.Spec PyProof.Rows
section
variable {X : Cx}
/-- two expressions in a row -/
theorem bin {a b : Expr} {ta tb : TE} (ha : PE X a ta) (hb : PE X b tb) {pins : List (Addr × Obj)} {s : Shared} {σ : St} {H : Hp} {R : V → V → Hp → Prop} (I : Inv X pins σ H s) (h : ta σ H fun x H1 => tb σ H1 fun y H2 => R x y H2)
    {α : Type} {Q : α → Shared → Prop} {f : Value → Value → Sem α}
    (hf : ∀ v u s2 x y H2, Inv X pins σ H2 s2 → RelV x v → RelV y u → R x y H2 → wpAny (model X.prog X.w) X.A (f v u) Q X.xe s2) :
    wpAny (model X.prog X.w) X.A (eval a X.env) (fun v s₁ => wpAny (model X.prog X.w) X.A (eval b X.env) (fun u s₂ => wpAny (model X.prog X.w) X.A (f v u) Q X.xe s₂) X.xe s₁) X.xe s := by
  refine thn (ha pins s σ H _ I h) fun v s1 ⟨x, H1, I1, r1, q1⟩ => ?_
  refine thn (hb pins s1 σ H1 _ I1 q1) fun u s2 ⟨y, H2, I2, r2, q2⟩ => ?_
  exact hf v u s2 x y H2 I2 r1 r2 q2
def tVar (i : Nat) : TE := fun σ H Q => ∃ v, σ[i]? = some (some v) ∧ Q v H
def tC (v : V) : TE := fun _ H Q => Q v H
theorem pe_var {i : Nat} {x : Str} {pos : Pos} (hN : X.N[i]? = some x) (hv : Vis X.env.scope x) (hd : (x == ("__debug__" : Str)) = false := by decide) (hcd : (x == ("__classdict__" : Str)) = false := by decide) : PE X (.Name x pos) (tVar i) := by
  intro pins s σ H Q I h
  obtain ⟨v, e, h⟩ := h
  obtain ⟨m, hn, hl⟩ := I.loc
  obtain ⟨u, r, l⟩ := hl i x v hN e hv
  have fin : EP X pins σ Q u s := ⟨v, H, I, r, h⟩
  rcases l with ⟨hk, hm⟩ | ⟨hk, c, hc, hcell⟩
  · exact wpAny_Name (wpAny_loadName_local I.ok.kind hk hn hm fin) hd
  · rcases hk with hk | hk
    · exact wpAny_Name (wpAny_loadName_cell I.ok.kind hk hc hcell fin) hd
    · exact wpAny_Name (wpAny_loadName_free I.ok.kind hk hc hcell fin hcd) hd
theorem pe_int {i j pos} : PE X (.Constant (.int i) j pos) (tC (.int i)) := fun _ _ _ H _ I h => wpAny_Constant_int ⟨.int i, H, I.tok _, ⟨_, rfl⟩, h⟩
theorem pe_bl {b j pos} : PE X (.Constant (.bool b) j pos) (tC (.bl b)) := fun _ _ _ H _ I h => Constant_bool ⟨.bl b, H, I, rfl, h⟩
theorem pe_non {j pos} : PE X (.Constant .none j pos) (tC .non) := fun _ _ _ H _ I h => Constant_none ⟨.non, H, I, rfl, h⟩
/-- a global name of the def -/
def Gl (X : Cx) (x : Str) : Prop := X.env.kindOf x = some .globalImplicit
theorem ld_glob {E : Value → Shared → Prop} {pins : List (Addr × Obj)} {s : Shared} {σ : St} {H : Hp} {x : Str} {u : Value} {pos : Pos} {Q : Value → Shared → Prop} (I : Inv X pins σ H s) (hg : Gl X x) (hm : X.mg x = some u) (h : Q u s)
    (hd : (x == ("__debug__" : Str)) = false := by decide) : wpAny (model X.prog X.w) X.A (eval (.Name x pos) X.env) Q E s :=
  Calls.Name_function_global I.ok.kind hg (Calls.loadGlobal_global (by rw [I.ok.glob]; exact I.mod.glob.keeps I.bk) hm h) hd
theorem ld_blt {E : Value → Shared → Prop} {pins : List (Addr × Obj)} {s : Shared} {σ : St} {H : Hp} {x : Str} {u : Value} {pos : Pos} {Q : Value → Shared → Prop} (I : Inv X pins σ H s) (hg : Gl X x) (hm : X.mg x = none) (hv : bootBuiltins x = some u) (h : Q u s)
    (hn : x ≠ "__name__" := by decide) (hd : (x == ("__debug__" : Str)) = false := by decide) : wpAny (model X.prog X.w) X.A (eval (.Name x pos) X.env) Q E s := by
  obtain ⟨mb, h1, h2⟩ := I.mod.blt
  exact Calls.Name_function_global I.ok.kind hg (Calls.loadGlobal_builtin (by rw [I.ok.glob]; exact I.mod.glob.keeps I.bk) hm (by rw [I.ok.blt]; exact h1.keeps I.bk) ((h2 x hn).trans hv) h) hd
/-- a module's constant, a class, a function, as a value -/
theorem pe_glob {x : Str} {v : V} {u : Value} {pos : Pos} (hg : Gl X x) (hm : X.mg x = some u) (r : RelV v u) (hd : (x == ("__debug__" : Str)) = false := by decide) : PE X (.Name x pos) (tC v) :=
  fun _ _ _ H _ I h => ld_glob I hg hm ⟨v, H, I, r, h⟩ hd
variable {a b : Expr} {ta tb : TE} {pos : Pos}
def PC (X : Cx) (op : CmpOp) (a b : Expr) (t : TE) : Prop :=
  ∀ (pins : List (Addr × Obj)) (s : Shared) (σ : St) (H : Hp) (Q : VK), Inv X pins σ H s → t σ H Q →
    wpAny (model X.prog X.w) X.A (eval a X.env) (fun v s₁ => wpAny (model X.prog X.w) X.A (eval b X.env) (fun u s₂ => wpAny (model X.prog X.w) X.A (compareOp op v u) (EP X pins σ Q) X.xe s₂) X.xe s₁) X.xe s
theorem nobehind (b : Expr) {op : CmpOp} (h : op ≠ .In) (h2 : op ≠ .NotIn) : behindInMarks op b = false := by
  have e1 : (op == CmpOp.In) = false := by cases op <;> first | rfl | exact absurd rfl h
  have e2 : (op == CmpOp.NotIn) = false := by cases op <;> first | rfl | exact absurd rfl h2
  cases b <;> simp [behindInMarks, e1, e2]
/-- is None -/
def tIsN (ta : TE) : TE := fun σ H Q => ta σ H fun x H1 => Q (.bl (decide (x = .non))) H1
def tNotN (ta : TE) : TE := fun σ H Q => ta σ H fun x H1 => Q (.bl (!decide (x = .non))) H1
theorem RelV.none_iff {x : V} {v : Value} (r : RelV x v) : (v == Value.none) = decide (x = .non) := by
  cases x with
  | non => cases r; rfl
  | bl _ => cases r; rfl
  | int _ => obtain ⟨t, rfl⟩ := r; rfl
  | str _ => obtain ⟨t, rfl⟩ := r; rfl
  | byt _ => obtain ⟨t, rfl⟩ := r; rfl
  | flt _ => obtain ⟨t, rfl⟩ := r; rfl
  | ref _ => cases r; rfl
  | ty _ => cases r; rfl
theorem pc_isN {j pos'} (ha : PE X a ta) : PC X .Is a (.Constant .none j pos') (tIsN ta) := by
  intro pins s σ H Q I h
  refine thn (ha pins s σ H _ I h) fun v s1 ⟨x, H1, I1, r1, q1⟩ => ?_
  exact Constant_none (is_none_gen ⟨.bl _, H1, I1, by rw [r1.none_iff]; rfl, q1⟩)
theorem pc_notN {j pos'} (ha : PE X a ta) : PC X .IsNot a (.Constant .none j pos') (tNotN ta) := by
  intro pins s σ H Q I h
  refine thn (ha pins s σ H _ I h) fun v s1 ⟨x, H1, I1, r1, q1⟩ => ?_
  exact Constant_none (isnot_none_gen ⟨.bl _, H1, I1, by rw [r1.none_iff]; rfl, q1⟩)
/-- a comparison as a value, as a test -/
def tB (t : TE) : TT := fun σ H Q => t σ H fun x H1 => ∃ c, x = .bl c ∧ Q c H1
theorem pe_cmp {op : CmpOp} {t : TE} (h : PC X op a b t) (h1 : behindInMarks op b = false := by first | exact nobehind _ (by decide) (by decide) | rfl) : PE X (.Compare a [op] [b] pos) t := fun pins s σ H Q I hw => wpAny_Compare1 (h pins s σ H Q I hw) h1
theorem pt_cmp {op : CmpOp} {t : TE} (h : PC X op a b t) (h1 : behindInMarks op b = false := by first | exact nobehind _ (by decide) (by decide) | rfl) : PT X (.Compare a [op] [b] pos) (tB t) := by
  intro pins s σ H Q I hw
  refine wpAny_isTrue_Compare1 (thn (h pins s σ H _ I hw) fun v s1 h1 => thn h1 fun u s2 h2 => thn h2 fun c s3 ⟨x, H1, I1, r1, q1⟩ => ?_) h1
  obtain ⟨d, rfl, q⟩ := q1
  cases r1
  exact wpAny_truthy_bool ⟨H1, I1, q⟩
/-- an expression whose value is a bool, as a test -/
theorem pt_val {e : Expr} {t : TE} (h : PE X e t) (he : ∀ whole, isTrue e X.env whole = (do let v ← whole; standAt e.pos; holding [v] (truthy v)) := by intro _; rfl) : PT X e (tB t) := by
  intro pins s σ H Q I hw
  refine isTrue_plain (thn (h pins s σ H _ I hw) fun v s1 ⟨x, H1, I1, r1, q1⟩ => ?_) (he _)
  obtain ⟨d, rfl, q⟩ := q1
  cases r1
  exact wpAny_truthy_bool ⟨H1, I1, q⟩
variable {tA tB' : TT} {rest : List Expr}
def tAnd (t u : TT) : TT := fun σ H Q => t σ H fun c H1 => if c = true then u σ H1 Q else Q false H1
def tOr (t u : TT) : TT := fun σ H Q => t σ H fun c H1 => if c = true then Q true H1 else u σ H1 Q
def tNot (t : TT) : TT := fun σ H Q => t σ H fun c H1 => Q (!c) H1
theorem pw_and1 (ha : PT X a tA) : PW X (.BoolOp .And [a] pos) tA := by
  intro wh pins s σ H Q I h
  refine isTrue_and (thn (ha pins s σ H Q I h) fun c s1 e => ?_)
  cases c with
  | true => exact isTrue_and_nil e
  | false => exact e
theorem pw_or1 (ha : PT X a tA) : PW X (.BoolOp .Or [a] pos) tA := by
  intro wh pins s σ H Q I h
  refine isTrue_or (thn (ha pins s σ H Q I h) fun c s1 e => ?_)
  cases c with
  | false => exact isTrue_or_nil e
  | true => exact e
theorem pw_and (ha : PT X a tA) (hb : PW X (.BoolOp .And (b :: rest) pos) tB') : PW X (.BoolOp .And (a :: b :: rest) pos) (tAnd tA tB') := by
  intro wh pins s σ H Q I h
  refine isTrue_and (thn (ha pins s σ H _ I h) fun c s1 ⟨H1, I1, q1⟩ => ?_)
  cases c with
  | true => exact hb wh pins s1 σ H1 Q I1 q1
  | false => exact ⟨H1, I1, q1⟩
theorem pw_or (ha : PT X a tA) (hb : PW X (.BoolOp .Or (b :: rest) pos) tB') : PW X (.BoolOp .Or (a :: b :: rest) pos) (tOr tA tB') := by
  intro wh pins s σ H Q I h
  refine isTrue_or (thn (ha pins s σ H _ I h) fun c s1 ⟨H1, I1, q1⟩ => ?_)
  cases c with
  | true => exact ⟨H1, I1, q1⟩
  | false => exact hb wh pins s1 σ H1 Q I1 q1
theorem pt_not (ha : PT X a tA) : PT X (.UnaryOp .Not a pos) (tNot tA) := by
  intro pins s σ H Q I h
  exact isTrue_not (ha pins s σ H (fun c H1 => Q (!c) H1) I h)
/-- .. as values (bools) -/
def tAndV (ta tb : TE) : TE := fun σ H Q => ta σ H fun x H1 => ∃ c, x = .bl c ∧ if c = true then tb σ H1 Q else Q (.bl false) H1
def tOrV (ta tb : TE) : TE := fun σ H Q => ta σ H fun x H1 => ∃ c, x = .bl c ∧ if c = true then Q (.bl true) H1 else tb σ H1 Q
theorem pe_one {op} {t : TE} (h : PE X a t) : PE X (.BoolOp op [a] pos) t := fun pins s σ H Q I hw => BoolOp_one (h pins s σ H Q I hw)
theorem pe_and (ha : PE X a ta) (hb : PE X (.BoolOp .And (b :: rest) pos) tb) : PE X (.BoolOp .And (a :: b :: rest) pos) (tAndV ta tb) := by
  intro pins s σ H Q I h
  refine BoolOp_and (thn (ha pins s σ H _ I h) fun v s1 ⟨x, H1, I1, r1, q1⟩ => ?_)
  obtain ⟨c, rfl, q1⟩ := q1
  cases r1
  refine wpAny_truthy_bool ?_
  cases c with
  | true => exact hb pins s1 σ H1 Q I1 q1
  | false => exact ⟨.bl false, H1, I1, rfl, q1⟩
theorem pe_or (ha : PE X a ta) (hb : PE X (.BoolOp .Or (b :: rest) pos) tb) : PE X (.BoolOp .Or (a :: b :: rest) pos) (tOrV ta tb) := by
  intro pins s σ H Q I h
  refine BoolOp_or (thn (ha pins s σ H _ I h) fun v s1 ⟨x, H1, I1, r1, q1⟩ => ?_)
  obtain ⟨c, rfl, q1⟩ := q1
  cases r1
  refine wpAny_truthy_bool ?_
  cases c with
  | false => exact hb pins s1 σ H1 Q I1 q1
  | true => exact ⟨.bl true, H1, I1, rfl, q1⟩
/-- a if t else b -/
def tIf (t : TT) (ta tb : TE) : TE := fun σ H Q => t σ H fun c H1 => if c = true then ta σ H1 Q else tb σ H1 Q
theorem pe_ifExp {c : Expr} (hc : PT X c tA) (ha : PE X a ta) (hb : PE X b tb) : PE X (.IfExp c a b pos) (tIf tA ta tb) := by
  intro pins s σ H Q I h
  refine wpAny_IfExp (thn (hc pins s σ H _ I h) fun d s1 ⟨H1, I1, q1⟩ => ?_)
  cases d with
  | true => exact ha pins s1 σ H1 Q I1 q1
  | false => exact hb pins s1 σ H1 Q I1 q1
end
end L2
namespace L2
open PySem PySem.Spec PyProof.Rows
def SqL (K : PySem.W.Frag) (H : Hp) (a : Addr) (xs : List V) : Prop :=
  Rd H a (.lst xs) ∨
    ∃ (o : Obj) (its : Array Value) (n : Nat), K.lookup a = some o ∧ o.cls = .type "list" ∧ o.dict = none ∧ o.data = .seq its n ∧ its.size ≤ sizeLine ∧ Vals xs its.toList
def SqT (K : PySem.W.Frag) (H : Hp) (a : Addr) (xs : List V) : Prop :=
  Rd H a (.tup xs) ∨
    ∃ (o : Obj) (its : Array Value) (n : Nat), K.lookup a = some o ∧ o.cls = .type "tuple" ∧ o.data = .seq its n ∧ its.size ≤ sizeLine ∧ Vals xs its.toList
def absV : Value → Option V
  | .none => some .non
  | .bool b => some (.bl b)
  | .int i _ => some (.int i)
  | .str x _ => some (.str x)
  | .bytes b _ => some (.byt b)
  | .float b _ => some (.flt b)
  | .ref a => some (.ref a)
  | .type n => some (.ty n)
  | _ => none
theorem RelV.abs {x : V} {u : Value} (r : RelV x u) : absV u = some x := by
  cases x with
  | non => cases r; rfl
  | bl _ => cases r; rfl
  | int _ => obtain ⟨t, rfl⟩ := r; rfl
  | str _ => obtain ⟨t, rfl⟩ := r; rfl
  | byt _ => obtain ⟨t, rfl⟩ := r; rfl
  | flt _ => obtain ⟨t, rfl⟩ := r; rfl
  | ref _ => cases r; rfl
  | ty _ => cases r; rfl
theorem RelV.inj {x y : V} {u : Value} (r : RelV x u) (q : RelV y u) : x = y := Option.some.inj (r.abs.symm.trans q.abs)
theorem Vals.inj : ∀ {xs ys : List V} {us : List Value}, Vals xs us → Vals ys us → xs = ys
  | _, _, _, .nil, .nil => rfl
  | _, _, _, .cons r t, .cons r' t' => by rw [r.inj r', Vals.inj t t']
section
variable {X : Cx} {pins : List (Addr × Obj)} {σ : St} {H : Hp} {s : Shared} {a : Addr} {xs ys : List V}
theorem SqL.of {K : PySem.W.Frag} (h : H a = some (.lst xs)) : SqL K H a xs := .inl (.inl h)
theorem SqT.of {K : PySem.W.Frag} (h : H a = some (.tup xs)) : SqT K H a xs := .inl (.inl h)
theorem Inv.list (I : Inv X pins σ H s) (h : SqL X.K H a xs) : ∃ its : List Value, Vals xs its ∧ PlainL s.heap a its.toArray ∧ xs.length ≤ sizeLine := by
  rcases h with h | ⟨o, its, n, hk, hc, hd, hs, hz, r⟩
  · obtain ⟨z, its, n, r, e⟩ := h.ok I.hok
    exact ⟨its, r, ⟨_, n, e, rfl, rfl, rfl⟩, z⟩
  · refine ⟨its.toList, r, ⟨o, n, I.kIn a o hk, hc, hd, by simpa using hs⟩, ?_⟩
    have e := r.length
    simp only [Array.length_toList] at e
    omega
theorem Inv.tuple (I : Inv X pins σ H s) (h : SqT X.K H a xs) : ∃ its : List Value, Vals xs its ∧ IsTup s.heap a its.toArray ∧ xs.length ≤ sizeLine := by
  rcases h with h | ⟨o, its, n, hk, hc, hs, hz, r⟩
  · obtain ⟨z, its, r, p⟩ := h.ok I.hok
    exact ⟨its, r, p, z⟩
  · refine ⟨its.toList, r, ⟨o, I.kIn a o hk, hc, n, by simpa using hs⟩, ?_⟩
    have e := r.length
    simp only [Array.length_toList] at e
    omega
theorem Inv.list_inj (I : Inv X pins σ H s) (h : SqL X.K H a xs) (h' : SqL X.K H a ys) : xs = ys := by
  obtain ⟨its, r, ⟨o, n, e, _, _, d⟩, _⟩ := I.list h
  obtain ⟨its', r', ⟨o', n', e', _, _, d'⟩, _⟩ := I.list h'
  rw [e] at e'; cases e'
  rw [d] at d'
  injection d' with d1 _
  have : its = its' := by simpa using congrArg Array.toList d1
  subst this
  exact r.inj r'
end
abbrev Cx.wish (X : Cx) (E : Value → Shared → Prop) : Cx := { X with xe := E }
/-- no exception leaves -/
abbrev Cx.nox (X : Cx) : Cx := X.wish fun _ _ => False
theorem Cx.Ok.wish {X : Cx} (ok : X.Ok) (E : Value → Shared → Prop) : (X.wish E).Ok :=
  ⟨ok.mod, ok.kind, ok.glob, ok.blt, ok.above, ok.inj, ok.has, ok.cab, ok.hd, ok.frames, ok.stk, ok.exf, ok.bs, ok.bsz, ok.noex, ok.exfs, ok.funs, ok.frf⟩
theorem Cx.Ok.unwish {X : Cx} {E : Value → Shared → Prop} (ok : (X.wish E).Ok) : X.Ok :=
  ⟨ok.mod, ok.kind, ok.glob, ok.blt, ok.above, ok.inj, ok.has, ok.cab, ok.hd, ok.frames, ok.stk, ok.exf, ok.bs, ok.bsz, ok.noex, ok.exfs, ok.funs, ok.frf⟩
section
variable {X : Cx} {pins : List (Addr × Obj)} {σ : St} {H : Hp} {s : Shared} {E : Value → Shared → Prop}
theorem Inv.wish (I : Inv X pins σ H s) (E : Value → Shared → Prop) : Inv (X.wish E) pins σ H s := ⟨I.ok.wish E, I.os, I.bare, I.base, I.loc, I.cell, I.free, I.freeC, I.pin, I.hok, I.len⟩
theorem Inv.unwish (I : Inv (X.wish E) pins σ H s) : Inv X pins σ H s := ⟨I.ok.unwish, I.os, I.bare, I.base, I.loc, I.cell, I.free, I.freeC, I.pin, I.hok, I.len⟩
theorem SP.unwish {D : Ends} {f : Flow} {s' : Shared} (h : SP (X.wish E) pins D f s') : SP X pins D f s' := by
  cases f with
  | next => obtain ⟨σ', H', I, q⟩ := h; exact ⟨σ', H', I.unwish, q⟩
  | brk => obtain ⟨σ', H', I, q⟩ := h; exact ⟨σ', H', I.unwish, q⟩
  | cont => obtain ⟨σ', H', I, q⟩ := h; exact ⟨σ', H', I.unwish, q⟩
  | ret u => obtain ⟨v, σ', H', I, r, q⟩ := h; exact ⟨v, σ', H', I.unwish, r, q⟩
theorem PSs.nox {st : List Stmt} {t : TS} (h : PSs X.nox st t) : PSs X st t := fun pins s σ H D I hw =>
  wpAny_mono (h pins s σ H D (I.wish _) hw) (fun _ _ q => q.unwish) fun _ _ z => False.elim z
end
section
variable {X : Cx} {st : Stmt} {rest : List Stmt} {t u : TS} {e : Expr} {te : TE} {pos : Pos}
def tNext : TS := fun D σ H => D.nx σ H
def tSeq (t u : TS) : TS := fun D σ H => t { D with nx := u D } σ H
theorem pss_nil : PSs X [] tNext := fun _ _ σ H _ I h => wpAny_execs_nil ⟨σ, H, I, h⟩
theorem pss_cons (h1 : PS X st t) (h2 : PSs X rest u) : PSs X (st :: rest) (tSeq t u) := by
  intro pins s σ H D I h
  refine wpAny_execs_cons (thn (h1 pins s σ H { D with nx := u D } I h) fun f s1 q => ?_)
  cases f with
  | next =>
    obtain ⟨σ', H', I', q⟩ := q
    exact h2 pins s1 σ' H' D I' q
  | ret v => exact q
  | brk => exact q
  | cont => exact q
theorem pss_one (h1 : PS X st t) : PSs X [st] t := by
  intro pins s σ H D I h
  refine wpAny_execs_cons (thn (h1 pins s σ H D I h) fun f s1 q => ?_)
  cases f with
  | next => exact wpAny_execs_nil q
  | ret v => exact q
  | brk => exact q
  | cont => exact q
/-- in a def's body nothing is shown -/
theorem Inv.quiet {pins : List (Addr × Obj)} {σ : St} {H : Hp} {s : Shared} (I : Inv X pins σ H s) : interactive X.env = false := by simp [interactive, I.ok.kind]
/-- an expression whose value is dropped -/
def tDrop (te : TE) : TS := fun D σ H => te σ H fun _ H1 => D.nx σ H1
theorem ps_expr (he : PE X e te) (hs : swapsWith e none pos.line X.env = pure false := by rfl) : PS X (.Expr e pos) (tDrop te) := by
  intro pins s σ H D I h
  exact wpAny_Expr_any (thn (he pins s σ H _ I h) fun v s1 ⟨x, H1, I1, r1, q1⟩ => ⟨σ, H1, I1, q1⟩) I.quiet hs
def tRet (te : TE) : TS := fun D σ H => te σ H D.rt
theorem ps_ret (he : PE X e te) : PS X (.Return (some e) pos) (tRet te) := by
  intro pins s σ H D I h
  exact wpAny_Return_some (thn (he pins s σ H _ I h) fun v s1 ⟨x, H1, I1, r1, q1⟩ => ⟨x, σ, H1, I1, r1, q1⟩)
def tIfS (c : TT) (t u : TS) : TS := fun D σ H => c σ H fun b H1 => if b = true then t D σ H1 else u D σ H1
theorem ps_if {c : Expr} {a b : List Stmt} {tc : TT} (hc : PT X c tc) (ha : PSs X a t) (hb : PSs X b u) : PS X (.If c a b pos) (tIfS tc t u) := by
  intro pins s σ H D I h
  refine wpAny_If (thn (hc pins s σ H _ I h) fun d s1 ⟨H1, I1, q1⟩ => ?_)
  cases d with
  | true => exact ha pins s1 σ H1 D I1 q1
  | false => exact hb pins s1 σ H1 D I1 q1
end
abbrev TG := V → St → Hp → (St → Hp → Prop) → Prop
abbrev TGs := List V → St → Hp → (St → Hp → Prop) → Prop
def PG (X : Cx) (target : Expr) (t : TG) : Prop :=
  ∀ (pins : List (Addr × Obj)) (s : Shared) (σ : St) (H : Hp) (v : V) (u : Value) (Q : St → Hp → Prop), Inv X pins σ H s → RelV v u → t v σ H Q →
    wpAny (model X.prog X.w) X.A (assign target X.env u) (fun _ s' => ∃ σ' H', Inv X pins σ' H' s' ∧ Q σ' H') X.xe s
/-- several targets, one after another -/
def PGs (X : Cx) (ts : List Expr) (t : TGs) : Prop :=
  ∀ (pins : List (Addr × Obj)) (s : Shared) (σ : St) (H : Hp) (vs : List V) (us : List Value) (Q : St → Hp → Prop), Inv X pins σ H s → Vals vs us → t vs σ H Q →
    wpAny (model X.prog X.w) X.A (assignInOrder ((assignEach ts X.env).map (·.2)) us) (fun _ s' => ∃ σ' H', Inv X pins σ' H' s' ∧ Q σ' H') X.xe s
section
variable {X : Cx} {pos : Pos}
def gName (i : Nat) : TG := fun v σ H Q => Q (σ.set i (some v)) H
theorem pg_name {i : Nat} {x : Str} (hN : X.N.Nodup) (hi : X.N[i]? = some x) (hx : Loc X.env.scope x) (hf : X.fn x = true ∨ X.env.scope.names.lookup x = some .local := by first | exact .inl rfl | exact .inr rfl | assumption) : PG X (.Name x pos) (gName i) := by
  intro pins s σ H v u Q I r h
  exact wpAny_assign_Name (store_ok I hN hi hx r (fun s' I' => ⟨_, H, I', h⟩) hf)
def gNil : TGs := fun vs σ H Q => vs = [] ∧ Q σ H
def gCons (t : TG) (u : TGs) : TGs := fun vs σ H Q => ∃ v r, vs = v :: r ∧ t v σ H fun σ' H' => u r σ' H' Q
theorem pgs_nil : PGs X [] gNil := by
  intro pins s σ H vs us Q I r h
  obtain ⟨e, h⟩ := h
  subst e
  cases r
  exact assignInOrder_nil ⟨σ, H, I, h⟩
theorem pgs_cons {e : Expr} {es : List Expr} {t : TG} {u : TGs} (h1 : PG X e t) (h2 : PGs X es u)
    (hs : (assignEach (e :: es) X.env).map (·.2) = assign e X.env :: (assignEach es X.env).map (·.2) := by rfl) : PGs X (e :: es) (gCons t u) := by
  intro pins s σ H vs us Q I r h
  obtain ⟨v, vr, e1, h⟩ := h
  subst e1
  cases r with
  | cons r rr =>
    rw [hs]
    refine assignInOrder_cons (thn (h1 pins s σ H _ _ _ I r h) fun _ s1 ⟨σ1, H1, I1, q1⟩ => ?_)
    exact h2 pins s1 σ1 H1 _ _ Q I1 rr q1
/-- (a, b, ..) = a tuple of that length -/
def gTup (K : PySem.W.Frag) (n : Nat) (t : TGs) : TG := fun v σ H Q => ∃ a xs, v = .ref a ∧ SqT K H a xs ∧ xs.length = n ∧ t xs σ H Q
theorem pg_tup {es : List Expr} {k : Nat} {t : TGs} {n : Nat} (hc : X.calm = true) (h : PGs X es t)
    (hn : (assignEach es X.env).length = n := by rfl) (hst : (assignEach es X.env).findIdx? (·.1) = none := by rfl) : PG X (.Tuple es k pos) (gTup X.K n t) := by
  intro pins s σ H v u Q I r hw
  obtain ⟨a, xs, e1, hq, hl, hw⟩ := hw
  subst e1
  cases r
  obtain ⟨its, rv, ht, hz⟩ := I.tuple hq
  refine assign_Tuple_tuple (I.ok.hd hc) ht (by simp [hn, ← hl, rv.length]) hst fun h' hx => ?_
  have I1 : Inv X pins σ H { s with heap := h' } := I.kept (t' := s.toks) fun b o e => hx b o (Nat.ne_of_lt (Heap.lt_size e)) e
  exact h pins _ σ H xs _ Q I1 (by simpa using rv) hw
/-- target = value -/
def tAsg (te : TE) (g : TG) : TS := fun D σ H => te σ H fun x H1 => g x σ H1 D.nx
/-- name = value -/
theorem ps_set {i : Nat} {x : Str} {e : Expr} {te : TE} {pos' : Pos} (hN : X.N.Nodup) (hi : X.N[i]? = some x) (hx : Loc X.env.scope x) (he : PE X e te) (hs : swapsWith e (some (.Name x pos')) pos.line X.env = pure false := by rfl) (hf : X.fn x = true ∨ X.env.scope.names.lookup x = some .local := by first | exact .inl rfl | exact .inr rfl | assumption) :
    PS X (.Assign [.Name x pos'] e pos) (tAsg te (gName i)) := by
  intro pins s σ H D I h
  refine wpAny_Assign_Name (thn (he pins s σ H _ I h) fun v s1 ⟨y, H1, I1, r1, q1⟩ => ?_) hs
  exact store_ok I1 hN hi hx r1 (fun s2 I2 => ⟨_, H1, I2, q1⟩) hf
end
section
variable {X : Cx} {pos : Pos}
/-- the invariant W with its measure -/
def tWhile (c : TT) (tb : TS) : TS := fun D σ H => ∃ W : Nat → St → Hp → Prop, (∃ m, W m σ H) ∧ ∀ m σ H, W m σ H →
  c σ H fun b H1 => if b = true then ∃ N : St → Hp → Prop, (∀ σ' H', N σ' H' → ∃ m', m' < m ∧ W m' σ' H') ∧ tb { D with nx := N, ct := N, bk := D.nx } σ H1 else D.nx σ H1
theorem ps_while {c : Expr} {body : List Stmt} {tc : TT} {tb : TS} (hp : PassesOwn (model X.prog X.w) X.A X.env X.xe) (hc : PT X c tc) (hb : PSs X body tb) : PS X (.While c body [] pos) (tWhile tc tb) := by
  intro pins s σ H D I h
  obtain ⟨W, ⟨m0, w0⟩, turn⟩ := h
  refine wpAny_While (codeAny_whileLoop (fun n s' => ∃ σ' H', Inv X pins σ' H' s' ∧ W n σ' H') ?_ m0 ⟨σ, H, I, w0⟩)
  rintro n s1 ⟨σ1, H1, I1, w1⟩
  refine wpAny_passesOwn hp (thn (hc pins s1 σ1 H1 _ I1 (turn n σ1 H1 w1)) fun b s2 ⟨H2, I2, q2⟩ => ?_)
  cases b with
  | true =>
    obtain ⟨N, hN, q2⟩ := q2
    rw [if_pos rfl]
    refine wpAny_passesOwn hp (thn (hb pins s2 σ1 H2 _ I2 q2) fun f s3 q3 => ?_)
    cases f with
    | next =>
      obtain ⟨σ3, H3, I3, n3⟩ := q3
      obtain ⟨m', hm, w3⟩ := hN σ3 H3 n3
      exact ⟨m', hm, σ3, H3, I3, w3⟩
    | cont =>
      obtain ⟨σ3, H3, I3, n3⟩ := q3
      obtain ⟨m', hm, w3⟩ := hN σ3 H3 n3
      exact ⟨m', hm, σ3, H3, I3, w3⟩
    | brk => exact q3
    | ret v => exact q3
  | false =>
    rw [if_neg Bool.false_ne_true]
    exact wpAny_execs_nil ⟨σ1, H2, I2, q2⟩
end
/-- at turn i: it yields x (the heap may grow), or it stops -/
structure It where
  go : Nat → Hp → Prop
  yld : Nat → Hp → V → Hp → Prop
  stop : Nat → Hp → Prop
/-- the iterator's own objects may turn: they are not the frame's, not pinned, younger than the entry (or a comprehension's own) -/
def FpOk (X : Cx) (pins : List (Addr × Obj)) (H : Hp) (b : Addr) : Prop :=
  H b = none ∧ b ≠ X.env.locals ∧ b ∉ X.fs ∧ (b ∈ X.ex ∨ X.s_0.heap.objs.size ≤ b) ∧ (∀ x c, X.env.cells.lookup x = some c → c ≠ b) ∧ ∀ p ∈ X.pn ++ pins, p.1 ≠ b
theorem Inv.fpOk {X : Cx} {pins : List (Addr × Obj)} {σ : St} {H H' : Hp} {s : Shared} {b : Addr} (I : Inv X pins σ H s) (hb : s.heap.objs.size ≤ b) (hn : H' b = none) : FpOk X pins H' b := by
  refine ⟨hn, Nat.ne_of_gt (Nat.lt_of_lt_of_le I.lt hb), I.nofs hb, .inr (Nat.le_trans I.sz hb), fun x c e z => ?_, fun p hp z => ?_⟩
  · obtain ⟨v, q⟩ := I.cell x c e
    exact absurd (Nat.lt_of_lt_of_le q.lt (by rw [z]; exact hb)) (Nat.lt_irrefl _)
  · exact absurd (Nat.lt_of_lt_of_le (Heap.lt_size (I.pin p hp).1) (by rw [z]; exact hb)) (Nat.lt_irrefl _)
structure Turn (P : Program) (w : World) (K : PySem.W.Frag) (tg : Expr) (J : It) (fp : List Addr) (it : Addr) (tn : Nat → Heap → Prop) : Prop where
  mem : it ∈ fp
  obj : ∀ i h, tn i h → ∀ b ∈ fp, ∃ o, h.get? b = some o ∧ ∀ v, o.data ≠ .cell v
  keep : ∀ i h h', tn i h → (∀ b ∈ fp, ∀ o, h.get? b = some o → h'.get? b = some o) → tn i h'
  item : ∀ (X : Cx), X.prog = P → X.w = w → X.K = K → X.calm = true → ∀ (i : Nat) (pins : List (Addr × Obj)) (s : Shared) (σ : St) (H : Hp) (E : Value → Shared → Prop), Inv X pins σ H s → (∀ b ∈ fp, FpOk X pins H b) → tn i s.heap → J.go i H →
    wpAny (model P w) X.A (pyNext (.ref it)) (fun r s1 => ∃ u, r = some u ∧
      wpAny (model P w) X.A (letOwnedTupleGo tg (.ref it) u) (fun _ s2 => ∃ x H', Inv X pins σ H' s2 ∧ RelV x u ∧ J.yld i H x H' ∧ tn (i + 1) s2.heap ∧ ∀ b ∈ fp, H' b = none) E s1) E s
  done : ∀ (X : Cx), X.prog = P → X.w = w → X.K = K → X.calm = true → ∀ (i : Nat) (pins : List (Addr × Obj)) (s : Shared) (σ : St) (H : Hp) (E : Value → Shared → Prop), Inv X pins σ H s → (∀ b ∈ fp, FpOk X pins H b) → tn i s.heap → J.stop i H →
    wpAny (model P w) X.A (pyNext (.ref it)) (fun r s1 => r = none ∧ Inv X pins σ H s1) E s
  self : ∀ (A : Around) (i : Nat) (s : Shared) (Q : Value → Shared → Prop) (E : Value → Shared → Prop), tn i s.heap → Q (.ref it) s → wpAny (model P w) A (pyIter (.ref it)) Q E s
abbrev TI := St → Hp → (It → Hp → Prop) → Prop
/-- an iterator has come -/
def PIE (X : Cx) (pins : List (Addr × Obj)) (σ : St) (tg : Expr) (R : It → Hp → Prop) (itv : Value) (s2 : Shared) : Prop :=
  ∃ (it : Addr) (fp : List Addr) (tn : Nat → Heap → Prop) (J : It) (H' : Hp), itv = .ref it ∧ Inv X pins σ H' s2 ∧ Turn X.prog X.w X.K tg J fp it tn ∧ tn 0 s2.heap ∧ (∀ b ∈ fp, FpOk X pins H' b) ∧ R J H'
def PI (X : Cx) (tg iter : Expr) (wi : TI) : Prop :=
  ∀ (pins : List (Addr × Obj)) (s : Shared) (σ : St) (H : Hp) (R : It → Hp → Prop), Inv X pins σ H s → wi σ H R →
    wpAny (model X.prog X.w) X.A (eval iter X.env) (fun v s1 => wpAny (model X.prog X.w) X.A (pyIter v) (PIE X pins σ tg R) X.xe s1) X.xe s
/-- the step ahead of the store is nothing for an iterator that keeps no tuple -/
theorem go_of {M : Model} {A : Around} {E : Value → Shared → Prop} {s : Shared} {tg : Expr} {it : Addr} {u : Value} {o : Obj} {n : String} {vs : Array Value} {Q : Unit → Shared → Prop} (ho : s.heap.get? it = some o) (hc : o.cls = .type n) (hd : o.data = .fields vs)
    (hn : ["enumerate", "zip", "dict_itemiterator", "dict_reverseitemiterator", "odict_iterator", "itertools.zip_longest", "itertools.pairwise"].contains n = false) (hQ : Q () s) : wpAny M A (letOwnedTupleGo tg (.ref it) u) Q E s := by
  unfold letOwnedTupleGo
  cases tg <;> first
    | exact wpAny_pure hQ
    | (cases u <;> first
        | exact wpAny_pure hQ
        | (refine wpAny_bind (wpAny_load ho ?_)
           rw [hc, hd]
           show wpAny M A (if (["enumerate", "zip", "dict_itemiterator", "dict_reverseitemiterator", "odict_iterator", "itertools.zip_longest", "itertools.pairwise"].contains n && vs[0]? == some (rawInt _)) = true then _ else _) Q E s
           rw [if_neg (by intro h; rw [hn, Bool.false_and] at h; cases h)]
           exact wpAny_pure hQ))
/-- the list at a, as it stands at each turn (a loop may append to it) -/
def Itl (K : PySem.W.Frag) (a : Addr) : It :=
  ⟨fun i H => ∃ xs x, SqL K H a xs ∧ xs[i]? = some x, fun i H x H' => H' = H ∧ ∀ xs, SqL K H a xs → xs[i]? = some x, fun i H => ∃ xs, SqL K H a xs ∧ xs.length ≤ i⟩
/-- lo, lo + 1, .. (n of them) -/
def Itr (lo : Int) (n : Nat) : It := ⟨fun i _ => i < n, fun i H x H' => H' = H ∧ x = .int (lo + i), fun i _ => n ≤ i⟩
theorem turn_list {P : Program} {w : World} {K : PySem.W.Frag} {tg : Expr} (a it : Addr) : Turn P w K tg (Itl K a) [it] it (fun i h => h.IsListIter it a i) where
  mem := by simp
  obj := fun i h st b hb => by
    have e : b = it := by simpa using hb
    subst e
    obtain ⟨o, e, c, d⟩ := st
    exact ⟨o, e, fun v z => by rw [d] at z; cases z⟩
  keep := fun i h h' st k => st.at fun o e => k it (by simp) o e
  item := by
    intro X hP hw hK hc i pins s σ H E I hf st hg
    subst hP hw hK
    obtain ⟨xs, x, hq, hx⟩ := hg
    obtain ⟨its, rv, p, hz⟩ := I.list hq
    obtain ⟨u, hu, ru⟩ := rv.get hx
    obtain ⟨f0, f1, f2, f3, f4, f5⟩ := hf it (by simp)
    refine wpAny_pyNext_list_item st p.isList (x := u) (by simpa using hu) fun h' st' sb => ?_
    have I1 : Inv X pins σ H { s with heap := h' } := I.turned (t' := s.toks) (fun b o hb e => (sb.2 b hb).trans e) f0 f1 f3 f4 f5
    obtain ⟨o, e, c, d⟩ := id st'
    exact ⟨u, rfl, go_of (s := { s with heap := h' }) e c d (by decide) ⟨x, H, I1, ru, ⟨rfl, fun ys hy => by rw [I.list_inj hy hq]; exact hx⟩, st', fun b hb => (hf b hb).1⟩⟩
  done := by
    intro X hP hw hK hc i pins s σ H E I hf st hg
    subst hP hw hK
    obtain ⟨xs, hq, hx⟩ := hg
    obtain ⟨its, rv, p, hz⟩ := I.list hq
    obtain ⟨f0, f1, f2, f3, f4, f5⟩ := hf it (by simp)
    have hl := rv.length
    exact wpAny_pyNext_list_end (I.ok.hd hc) st p.isList (by simp; omega) fun h' eb => ⟨rfl, I.turned (t' := s.toks) (fun b o hb e => eb b o hb e) f0 f1 f3 f4 f5⟩
  self := fun _ _ _ _ _ st h => wpAny_pyIter_listiter st h
theorem turn_range {P : Program} {w : World} {K : PySem.W.Frag} {tg : Expr} (it : Addr) (lo : Int) (n : Nat) : Turn P w K tg (Itr lo n) [it] it (fun i h => IsRangeIter h it (lo + (i : Nat) * 1) ((n : Int) - (i : Nat)) 1) where
  mem := by simp
  obj := fun i h st b hb => by
    have e : b = it := by simpa using hb
    subst e
    exact ⟨_, st, fun v z => by
      have z' : Data.fields _ = Data.cell v := z
      cases z'⟩
  keep := fun i h h' st k => k it (by simp) _ st
  item := by
    intro X hP hw hK hc i pins s σ H E I hf st hg
    subst hP hw hK
    obtain ⟨f0, f1, f2, f3, f4, f5⟩ := hf it (by simp)
    have W := Walks.range (prog := X.prog) (w := X.w) (I.ok.hd hc) it lo 1 n
    refine W.item i s _ _ hg st fun v h' tk hv st' kk => ?_
    obtain ⟨t, rfl⟩ := hv
    have I1 : Inv X pins σ H { s with heap := h', toks := tk } := I.turned (fun b o hb e => kk b o (by simpa using hb) e) f0 f1 f3 f4 f5
    refine ⟨_, rfl, go_of (s := { s with heap := h', toks := tk }) (n := "range_iterator") st' rfl rfl (by decide) ⟨.int (lo + i), H, I1, ⟨t, ?_⟩, ⟨rfl, rfl⟩, st', fun b hb => (hf b hb).1⟩⟩
    rw [Int.mul_one]
  done := by
    intro X hP hw hK hc i pins s σ H E I hf st hg
    subst hP hw hK
    obtain ⟨f0, f1, f2, f3, f4, f5⟩ := hf it (by simp)
    exact wpAny_pyNext_range_end (I.ok.hd hc) st (by have : n ≤ i := hg; omega) fun h' eb => ⟨rfl, I.turned (t' := s.toks) (fun b o hb e => eb b o hb e) f0 f1 f3 f4 f5⟩
  self := fun _ _ _ _ _ st h => wpAny_pyIter_rangeiter st h
end L2
namespace L2
open PySem PySem.Spec PyProof.Rows
section
variable {X : Cx} {tg : Expr}
def iList (K : PySem.W.Frag) (tl : TE) : TI := fun σ H R => tl σ H fun x H1 => ∃ a, x = .ref a ∧ (∃ xs, SqL K H1 a xs) ∧ R (Itl K a) H1
theorem pi_list {l : Expr} {tl : TE} (hl : PE X l tl) : PI X tg l (iList X.K tl) := by
  intro pins s σ H R I h
  refine thn (hl pins s σ H _ I h) fun v s1 ⟨x, H1, I1, r1, q1⟩ => ?_
  obtain ⟨a, e, ⟨xs, hq⟩, q⟩ := q1
  subst e
  cases r1
  obtain ⟨its, rv, p, hz⟩ := I1.list hq
  refine wpAny_pyIter_list p.isList ?_
  refine ⟨s1.heap.objs.size, [s1.heap.objs.size], _, _, H1, rfl, I1.kept (t' := s1.toks) fun b o e => Heap.get?_push_of_some _ e, turn_list a _, ⟨_, Heap.get?_push_size _ rfl, rfl, rfl⟩, fun b hb => ?_, q⟩
  have e : b = s1.heap.objs.size := by simpa using hb
  subst e
  exact I1.fpOk (Nat.le_refl _) (I1.hok.fresh (Nat.le_refl _))
/-- a range object just made, walked -/
theorem range_it {pins : List (Addr × Obj)} {σ : St} {H : Hp} {s : Shared} {R : It → Hp → Prop} {E : Value → Shared → Prop} {lo hi : Int} {t u v : Tok} {tk : Nat} (I : Inv X pins σ H s) (h1 : -(2 ^ 62) ≤ lo) (h2 : lo < 2 ^ 62) (h3 : -(2 ^ 62) ≤ hi) (h4 : hi < 2 ^ 62)
    (q : R (Itr lo (hi - lo).toNat) H) : wpAny (model X.prog X.w) X.A (pyIter (.ref s.heap.objs.size)) (PIE X pins σ tg R) E { s with heap := s.heap.push { cls := .type "range", data := .fields #[.int lo t, .int hi u, .int 1 v] }, toks := tk } := by
  refine wpAny_pyIter_range (IsRange.new ..) (small_one h1 h2 h3 h4) ?_
  have I1 : Inv X pins σ H { s with heap := s.heap.push { cls := .type "range", data := .fields #[.int lo t, .int hi u, .int 1 v] }, toks := tk } := I.kept fun b o e => Heap.get?_push_of_some _ e
  refine ⟨(s.heap.push { cls := .type "range", data := .fields #[.int lo t, .int hi u, .int 1 v] }).objs.size, [(s.heap.push { cls := .type "range", data := .fields #[.int lo t, .int hi u, .int 1 v] }).objs.size], _, _, H, rfl,
    I1.kept (t' := tk) fun b o e => Heap.get?_push_of_some _ e, turn_range _ lo (hi - lo).toNat, ?_, fun b hb => ?_, q⟩
  · have e1 : lo + ((0 : Nat) : Int) * 1 = lo := by simp
    have e2 : (((hi - lo).toNat : Nat) : Int) - ((0 : Nat) : Int) = Builtin.Range.rangeSize lo hi 1 := by rw [rangeSize_one]; split <;> omega
    show IsRangeIter _ _ (lo + ((0 : Nat) : Int) * 1) ((((hi - lo).toNat : Nat) : Int) - ((0 : Nat) : Int)) 1
    rw [e1, e2]
    exact Heap.get?_push_size _ rfl
  · have e : b = (s.heap.push { cls := .type "range", data := .fields #[.int lo t, .int hi u, .int 1 v] }).objs.size := by simpa using hb
    subst e
    exact I1.fpOk (Nat.le_refl _) (I1.hok.fresh (Nat.le_refl _))
def iRng1 (ta : TA) : TI := fun σ H R => ta σ H fun vs H1 => ∃ j : Int, vs = [.int j] ∧ -(2 ^ 62) ≤ j ∧ j < 2 ^ 62 ∧ R (Itr 0 j.toNat) H1
theorem pi_range1 {a : Expr} {ta : TA} {p pos : Pos} (hg : Gl X "range") (hm : X.mg "range" = none) (ha : PA X [a] ta) (hs : starEach [a] X.env = [(false, eval a X.env)] := by rfl) : PI X tg (.Call (.Name "range" p) [a] [] pos) (iRng1 ta) := by
  intro pins s σ H R I h
  refine Call_ (ld_blt I hg hm boot_range (PyProof.Rows.callWith_type1 (thn (ha pos pins s σ H _ I h) fun us s1 ⟨vs, H1, I1, r1, q1⟩ => ?_) hs rfl))
  obtain ⟨j, e, q1, q2, q⟩ := q1
  subst e
  cases r1 with
  | cons r rr =>
    cases rr
    obtain ⟨t, rfl⟩ := r
    exact call_range_1 (range_it I1 (by omega) (by omega) q1 q2 (by simpa using q))
/-- W: the invariant by the turn and a measure; N: what the body is to reach -/
def tFor (wi : TI) (g : TG) (tb : TS) : TS := fun D σ H => wi σ H fun J H1 => ∃ W : Nat → Nat → St → Hp → Prop, (∃ m, W 0 m σ H1) ∧ ∀ i m σ H, W i m σ H →
  (J.stop i H ∧ D.nx σ H) ∨ (J.go i H ∧ ∃ N : St → Hp → Prop, (∀ σ' H', N σ' H' → ∃ m', m' < m ∧ W (i + 1) m' σ' H') ∧ ∀ x H', J.yld i H x H' → g x σ H' fun σ2 H2 => tb { D with nx := N, ct := N, bk := D.nx } σ2 H2)
/-- the records at fp as they stand -/
def pinsAt (fp : List Addr) (h : Heap) : List (Addr × Obj) := fp.filterMap fun b => (h.get? b).map fun o => (b, o)
theorem mem_pinsAt {fp : List Addr} {h : Heap} {b : Addr} {o : Obj} (hb : b ∈ fp) (e : h.get? b = some o) : (b, o) ∈ pinsAt fp h := List.mem_filterMap.mpr ⟨b, hb, by rw [e]; rfl⟩
theorem of_pinsAt {fp : List Addr} {h : Heap} {p : Addr × Obj} (hp : p ∈ pinsAt fp h) : p.1 ∈ fp ∧ h.get? p.1 = some p.2 := by
  obtain ⟨b, hb, e⟩ := List.mem_filterMap.mp hp
  cases q : h.get? b with
  | none => rw [q] at e; cases e
  | some o =>
    rw [q] at e
    have e' : (b, o) = p := Option.some.inj e
    subst e'
    exact ⟨hb, q⟩
theorem Inv.pinned {pins : List (Addr × Obj)} {σ : St} {H : Hp} {s : Shared} {fp : List Addr} (I : Inv X pins σ H s) (hf : ∀ b ∈ fp, FpOk X pins H b) (ho : ∀ b ∈ fp, ∃ o, s.heap.get? b = some o ∧ ∀ v, o.data ≠ .cell v) : Inv X (pins ++ pinsAt fp s.heap) σ H s :=
  I.pins_of fun p hp => (List.mem_append.mp hp).elim (fun z => I.pin p (List.mem_append_right _ z)) fun z => by
    obtain ⟨hb, e⟩ := of_pinsAt z
    obtain ⟨f0, f1, f2, _⟩ := hf p.1 hb
    obtain ⟨o, e', d⟩ := ho p.1 hb
    rw [e] at e'; cases e'
    exact ⟨e, f0, f1, f2, d⟩
theorem Inv.unpinned {pins pl : List (Addr × Obj)} {σ : St} {H : Hp} {s : Shared} (I : Inv X (pins ++ pl) σ H s) : Inv X pins σ H s := I.pins_of fun p hp => I.pin p (List.mem_append_right _ (List.mem_append_left _ hp))
theorem ps_for {iter : Expr} {body : List Stmt} {wi : TI} {g : TG} {tb : TS} {pos : Pos} (hp : PassesOwn (model X.prog X.w) X.A X.env X.xe) (hc : X.calm = true) (hi : PI X tg iter wi) (hg : PG X tg g) (hb : PSs X body tb)
    (hs : ∀ x, foldedSetIterable iter X.env x = pure x := by intro _; rfl) : PS X (.For tg iter body [] pos) (tFor wi g tb) := by
  intro pins s σ H D I h
  refine wpAny_For (thn (hi pins s σ H _ I h) fun v s1 h1 => thn h1 fun itv s2 h2 => ?_) hs
  obtain ⟨it, fp, tn, J, H2, e, I2, T, st2, f2, W, ⟨m0, w0⟩, turn⟩ := h2
  subst e
  -- what stays true of the iterator's objects through the loop
  have stat : ∀ {H' : Hp}, (∀ b ∈ fp, H' b = none) → ∀ b ∈ fp, FpOk X pins H' b := fun hn b hb => ⟨hn b hb, (f2 b hb).2⟩
  refine codeAny_forLoop_any (fun n s' => ∃ i σ' H', Inv X pins σ' H' s' ∧ tn i s'.heap ∧ (∀ b ∈ fp, H' b = none) ∧ W i n σ' H') ?_ m0 ⟨0, σ, H2, I2, st2, fun b hb => (f2 b hb).1, w0⟩
  rintro n s3 ⟨i, σ3, H3, I3, st3, fr3, w3⟩
  rcases turn i n σ3 H3 w3 with ⟨stop, qn⟩ | ⟨go, N, hN, step⟩
  · refine wpAny_passesOwn hp (thn (T.done X rfl rfl rfl hc i pins s3 σ3 H3 X.xe I3 (stat fr3) st3 stop) fun r s4 ⟨hr, I4⟩ => ?_)
    subst hr
    exact wpAny_execs_nil ⟨σ3, H3, I4, qn⟩
  · refine wpAny_passesOwn hp (thn (T.item X rfl rfl rfl hc i pins s3 σ3 H3 X.xe I3 (stat fr3) st3 go) fun r s4 ⟨u, hr, h4⟩ => ?_)
    subst hr
    refine wpAny_passesOwn hp (thn h4 fun _ s5 ⟨x, H5, I5, r5, y5, st5, fr5⟩ => ?_)
    have I5' := I5.pinned (stat fr5) (T.obj _ _ st5)
    refine wpAny_passesOwn hp (thn (hg _ s5 σ3 H5 x u _ I5' r5 (step x H5 y5)) fun _ s6 ⟨σ6, H6, I6, q6⟩ => ?_)
    refine wpAny_passesOwn hp (thn (hb _ s6 σ6 H6 _ I6 q6) fun f s7 q7 => ?_)
    have again : ∀ {σ7 : St} {H7 : Hp}, Inv X (pins ++ pinsAt fp s5.heap) σ7 H7 s7 → N σ7 H7 → ∃ m, m < n ∧ ∃ i σ' H', Inv X pins σ' H' s7 ∧ tn i s7.heap ∧ (∀ b ∈ fp, H' b = none) ∧ W i m σ' H' := fun {σ7 H7} I7 n7 => by
      obtain ⟨m', hm, w7⟩ := hN σ7 H7 n7
      refine ⟨m', hm, i + 1, σ7, H7, I7.unpinned, T.keep _ _ _ st5 fun b hb o e => (I7.pin (b, o) (List.mem_append_right _ (List.mem_append_right _ (mem_pinsAt hb e)))).1, fun b hb => ?_, w7⟩
      obtain ⟨o, e, d⟩ := T.obj _ _ st5 b hb
      exact (I7.pin (b, o) (List.mem_append_right _ (List.mem_append_right _ (mem_pinsAt hb e)))).2.1
    cases f with
    | next => obtain ⟨σ7, H7, I7, n7⟩ := q7; exact again I7 n7
    | cont => obtain ⟨σ7, H7, I7, n7⟩ := q7; exact again I7 n7
    | brk => obtain ⟨σ7, H7, I7, q7⟩ := q7; exact ⟨σ7, H7, I7.unpinned, q7⟩
    | ret v => obtain ⟨x7, σ7, H7, I7, r7, q7⟩ := q7; exact ⟨x7, σ7, H7, I7.unpinned, r7, q7⟩
end
/-- over a list that the body leaves as it is -/
theorem for_list {K : PySem.W.Frag} {a : Addr} {xs : List V} {g : TG} {tb : TS} {D : Ends} {σ : St} {H : Hp} (Pv : Nat → St → Hp → Prop) (h0 : Pv 0 σ H) (hl : ∀ i σ H, i ≤ xs.length → Pv i σ H → SqL K H a xs)
    (hs : ∀ i x σ H, xs[i]? = some x → Pv i σ H → g x σ H fun σ2 H2 => tb { D with nx := Pv (i + 1), ct := Pv (i + 1), bk := D.nx } σ2 H2) (hd : ∀ σ H, Pv xs.length σ H → D.nx σ H) :
    ∃ W : Nat → Nat → St → Hp → Prop, (∃ m, W 0 m σ H) ∧ ∀ i m σ H, W i m σ H →
      ((Itl K a).stop i H ∧ D.nx σ H) ∨ ((Itl K a).go i H ∧ ∃ N : St → Hp → Prop, (∀ σ' H', N σ' H' → ∃ m', m' < m ∧ W (i + 1) m' σ' H') ∧ ∀ x H', (Itl K a).yld i H x H' → g x σ H' fun σ2 H2 => tb { D with nx := N, ct := N, bk := D.nx } σ2 H2) := by
  refine ⟨fun i m σ H => m = xs.length - i ∧ i ≤ xs.length ∧ Pv i σ H, ⟨xs.length, by simp, Nat.zero_le _, h0⟩, ?_⟩
  rintro i m σ H ⟨rfl, hi, p⟩
  have q := hl i σ H hi p
  by_cases hlt : i < xs.length
  · refine .inr ⟨⟨xs, xs[i], q, by simp [hlt]⟩, Pv (i + 1), fun σ' H' p' => ⟨xs.length - (i + 1), by omega, rfl, hlt, p'⟩, fun x H' y => ?_⟩
    obtain ⟨e, y⟩ := y
    subst e
    exact hs i x σ _ (y xs q) p
  · have e : i = xs.length := by omega
    subst e
    exact .inl ⟨⟨xs, q, Nat.le_refl _⟩, hd σ H p⟩
theorem for_range {lo : Int} {n : Nat} {g : TG} {tb : TS} {D : Ends} {σ : St} {H : Hp} (Pv : Nat → St → Hp → Prop) (h0 : Pv 0 σ H)
    (hs : ∀ i σ H, i < n → Pv i σ H → g (.int (lo + i)) σ H fun σ2 H2 => tb { D with nx := Pv (i + 1), ct := Pv (i + 1), bk := D.nx } σ2 H2) (hd : ∀ σ H, Pv n σ H → D.nx σ H) :
    ∃ W : Nat → Nat → St → Hp → Prop, (∃ m, W 0 m σ H) ∧ ∀ i m σ H, W i m σ H →
      ((Itr lo n).stop i H ∧ D.nx σ H) ∨ ((Itr lo n).go i H ∧ ∃ N : St → Hp → Prop, (∀ σ' H', N σ' H' → ∃ m', m' < m ∧ W (i + 1) m' σ' H') ∧ ∀ x H', (Itr lo n).yld i H x H' → g x σ H' fun σ2 H2 => tb { D with nx := N, ct := N, bk := D.nx } σ2 H2) := by
  refine ⟨fun i m σ H => m = n - i ∧ i ≤ n ∧ Pv i σ H, ⟨n, by simp, Nat.zero_le _, h0⟩, ?_⟩
  rintro i m σ H ⟨rfl, hi, p⟩
  by_cases hlt : i < n
  · refine .inr ⟨hlt, Pv (i + 1), fun σ' H' p' => ⟨n - (i + 1), by omega, rfl, hlt, p'⟩, fun x H' y => ?_⟩
    obtain ⟨e, y⟩ := y
    subst e y
    exact hs i σ _ hlt p
  · have e : i = n := by omega
    subst e
    exact .inl ⟨Nat.le_refl _, hd σ H p⟩
end L2
namespace L2
open PySem PySem.Spec PyProof.Rows
abbrev R2 := V → V → Hp → VK → Prop
/-- a two-place operation on values: f is binaryOp op, inplaceOp op or compareOp op -/
def OpR (X : Cx) (f : Value → Value → Sem Value) (r : R2) : Prop :=
  ∀ (pins : List (Addr × Obj)) (s : Shared) (σ : St) (H : Hp) (x y : V) (v u : Value) (Q : VK), Inv X pins σ H s → RelV x v → RelV y u → r x y H Q →
    wpAny (model X.prog X.w) X.A (f v u) (EP X pins σ Q) X.xe s
/-- a one-place operation -/
def UnR (X : Cx) (f : Value → Sem Value) (r : V → Hp → VK → Prop) : Prop :=
  ∀ (pins : List (Addr × Obj)) (s : Shared) (σ : St) (H : Hp) (x : V) (v : Value) (Q : VK), Inv X pins σ H s → RelV x v → r x H Q →
    wpAny (model X.prog X.w) X.A (f v) (EP X pins σ Q) X.xe s
/-- a call of a value that is known (a builtin, a type) with values -/
def CallR (X : Cx) (f : Value) (r : List V → Hp → VK → Prop) : Prop :=
  ∀ (pins : List (Addr × Obj)) (s : Shared) (σ : St) (H : Hp) (xs : List V) (us : List Value) (Q : VK), Inv X pins σ H s → Vals xs us → r xs H Q →
    wpAny (model X.prog X.w) X.A (call f us) (EP X pins σ Q) X.xe s
def tOp (r : R2) (ta tb : TE) : TE := fun σ H Q => ta σ H fun x H1 => tb σ H1 fun y H2 => r x y H2 Q
def tUn (r : V → Hp → VK → Prop) (ta : TE) : TE := fun σ H Q => ta σ H fun x H1 => r x H1 Q
/-- ints in, under C, and a value out -/
def rI (C : Int → Int → Prop) (g : Int → Int → V) : R2 := fun x y H Q => ∃ i j, x = .int i ∧ y = .int j ∧ C i j ∧ Q (g i j) H
def rI0 (g : Int → Int → V) : R2 := fun x y H Q => ∃ i j, x = .int i ∧ y = .int j ∧ Q (g i j) H
def rU (g : Int → V) : V → Hp → VK → Prop := fun x H Q => ∃ i, x = .int i ∧ Q (g i) H
section
variable {X : Cx} {a b c : Expr} {ta tb tc : TE} {pos : Pos}
theorem binT (ha : PE X a ta) (hb : PE X b tb) {pins : List (Addr × Obj)} {s : Shared} {σ : St} {H : Hp} {R : V → V → Hp → Prop} (I : Inv X pins σ H s)
    (h : ta σ H fun x H1 => tb σ H1 fun y H2 => R x y H2) {Q : Value → Shared → Prop} {f : Value → Value → Sem Value}
    (hf : ∀ v u s2 x y H2, Inv X pins σ H2 s2 → RelV x v → RelV y u → R x y H2 → wpAny (model X.prog X.w) X.A (f v u) Q X.xe s2) :
    wpAny (model X.prog X.w) X.A (eval a X.env) (fun v s₁ => wpAny (model X.prog X.w) X.A (eval b X.env) (fun u s₂ => wpAny (model X.prog X.w) X.A (f v u) Q X.xe s₂) X.xe s₁) X.xe s := by
  refine thn (ha pins s σ H _ I h) fun v s1 ⟨x, H1, I1, r1, q1⟩ => ?_
  refine thn (hb pins s1 σ H1 _ I1 q1) fun u s2 ⟨y, H2, I2, r2, q2⟩ => ?_
  exact hf v u s2 x y H2 I2 r1 r2 q2
theorem pe_op {op : Operator} {r : R2} (ho : OpR X (binaryOp op) r) (ha : PE X a ta) (hb : PE X b tb) : PE X (.BinOp a op b pos) (tOp r ta tb) := by
  intro pins s σ H Q I h
  exact wpAny_BinOp (binT ha hb I h fun v u s2 x y H2 I2 rx ry q => ho pins s2 σ H2 x y v u Q I2 rx ry q)
theorem pe_un {op : UnaryOp} {r : V → Hp → VK → Prop} (ho : UnR X (unaryOp op) r) (ha : PE X a ta) : PE X (.UnaryOp op a pos) (tUn r ta) := by
  intro pins s σ H Q I h
  exact UnaryOp_ (thn (ha pins s σ H _ I h) fun v s1 ⟨x, H1, I1, r1, q1⟩ => ho pins s1 σ H1 x v Q I1 r1 q1)
theorem opI {f : Value → Value → Sem Value} {C : Int → Int → Prop} {g : Int → Int → Int}
    (rule : ∀ (i j : Int) (t u : Tok) (s : Shared) (Q : Value → Shared → Prop) (E : Value → Shared → Prop), C i j → Q (.int (g i j) s.toks) { s with toks := s.toks + 1 } → wpAny (model X.prog X.w) X.A (f (.int i t) (.int j u)) Q E s) :
    OpR X f (rI C fun i j => .int (g i j)) := by
  intro pins s σ H x y v u Q I rx ry h
  obtain ⟨i, j, rfl, rfl, hc, q⟩ := h
  obtain ⟨t, rfl⟩ := rx
  obtain ⟨t', rfl⟩ := ry
  exact rule i j t t' s _ _ hc ⟨.int (g i j), H, I.tok _, ⟨_, rfl⟩, q⟩
theorem opI0 {f : Value → Value → Sem Value} {g : Int → Int → Int}
    (rule : ∀ (i j : Int) (t u : Tok) (s : Shared) (Q : Value → Shared → Prop) (E : Value → Shared → Prop), Q (.int (g i j) s.toks) { s with toks := s.toks + 1 } → wpAny (model X.prog X.w) X.A (f (.int i t) (.int j u)) Q E s) :
    OpR X f (rI0 fun i j => .int (g i j)) := by
  intro pins s σ H x y v u Q I rx ry h
  obtain ⟨i, j, rfl, rfl, q⟩ := h
  obtain ⟨t, rfl⟩ := rx
  obtain ⟨t', rfl⟩ := ry
  exact rule i j t t' s _ _ ⟨.int (g i j), H, I.tok _, ⟨_, rfl⟩, q⟩
theorem opB0 {f : Value → Value → Sem Value} {g : Int → Int → Bool}
    (rule : ∀ (i j : Int) (t u : Tok) (s : Shared) (Q : Value → Shared → Prop) (E : Value → Shared → Prop), Q (.bool (g i j)) s → wpAny (model X.prog X.w) X.A (f (.int i t) (.int j u)) Q E s) :
    OpR X f (rI0 fun i j => .bl (g i j)) := by
  intro pins s σ H x y v u Q I rx ry h
  obtain ⟨i, j, rfl, rfl, q⟩ := h
  obtain ⟨t, rfl⟩ := rx
  obtain ⟨t', rfl⟩ := ry
  exact rule i j t t' s _ _ ⟨.bl (g i j), H, I, rfl, q⟩
def CDiv (i j : Int) : Prop := 0 < j ∧ j < 1073741824
theorem op_add : OpR X (binaryOp .Add) (rI0 fun i j => .int (i + j)) := opI0 fun _ _ _ _ _ _ _ q => add_int q
theorem op_sub : OpR X (binaryOp .Sub) (rI0 fun i j => .int (i - j)) := opI0 fun _ _ _ _ _ _ _ q => sub_int q
/-- // by a positive divisor -/
theorem op_fdiv : OpR X (binaryOp .FloorDiv) (rI CDiv fun i j => .int (i / j)) := opI fun i j _ _ _ _ _ hc q => by
  have h1 : (0 : Int) < j := hc.1
  have h2 : j < 1073741824 := hc.2
  exact floordiv_int (by omega) (by rw [Int.fdiv_eq_ediv_of_nonneg i (by omega)]; exact q) (.inl (PyProof.noPylong_small (by omega)))
theorem unI {f : Value → Sem Value} {g : Int → Int}
    (rule : ∀ (i : Int) (t : Tok) (s : Shared) (Q : Value → Shared → Prop) (E : Value → Shared → Prop), Q (.int (g i) s.toks) { s with toks := s.toks + 1 } → wpAny (model X.prog X.w) X.A (f (.int i t)) Q E s) :
    UnR X f (rU fun i => .int (g i)) := by
  intro pins s σ H x v Q I rx h
  obtain ⟨i, rfl, q⟩ := h
  obtain ⟨t, rfl⟩ := rx
  exact rule i t s _ _ ⟨.int (g i), H, I.tok _, ⟨_, rfl⟩, q⟩
theorem un_neg : UnR X (unaryOp .USub) (rU fun i => .int (-i)) := unI fun _ _ _ _ _ q => neg_int q
end
/-- the scalars that == tells apart as data does -/
def scal : V → V → Bool
  | .non, .non => true | .non, .int _ => true | .int _, .non => true | .non, .bl _ => true | .bl _, .non => true | .non, .str _ => true | .str _, .non => true
  | .int _, .int _ => true | .bl _, .bl _ => true | .str _, .str _ => true | .byt _, .byt _ => true
  | .int _, .str _ => true | .str _, .int _ => true | .bl _, .str _ => true | .str _, .bl _ => true
  | _, _ => false
def rEq : R2 := fun x y H Q => scal x y = true ∧ Q (.bl (decide (x = y))) H
def rNe : R2 := fun x y H Q => scal x y = true ∧ Q (.bl (!decide (x = y))) H
theorem dec_int {i j : Int} : decide (V.int i = V.int j) = (i == j) := by
  rw [Bool.eq_iff_iff]
  simp
theorem dec_bl {i j : Bool} : decide (V.bl i = V.bl j) = (i == j) := by
  rw [Bool.eq_iff_iff]
  simp
theorem dec_str {i j : Str} : decide (V.str i = V.str j) = (i == j) := by
  rw [Bool.eq_iff_iff]
  simp
theorem dec_byt {i j : Array UInt8} : decide (V.byt i = V.byt j) = (i.toList == j.toList) := by
  rw [Bool.eq_iff_iff]
  cases i
  cases j
  simp
section
variable {X : Cx} {a b c : Expr} {ta tb tc : TE} {pos : Pos}
theorem fin_bl {pins : List (Addr × Obj)} {σ : St} {H : Hp} {s : Shared} {Q : VK} {k k' : Bool} (I : Inv X pins σ H s) (q : Q (.bl k) H) (e : k = k') : EP X pins σ Q (.bool k') s := by
  subst e
  exact ⟨.bl k, H, I, rfl, q⟩
theorem op_eq : OpR X (compareOp .Eq) rEq := by
  intro pins s σ H x y v u Q I rx ry h
  obtain ⟨hs, q⟩ := h
  cases x with
  | non =>
    cases rx
    cases y with
    | non => cases ry; exact PySem.EqNone.eq_none_none (fin_bl I q (by simp))
    | bl j => cases ry; exact PySem.EqNone.eq_none_bool (fin_bl I q (by simp))
    | int j => obtain ⟨t', rfl⟩ := ry; exact PySem.EqNone.eq_none_int (fin_bl I q (by simp))
    | str j => obtain ⟨t', rfl⟩ := ry; exact PySem.EqNone.eq_none_str (fin_bl I q (by simp))
    | _ => exact absurd (show false = true from hs) Bool.false_ne_true
  | bl i =>
    cases rx
    cases y with
    | non => cases ry; exact PySem.EqNone.eq_bool_none (fin_bl I q (by simp))
    | bl j => cases ry; exact eq_bool (fin_bl I q dec_bl)
    | str j => obtain ⟨t', rfl⟩ := ry; exact PySem.EqMixed.eq_bool_str (fin_bl I q (by simp))
    | _ => exact absurd (show false = true from hs) Bool.false_ne_true
  | int i =>
    obtain ⟨t, rfl⟩ := rx
    cases y with
    | non => cases ry; exact PySem.EqNone.eq_int_none (fin_bl I q (by simp))
    | int j => obtain ⟨t', rfl⟩ := ry; exact eq_int (fin_bl I q dec_int)
    | str j => obtain ⟨t', rfl⟩ := ry; exact PySem.EqMixed.eq_int_str (fin_bl I q (by simp))
    | _ => exact absurd (show false = true from hs) Bool.false_ne_true
  | str i =>
    obtain ⟨t, rfl⟩ := rx
    cases y with
    | non => cases ry; exact PySem.EqNone.eq_str_none (fin_bl I q (by simp))
    | bl j => cases ry; exact PySem.EqMixed.eq_str_bool (fin_bl I q (by simp))
    | int j => obtain ⟨t', rfl⟩ := ry; exact PySem.EqMixed.eq_str_int (fin_bl I q (by simp))
    | str j => obtain ⟨t', rfl⟩ := ry; exact eq_str (fin_bl I q dec_str)
    | _ => exact absurd (show false = true from hs) Bool.false_ne_true
  | byt i =>
    obtain ⟨t, rfl⟩ := rx
    cases y with
    | byt j => obtain ⟨t', rfl⟩ := ry; exact PySem.W.eq_bytes (fin_bl I q dec_byt)
    | _ => exact absurd (show false = true from hs) Bool.false_ne_true
  | _ => cases y <;> exact absurd (show false = true from hs) Bool.false_ne_true
theorem op_ne : OpR X (compareOp .NotEq) rNe := by
  intro pins s σ H x y v u Q I rx ry h
  obtain ⟨hs, q⟩ := h
  cases x with
  | non =>
    cases rx
    cases y with
    | non => cases ry; exact PySem.EqNone.ne_none_none (fin_bl I q (by simp))
    | bl j => cases ry; exact PySem.EqNone.ne_none_bool (fin_bl I q (by simp))
    | int j => obtain ⟨t', rfl⟩ := ry; exact PySem.EqNone.ne_none_int (fin_bl I q (by simp))
    | str j => obtain ⟨t', rfl⟩ := ry; exact PySem.EqNone.ne_none_str (fin_bl I q (by simp))
    | _ => exact absurd (show false = true from hs) Bool.false_ne_true
  | bl i =>
    cases rx
    cases y with
    | non => cases ry; exact PySem.EqNone.ne_bool_none (fin_bl I q (by simp))
    | bl j => cases ry; exact ne_bool (fin_bl I q (congrArg not dec_bl))
    | str j => obtain ⟨t', rfl⟩ := ry; exact PySem.EqMixed.ne_bool_str (fin_bl I q (by simp))
    | _ => exact absurd (show false = true from hs) Bool.false_ne_true
  | int i =>
    obtain ⟨t, rfl⟩ := rx
    cases y with
    | non => cases ry; exact PySem.EqNone.ne_int_none (fin_bl I q (by simp))
    | int j => obtain ⟨t', rfl⟩ := ry; exact ne_int (fin_bl I q (congrArg not dec_int))
    | str j => obtain ⟨t', rfl⟩ := ry; exact PySem.EqMixed.ne_int_str (fin_bl I q (by simp))
    | _ => exact absurd (show false = true from hs) Bool.false_ne_true
  | str i =>
    obtain ⟨t, rfl⟩ := rx
    cases y with
    | non => cases ry; exact PySem.EqNone.ne_str_none (fin_bl I q (by simp))
    | bl j => cases ry; exact PySem.EqMixed.ne_str_bool (fin_bl I q (by simp))
    | int j => obtain ⟨t', rfl⟩ := ry; exact PySem.EqMixed.ne_str_int (fin_bl I q (by simp))
    | str j => obtain ⟨t', rfl⟩ := ry; exact ne_str (fin_bl I q (congrArg not dec_str))
    | _ => exact absurd (show false = true from hs) Bool.false_ne_true
  | byt i =>
    obtain ⟨t, rfl⟩ := rx
    cases y with
    | byt j => obtain ⟨t', rfl⟩ := ry; exact PySem.W.ne_bytes (fin_bl I q (congrArg not dec_byt))
    | _ => exact absurd (show false = true from hs) Bool.false_ne_true
  | _ => cases y <;> exact absurd (show false = true from hs) Bool.false_ne_true
theorem op_lt : OpR X (compareOp .Lt) (rI0 fun i j => .bl (decide (i < j))) := opB0 fun _ _ _ _ _ _ _ q => lt_int q
theorem op_le : OpR X (compareOp .LtE) (rI0 fun i j => .bl (decide (i ≤ j))) := opB0 fun _ _ _ _ _ _ _ q => le_int q
theorem op_gt : OpR X (compareOp .Gt) (rI0 fun i j => .bl (decide (j < i))) := opB0 fun _ _ _ _ _ _ _ q => gt_int q
theorem op_ge : OpR X (compareOp .GtE) (rI0 fun i j => .bl (decide (j ≤ i))) := opB0 fun _ _ _ _ _ _ _ q => ge_int q
theorem nomark (b : Expr) {op : CmpOp} (h : op ≠ .In := by decide) (h2 : op ≠ .NotIn := by decide) : behindInMarks op b = false := by
  have e1 : (op == CmpOp.In) = false := by cases op <;> first | rfl | exact absurd rfl h
  have e2 : (op == CmpOp.NotIn) = false := by cases op <;> first | rfl | exact absurd rfl h2
  cases b <;> simp [behindInMarks, e1, e2]
/-- a comparison as a value; hm: nomark b, or (for in, not in) by with_unfolding_all rfl -/
theorem pe_cmpR {op : CmpOp} {r : R2} (ho : OpR X (compareOp op) r) (ha : PE X a ta) (hb : PE X b tb) (hm : behindInMarks op b = false) : PE X (.Compare a [op] [b] pos) (tOp r ta tb) := by
  intro pins s σ H Q I h
  exact wpAny_Compare1 (binT ha hb I h fun v u s2 x y H2 I2 rx ry q => ho pins s2 σ H2 x y v u Q I2 rx ry q) hm
/-- a reading of a value as a test -/
def tTest (t : TE) : TT := fun σ H Q => t σ H fun x H' => ∃ k, x = .bl k ∧ Q k H'
theorem pt_cmpR {op : CmpOp} {r : R2} (ho : OpR X (compareOp op) r) (ha : PE X a ta) (hb : PE X b tb) (hm : behindInMarks op b = false) : PT X (.Compare a [op] [b] pos) (tTest (tOp r ta tb)) := by
  intro pins s σ H Q I h
  refine wpAny_isTrue_Compare1 (thn (ha pins s σ H _ I h) fun v s1 ⟨x, H1, I1, r1, q1⟩ => thn (hb pins s1 σ H1 _ I1 q1) fun u s2 ⟨y, H2, I2, r2, q2⟩ =>
    thn (ho pins s2 σ H2 x y v u _ I2 r1 r2 q2) fun c s3 ⟨z, H3, I3, r3, k, e, q3⟩ => ?_) hm
  subst e
  cases r3
  exact wpAny_truthy_bool ⟨H3, I3, q3⟩
theorem line63 : (sizeLine : Nat) < 2 ^ 63 := by rw [sizeLine_eq]; decide
theorem vals1 {x : V} {us : List Value} (r : Vals [x] us) : ∃ u, us = [u] ∧ RelV x u := by
  cases r with
  | cons r1 r2 => cases r2; exact ⟨_, rfl, r1⟩
theorem call_abs : CallR X (.builtin "abs") (fun xs H Q => ∃ i, xs = [.int i] ∧ Q (.int (if i < 0 then -i else i)) H) := by
  intro pins s σ H xs us Q I r h
  obtain ⟨i, rfl, q⟩ := h
  obtain ⟨u, rfl, t, rfl⟩ := vals1 r
  exact call_abs_int fun u tk => ⟨.int (if i < 0 then -i else i), H, I.tok _, ⟨_, rfl⟩, q⟩
end
end L2
namespace L2
open PySem PySem.Spec PyProof.Rows
structure ObjM (h : Heap) (x dx C : Addr) (mA : Str → Option Value) : Prop where
  obj : h.get? x = some (PySem.W.instObj C dx)
  ns : h.Ns1 dx mA
  ne : dx ≠ x
theorem lookIn_ns {h : Heap} {dx : Addr} {mA : Str → Option Value} (n : h.Ns1 dx mA) : ∃ od, h.get? dx = some od ∧ ∀ name, PySem.W.lookIn name od = some (mA name) := by
  obtain ⟨o, es, ep, ho, hd, hk, _, hm⟩ := n
  refine ⟨o, ho, fun name => ?_⟩
  have e := hm name
  unfold nsFind findBy at e
  rw [← Array.find?_toList] at e
  unfold PySem.W.lookIn
  rw [hd]
  dsimp only
  split
  · rename_i y q
    rw [q] at e
    exact congrArg some e
  · rename_i q
    rw [q] at e
    have a : es.toList.any (·.refKey) = false := by
      rw [List.any_eq_false]
      intro y hy
      obtain ⟨z, t, hkey⟩ := hk y (Array.mem_toList_iff.mp hy)
      simp [DictEntry.refKey, hkey]
    have a' : ¬ es.toList.any (·.refKey) = true := by rw [a]; exact Bool.false_ne_true
    rw [if_neg a']
    exact congrArg some e
theorem ObjM.look {h : Heap} {x dx C : Addr} {mA : Str → Option Value} (I : ObjM h x dx C mA) : ∃ od, PySem.W.InstAt h x (PySem.W.instObj C dx) C (some od) ∧ ∀ name, PySem.W.lookIn name od = some (mA name) :=
  let ⟨od, ho, hl⟩ := lookIn_ns I.ns
  ⟨od, ⟨I.obj, rfl, rfl, ho⟩, hl⟩
section
variable {prog : Program} {w : World} {A : Around} {E : Value → Shared → Prop} {s : Shared} {K : PySem.W.Frag} {x dx C f : Addr} {mA : Str → Option Value} {name : Str} {v : Value}
theorem get_map {expr : Bool} {Q : Value → Shared → Prop} (X : K.In s.heap) (I : ObjM s.heap x dx C mA) (hg : PySem.W.plainGet K C name = true) (hh : PySem.W.hasDictIn K C = true)
    (ha : PySem.W.findIn K (.ref C) name = some none) (hv : mA name = some v) (hv' : PySem.W.handedIn v = true) (h : Q v { s with toks := s.toks + 1 }) :
    wpAny (model prog w) A (getAttr (.ref x) name expr) Q E s := by
  obtain ⟨od, J, hl⟩ := I.look
  exact PySem.W.get_value X J (PySem.W.plainGet_of hg).1 (PySem.W.findObj_own hh ha rfl (by rw [hl, hv])) hv' h
theorem get_meth {pl : Sem Bool} {Q : Value × List Value → Shared → Prop} (X : K.In s.heap) (I : ObjM s.heap x dx C mA) (hg : PySem.W.plainGet K C name = true)
    (hf : PySem.W.findIn K (.ref C) name = some (some (.ref f))) (ht : PySem.W.isFn K (.ref f) = true) (hv : mA name = none) (h : Q (.ref f, [.ref x]) s) :
    wpAny (model prog w) A (getMethod (.ref x) name pl) Q E s := by
  obtain ⟨od, J, hl⟩ := I.look
  exact PySem.W.method_fn X J (PySem.W.plainGet_of hg).1 (PySem.W.plainGet_of hg).2 hf (beq_iff_eq.mp ht) (by show (PySem.W.lookIn name od).map (·.isSome) = some false; rw [hl, hv]; rfl) h
theorem set_map {ns : List Str} {Q : Unit → Shared → Prop} (X : K.In s.heap) (I : ObjM s.heap x dx C mA)
    (hs : PySem.W.findIn K (.ref C) "__setattr__" = some (some (.builtin "object.__setattr__"))) (hp : PySem.W.plainOver K C = true) (ht : PySem.W.takerIn K C name = some none) (hh : PySem.W.hasDictIn K C = true)
    (hw : PySem.Within mA ns) (hsz : ns.length ≤ sizeLine)
    (h : ∀ h', ObjM h' x dx C (fun y => if y = name then some v else mA y) → Heap.SameBut dx s.heap h' → Q () { s with heap := h', toks := s.toks + 2 }) :
    wpAny (model prog w) A (setAttr (.ref x) name v) Q E s := by
  obtain ⟨od, J, hl⟩ := I.look
  refine PySem.W.set_plain X J hs (PySem.W.osa_open (s := { s with toks := s.toks + 1 }) (r := none) X J hp ht fun b => ?_)
  obtain ⟨cd, hc, hd'⟩ := PySem.W.any_some hh
  have hx : s.heap.get? x = some ⟨.ref C, some dx, .plain, #[]⟩ := I.obj
  refine wpAny_bind (wpAny_pure (wpAny_bind (wpAny_bind (wpAny_loadPart hx (wpAny_bind (PySem.W.Looks.here (s := { s with toks := s.toks + 1 }) (PySem.W.looks_clsIn X hc) ?_))))))
  rw [hd']
  refine wpAny_pure (a := some dx) (wpAny_bind (wpAny_pure (wpAny_bind ?_)))
  refine wpAny_nsSet1 (s := { s with toks := s.toks + 1 }) I.ns fun h' hn2 hs2 => ?_
  obtain ⟨oD, esD, epD, hoD, hdD, hcD⟩ := hn2.count (PySem.Within.cons name v hw)
  refine wpAny_bind (wpAny_lookBehind hoD (by rw [hdD]; exact pastItsLine_dict (Nat.le_trans hcD (by rw [List.length_cons]; omega))) ?_)
  exact wpAny_pure (h _ ⟨(hs2.2 _ (Ne.symm I.ne)).trans I.obj, hn2, I.ne⟩ hs2)
/-- C(..): the dict at the heap's end, the instance behind it; then its __init__ -/
theorem make_map {R : Result → Shared → Prop} {vs : List Value} {kw : List (Str × Value)} (X : K.In s.heap) (hm : PySem.W.makesIn K C = true)
    (hi : PySem.W.findIn K (.ref C) "__init__" = some (some (.ref f))) (hf : PySem.W.typeIn K (.ref f) = some (.type "function"))
    (h : codeAny (model prog w) (A.under (.builtin "type.__call__" ⟨.ref C :: vs, kw⟩)) (.call (.ref f) ⟨.ref (s.heap.objs.size + 1) :: vs, kw⟩) (PySem.W.InitBack (s.heap.objs.size + 1) R)
      { s with heap := (s.heap.push PySem.W.emptyDict).push (PySem.W.instObj C s.heap.objs.size) }) :
    codeAny (model prog w) A (.call (.ref C) ⟨vs, kw⟩) R s := by
  obtain ⟨hh, g, d, t, os⟩ := s
  exact PySem.W.make_core (PySem.W.makes_of X hm) (PySem.W.looks_findIn X hi) (fun self => PySem.W.bind_fn X self hf) (.inl rfl) h
end
def putF (f : Str) (v : V) : List (Str × V) → List (Str × V)
  | [] => [(f, v)]
  | (g, x) :: r => if g = f then (g, v) :: r else (g, x) :: putF f v r
theorem lookup_putF (f g : Str) (v : V) : ∀ fs : List (Str × V), (putF f v fs).lookup g = if g = f then some v else fs.lookup g
  | [] => by
    show List.lookup g [(f, v)] = _
    by_cases h : g = f
    · have hb : (g == f) = true := beq_iff_eq.mpr h
      simp only [List.lookup, hb, if_pos h]
    · have hb : (g == f) = false := beq_eq_false_iff_ne.mpr h
      simp only [List.lookup, hb, if_neg h]
  | (k, x) :: r => by
    have ih := lookup_putF f g v r
    rw [show putF f v ((k, x) :: r) = (if k = f then (k, v) :: r else (k, x) :: putF f v r) from rfl]
    by_cases hk : k = f
    · rw [if_pos hk]
      by_cases h : g = k
      · have hb : (g == k) = true := beq_iff_eq.mpr h
        simp only [List.lookup, hb, if_pos (h.trans hk)]
      · have hb : (g == k) = false := beq_eq_false_iff_ne.mpr h
        simp only [List.lookup, hb, if_neg (fun e : g = f => h (e.trans hk.symm))]
    · rw [if_neg hk]
      by_cases h : g = k
      · have hb : (g == k) = true := beq_iff_eq.mpr h
        simp only [List.lookup, hb, if_neg (fun e : g = f => hk (h.symm.trans e))]
      · have hb : (g == k) = false := beq_eq_false_iff_ne.mpr h
        simp only [List.lookup, hb]
        exact ih
theorem keys_putF (f : Str) (v : V) : ∀ fs : List (Str × V), f ∈ (putF f v fs).map (·.1) ∧ ∀ g, g ∈ fs.map (·.1) → g ∈ (putF f v fs).map (·.1)
  | [] => ⟨by simp [putF], fun g h => by simp at h⟩
  | (k, x) :: r => by
    obtain ⟨i1, i2⟩ := keys_putF f v r
    rw [show putF f v ((k, x) :: r) = (if k = f then (k, v) :: r else (k, x) :: putF f v r) from rfl]
    by_cases hk : k = f
    · rw [if_pos hk]
      subst hk
      exact ⟨by simp, fun g h => by simpa using h⟩
    · rw [if_neg hk]
      refine ⟨?_, fun g h => ?_⟩
      · rw [List.map_cons]
        exact List.mem_cons_of_mem _ i1
      · rw [List.map_cons] at h ⊢
        rcases List.mem_cons.mp h with e | e
        · exact List.mem_cons.mpr (.inl e)
        · exact List.mem_cons_of_mem _ (i2 g e)
theorem length_putF (f : Str) (v : V) : ∀ fs : List (Str × V), (putF f v fs).length ≤ fs.length + 1
  | [] => by simp [putF]
  | (k, x) :: r => by
    have ih := length_putF f v r
    rw [show putF f v ((k, x) :: r) = (if k = f then (k, v) :: r else (k, x) :: putF f v r) from rfl]
    by_cases hk : k = f
    · rw [if_pos hk, List.length_cons, List.length_cons]; omega
    · rw [if_neg hk, List.length_cons, List.length_cons]; omega
theorem RelO.some_of {v : V} {o : Option Value} (r : RelO (some v) o) : ∃ u, o = some u ∧ RelV v u := by
  cases o with
  | none => exact (show False from r).elim
  | some u => exact ⟨u, rfl, r⟩
theorem RelO.none_of {o : Option Value} (r : RelO none o) : o = none := by
  cases o with
  | none => rfl
  | some u => exact (show False from r).elim
theorem handed_of {v : V} {u : Value} (r : RelV v u) : PySem.W.handedIn u = true := by
  cases v with
  | non => cases (show u = Value.none from r); rfl
  | bl b => cases (show u = Value.bool b from r); rfl
  | int i => obtain ⟨t, e⟩ := (show ∃ t, u = Value.int i t from r); cases e; rfl
  | str x => obtain ⟨t, e⟩ := (show ∃ t, u = Value.str x t from r); cases e; rfl
  | byt b => obtain ⟨t, e⟩ := (show ∃ t, u = Value.bytes b t from r); cases e; rfl
  | flt b => obtain ⟨t, e⟩ := (show ∃ t, u = Value.float b t from r); cases e; rfl
  | ref a => cases (show u = Value.ref a from r); rfl
  | ty n => cases (show u = Value.type n from r); rfl
section
variable {P : Program} {w : World} {H H' : Hp} {h h' : Heap} {a C dx : Addr} {fs fs' : List (Str × V)}
theorem ins_get (hok : HOk P w H h) (e : H a = some (.ins C dx fs)) : ∃ mA, ObjM h a dx C mA ∧ (∀ f, RelO (fs.lookup f) (mA f)) ∧ PySem.Within mA (fs.map (·.1)) ∧ fs.length ≤ 1000 ∧ H dx = some (.own a) := by
  obtain ⟨d, z, ne, ob, mA, n, r, q⟩ := (show ObjOk P w H h a (.ins C dx fs) from hok a _ e)
  exact ⟨mA, ⟨ob, n, ne⟩, r, q, z, d⟩
end
structure Cls (K : PySem.W.Frag) (C : Addr) : Prop where
  pg : PySem.W.plainGet K C Str.empty = true
  hd : PySem.W.hasDictIn K C = true
  po : PySem.W.plainOver K C = true
  sa : PySem.W.findIn K (.ref C) "__setattr__" = some (some (.builtin "object.__setattr__"))
theorem Cls.get {K : PySem.W.Frag} {C : Addr} (c : Cls K C) (f : Str) : PySem.W.plainGet K C f = true := c.pg
/-- no class of it has the name -/
def NoAttr (K : PySem.W.Frag) (C : Addr) (f : Str) : Prop := PySem.W.findIn K (.ref C) f = some none
theorem NoAttr.taker {K : PySem.W.Frag} {C : Addr} {f : Str} (n : NoAttr K C f) : PySem.W.takerIn K C f = some none := by
  unfold PySem.W.takerIn
  rw [show PySem.W.findIn K (.ref C) f = some none from n]
  rfl
/-- a method: a plain def of the class or of one above it -/
structure Meth (K : PySem.W.Frag) (C : Addr) (m : Str) (f : Addr) : Prop where
  at_ : PySem.W.findIn K (.ref C) m = some (some (.ref f))
  fn : PySem.W.isFn K (.ref f) = true
  kp : PySem.W.keepIn K (.ref f) = true
section
variable {X : Cx} {pins : List (Addr × Obj)} {σ : St} {H : Hp} {s : Shared} {a C dx : Addr} {fs : List (Str × V)} {f : Str} {v : V} {A : Around} {E : Value → Shared → Prop}
theorem getattr_ok {b : Bool} {Q : Value → Shared → Prop} (I : Inv X pins σ H s) (e : H a = some (.ins C dx fs)) (c : Cls X.K C) (n : NoAttr X.K C f) (l : fs.lookup f = some v)
    (h : ∀ u s', Inv X pins σ H s' → RelV v u → Q u s') : wpAny (model X.prog X.w) A (getAttr (.ref a) f b) Q E s := by
  obtain ⟨mA, O, r, _, _, _⟩ := ins_get I.hok e
  obtain ⟨u, hu, ru⟩ := RelO.some_of (v := v) (o := mA f) (by rw [← l]; exact r f)
  exact get_map I.kIn O (c.get f) c.hd n hu (handed_of ru) (h u _ (I.tok _) ru)
theorem getmeth_ok {m : Str} {g : Addr} {pl : Sem Bool} {Q : Value × List Value → Shared → Prop} (I : Inv X pins σ H s) (e : H a = some (.ins C dx fs)) (c : Cls X.K C) (k : Meth X.K C m g) (l : fs.lookup m = none)
    (h : Q (.ref g, [.ref a]) s) : wpAny (model X.prog X.w) A (getMethod (.ref a) m pl) Q E s := by
  obtain ⟨mA, O, r, _, _, _⟩ := ins_get I.hok e
  have hn : mA m = none := RelO.none_of (by rw [← l]; exact r m)
  exact get_meth I.kIn O (c.get m) k.at_ k.fn hn h
theorem setattr_ok {y : V} {u : Value} {Q : Unit → Shared → Prop} (I : Inv X pins σ H s) (e : H a = some (.ins C dx fs)) (c : Cls X.K C) (n : NoAttr X.K C f) (hl : fs.length < 1000) (ry : RelV y u)
    (h : ∀ s', Inv X pins σ (upd H a (.ins C dx (putF f y fs))) s' → Q () s') : wpAny (model X.prog X.w) A (setAttr (.ref a) f u) Q E s := by
  obtain ⟨mA, O, r, wi, _, ho⟩ := ins_get I.hok e
  have hz : (fs.map (·.1)).length ≤ sizeLine := by rw [List.length_map, sizeLine_eq]; omega
  refine set_map I.kIn O c.sa c.po n.taker c.hd wi hz fun h' O' sb => h _ ?_
  have hd : ∃ o, h'.get? dx = some o := let ⟨o, _, _, e', _⟩ := O'.ns; ⟨o, e'⟩
  refine I.write (x := a) (e := dx) (by rw [e]; exact True.intro) (.inr ho) (fun b q hb z => (sb.2 b hb).trans z) hd ?_
  refine ⟨by rw [upd_ne O.ne]; exact ho, ?_, O.ne, O'.obj, _, O'.ns, fun g => ?_, fun g hg => ?_⟩
  · have := length_putF f y fs; omega
  · show RelO ((putF f y fs).lookup g) (if g = f then some u else mA g)
    rw [lookup_putF]
    by_cases q : g = f
    · rw [if_pos q, if_pos q]; exact ry
    · rw [if_neg q, if_neg q]; exact r g
  · by_cases q : g = f
    · rw [q]; exact (keys_putF f y fs).1
    · refine (keys_putF f y fs).2 g (wi g fun z => hg ?_)
      show (if g = f then some u else mA g) = none
      rw [if_neg q]; exact z
/-- a new instance, tracked, without attributes -/
theorem Inv.made (I : Inv X pins σ H s) : Inv X pins σ (upd (upd H s.heap.objs.size (.own (s.heap.objs.size + 1))) (s.heap.objs.size + 1) (.ins C s.heap.objs.size []))
    { s with heap := (s.heap.push PySem.W.emptyDict).push (PySem.W.instObj C s.heap.objs.size) } := by
  have e1 : (s.heap.push PySem.W.emptyDict).get? s.heap.objs.size = some PySem.W.emptyDict := Heap.get?_push_size s.heap rfl
  have e2 : ((s.heap.push PySem.W.emptyDict).push (PySem.W.instObj C s.heap.objs.size)).get? (s.heap.objs.size + 1) = some (PySem.W.instObj C s.heap.objs.size) := by
    have := Heap.get?_push_size (s.heap.push PySem.W.emptyDict) (o := PySem.W.instObj C s.heap.objs.size) rfl
    rwa [Heap.size_push] at this
  have e3 : (s.heap.push PySem.W.emptyDict).Ns s.heap.objs.size (fun _ => none) := ⟨PySem.W.emptyDict, #[], _, e1, rfl, (fun e he => absurd he (by simp)), fun _ => rfl⟩
  have I1 := I.laid (a := s.heap.objs.size) (o := .own (s.heap.objs.size + 1)) (h' := s.heap.push PySem.W.emptyDict) (t' := s.toks) (fun b u q => Heap.get?_push_of_some _ q) (Nat.le_refl _) ⟨_, e1⟩
  refine I1.laid (a := s.heap.objs.size + 1) (o := .ins C s.heap.objs.size []) (t' := s.toks) (fun b u q => Heap.get?_push_of_some _ q) (Nat.le_of_eq (Heap.size_push _ _)) ?_
  have ne : s.heap.objs.size ≠ s.heap.objs.size + 1 := Nat.ne_of_lt (Nat.lt_succ_self _)
  refine ⟨by rw [upd_ne ne, upd_same], Nat.zero_le _, ne, e2, fun _ => none, (Heap.Ns1.of_empty e3).at fun o q => Heap.get?_push_of_some _ q, fun _ => True.intro, fun y hy => absurd rfl hy⟩
/-- e.f where nothing but the object is asked: through attributeBase (super) and the last hold -/
theorem attr_of {prog : Program} {w : World} {env : Env} {e : Expr} {f : Str} {pos : Pos} {s : Shared} {Q : Value → Shared → Prop} (hb : attributeBase e f env (eval e env) = eval e env)
    (h : wpAny (model prog w) A (eval e env) (fun o s₁ => wpAny (model prog w) A (getAttr o f true) Q E s₁) E s) : wpAny (model prog w) A (eval (.Attribute e f pos) env) Q E s :=
  Attribute_any_ h (by rw [arm_eval_Attribute, hb])
end
/-- e.f, an attribute of the instance -/
def tFld (K : PySem.W.Frag) (ta : TE) (f : Str) : TE := fun σ H Q => ta σ H fun x H1 => ∃ a C dx fs v, x = .ref a ∧ H1 a = some (.ins C dx fs) ∧ Cls K C ∧ NoAttr K C f ∧ fs.lookup f = some v ∧ Q v H1
/-- e.f = value -/
def sFld (K : PySem.W.Frag) (ta tv : TE) (f : Str) : TS := fun D σ H => tv σ H fun y H1 => ta σ H1 fun x H2 => ∃ a C dx fs, x = .ref a ∧ H2 a = some (.ins C dx fs) ∧ Cls K C ∧ NoAttr K C f ∧ fs.length < 1000 ∧
  D.nx σ (upd H2 a (.ins C dx (putF f y fs)))
section
variable {X : Cx} {o e value : Expr} {f : Str} {pos pos' tpos : Pos} {ta tv : TE}
theorem pe_fld (he : PE X e ta) (hb : attributeBase e f X.env (eval e X.env) = eval e X.env) : PE X (.Attribute e f pos) (tFld X.K ta f) := by
  intro pins s σ H Q I h
  refine attr_of hb (thn (he pins s σ H _ I h) fun u s1 ⟨x, H1, I1, rx, a, C, dx, fs, v, ex, ea, c, n, l, q⟩ => ?_)
  subst ex
  obtain rfl : u = Value.ref a := rx
  exact getattr_ok I1 ea c n l fun u' s2 I2 ru => ⟨v, H1, I2, ru, q⟩
theorem ps_fld (ha : PE X o ta) (hv : PE X value tv) (hs : swapsWith value (some (.Attribute o f pos')) pos.line X.env = pure false) : PS X (.Assign [.Attribute o f pos'] value pos) (sFld X.K ta tv f) := by
  intro pins s σ H D I h
  refine plainObj_wpAny_Assign_Attribute (thn (hv pins s σ H _ I h) fun u s1 ⟨y, H1, I1, ry, q⟩ => thn (ha pins s1 σ H1 _ I1 q) fun ov s2 ⟨x, H2, I2, rx, a, C, dx, fs, ex, ea, c, n, l, q2⟩ => ?_) hs
  subst ex
  obtain rfl : ov = Value.ref a := rx
  exact setattr_ok I2 ea c n l ry fun s3 I3 => ⟨σ, _, I3, q2⟩
/-- what is between an instance and its method: the tree of a method call -/
theorem methcall_of {pl : Sem Bool} {m : Str} {apos : Pos} {args : List Expr} {pins : List (Addr × Obj)} {s : Shared} {σ : St} {H : Hp} {Q : Value → Shared → Prop} {te : TE} (he : PE X e te) (I : Inv X pins σ H s)
    (h : te σ H fun x H1 => ∃ a C dx fs g, x = .ref a ∧ H1 a = some (.ins C dx fs) ∧ Cls X.K C ∧ Meth X.K C m g ∧ fs.lookup m = none ∧
      ∀ s1, Inv X pins σ H1 s1 → wpAny (model X.prog X.w) X.A (callWith pos (.ref g) [.ref a] (backTo pos (starEach args X.env)) (backToKw pos (keywordEach [] X.env))) Q X.xe s1)
    (ht : eval (.Call (.Attribute e m apos) args [] pos) X.env = (do
      let ov ← eval e X.env
      standAt apos.atName
      let (f, first) ← holding [ov] (getMethod ov m pl)
      callWith pos f first (backTo pos (starEach args X.env)) (backToKw pos (keywordEach [] X.env)))) :
    wpAny (model X.prog X.w) X.A (eval (.Call (.Attribute e m apos) args [] pos) X.env) Q X.xe s := by
  refine PySem.W.methodCall_KW (pl := pl) (thn (he pins s σ H _ I h) fun u s1 ⟨x, H1, I1, rx, a, C, dx, fs, g, ex, ea, c, k, l, q⟩ => ?_) ht
  subst ex
  obtain rfl : u = Value.ref a := rx
  exact getmeth_ok I1 ea c k l (q s1 I1)
end
section
variable {X : Cx} {pins : List (Addr × Obj)} {σ : St} {H : Hp} {s : Shared} {A : Around} {E : Value → Shared → Prop} {Q : Value → Shared → Prop} {c : Value} {b : Bool}
end
end L2
namespace L2
open PySem PySem.Spec PyProof.Rows
structure Room (k : Nat) (A : Around) : Prop where
  hd : A.handled = none
  dp : A.depth + 3 * k + 5 < recursionLimit
  un : A.units + 16 * k + 200 < cLine
theorem Room.mono {j k : Nat} {A : Around} (r : Room k A) (h : j ≤ k) : Room j A := ⟨r.hd, by have := r.dp; omega, by have := r.un; omega⟩
theorem Room.deeper {k : Nat} {A : Around} (r : Room (k + 1) A) (env : Env) : Room k (A.deeper env) :=
  ⟨r.hd, by have := r.dp; show A.depth + 1 + 3 * k + 5 < _; omega, by have := r.un; show A.units + 3 + 16 * k + 200 < _; omega⟩
theorem make_depth {A : Around} {C : Addr} {us : List Value} {kw : List (Str × Value)} : (A.under (.builtin "type.__call__" ⟨.ref C :: us, kw⟩)).depth = A.depth + 1 := by
  first | rfl | simp [Around.under, Code.weight, Code.isCreation, Code.isGuard, Code.isCaller, Code.frames, Code.isFrame, guardIds]
theorem make_units {A : Around} {C : Addr} {us : List Value} {kw : List (Str × Value)} : (A.under (.builtin "type.__call__" ⟨.ref C :: us, kw⟩)).units = A.units + 1 := by
  first | rfl | simp [Around.under, Code.cUnits, Code.frames, Code.isFrame]
theorem Room.make {k : Nat} {A : Around} (r : Room (k + 1) A) (C : Addr) (us : List Value) (kw : List (Str × Value)) : Room k (A.under (.builtin "type.__call__" ⟨.ref C :: us, kw⟩)) :=
  ⟨r.hd, by have := r.dp; rw [make_depth]; omega, by have := r.un; rw [make_units]; omega⟩
theorem Room.depth {k : Nat} {A : Around} (r : Room k A) : A.depth < recursionLimit := by have := r.dp; omega
theorem Room.units {k : Nat} {A : Around} (r : Room k A) : A.units + 64 < cLine := by have := r.un; omega
def tNil : TA := fun _ H Q => Q [] H
def tCons (ta : TE) (tr : TA) : TA := fun σ H Q => ta σ H fun x H1 => tr σ H1 fun xs H2 => Q (x :: xs) H2
section
variable {X : Cx} {e : Expr} {es : List Expr} {te : TE} {t : TA} {pos : Pos}
theorem pa_nil : PA X [] tNil := fun _ _ _ _ H Q I h => Calls.spliced_nil ⟨[], H, I, .nil, h⟩
theorem pa_cons (ha : PE X e te) (hr : PA X es t) (hs : starEach (e :: es) X.env = (false, eval e X.env) :: starEach es X.env := by rfl) : PA X (e :: es) (tCons te t) := by
  intro pos pins s σ H Q I h
  rw [hs]
  show wpAny _ _ (spliced ((false, eval e X.env) :: backTo pos (starEach es X.env))) _ _ s
  refine Calls.spliced_cons (thn (ha pins s σ H _ I h) fun u s1 ⟨x, H1, I1, r1, q1⟩ => ?_)
  exact thn (hr pos pins s1 σ H1 _ I1 q1) fun us s2 ⟨xs, H2, I2, r2, q2⟩ => ⟨x :: xs, H2, I2, .cons r1 r2, q2⟩
/-- a tuple, a list of written items -/
def tTup (t : TA) : TE := fun σ H Q => t σ H fun xs H1 => xs.length ≤ sizeLine ∧ ∀ p, H1 p = none → Q (.ref p) (upd H1 p (.tup xs))
def tLst (t : TA) : TE := fun σ H Q => t σ H fun xs H1 => xs.length ≤ sizeLine ∧ ∀ p, H1 p = none → Q (.ref p) (upd H1 p (.lst xs))
theorem pe_tup {x1} (h : PA X es t) : PE X (.Tuple es x1 pos) (tTup t) := by
  intro pins s σ H Q I hq
  refine wpAny_Tuple_spliced (thn (h pos pins s σ H _ I hq) fun us s1 ⟨xs, H1, I1, r, z, q⟩ => ⟨by rw [← r.length]; exact z, ?_⟩)
  have hf : H1 s1.heap.objs.size = none := I1.hok.fresh (Nat.le_refl _)
  refine ⟨.ref s1.heap.objs.size, upd H1 s1.heap.objs.size (.tup xs), I1.laid (t' := s1.toks) (fun b u e => Heap.get?_push_of_some _ e) (Nat.le_refl _) ?_, rfl, q _ hf⟩
  exact ⟨z, us, r, ⟨_, Heap.get?_push_size _ rfl, rfl, _, rfl⟩⟩
theorem pe_lst (h : PA X es t) : PE X (.List es pos) (tLst t) := by
  intro pins s σ H Q I hq
  refine wpAny_List_spliced (thn (h pos pins s σ H _ I hq) fun us s1 ⟨xs, H1, I1, r, z, q⟩ => ⟨by rw [← r.length]; exact z, ?_⟩)
  have hf : H1 s1.heap.objs.size = none := I1.hok.fresh (Nat.le_refl _)
  refine ⟨.ref s1.heap.objs.size, upd H1 s1.heap.objs.size (.lst xs), I1.laid (t' := s1.toks) (fun b u e => Heap.get?_push_of_some _ e) (Nat.le_refl _) ?_, rfl, q _ hf⟩
  exact ⟨z, us, 0, r, Heap.get?_push_size _ rfl⟩
end
/-- a def's promise: the bound arguments in the parameters' order, the heap, the wanted end, the wanted exception -/
abbrev Sp := List V → Hp → VK → XK → Prop
/-- how an exception lies behind a call (file 08 gives it): the callers' frames, abstract heap and state ahead of the call, the wish, the exception, the state -/
abbrev CXT := List Env → Hp → Shared → XK → Value → Shared → Prop
/-- the state at a call -/
structure Env0 (P : Program) (w : World) (K : PySem.W.Frag) (mg : Str → Option Value) (base : Heap) (A : Around) (outer : List Env) (s : Shared) (H : Hp) : Prop where
  frames : A.frames = some outer
  mod : Mod K mg base
  bs : ∀ b o, base.get? b = some o → s.heap.get? b = some o ∧ H b = none
  bsz : base.objs.size ≤ s.heap.objs.size
  funs : s.heap.FunFrames base outer
  frf : ∀ b ∈ frs outer, H b = none
  hok : HOk P w H s.heap
  bare : AllBare s.gens
/-- a call's end -/
def CE (outer : List Env) (P : Program) (w : World) (H : Hp) (s : Shared) (Q : VK) (u : Value) (s' : Shared) : Prop :=
  ∃ v H', s'.os = s.os ∧ AllBare s'.gens ∧ Un (frs outer) [] H H' s.heap s'.heap ∧ HOk P w H' s'.heap ∧ RelV v u ∧ Q v H'
def CR (CX : CXT) (outer : List Env) (P : Program) (w : World) (H : Hp) (s : Shared) (Q : VK) (E : XK) (r : Result) (s' : Shared) : Prop :=
  match r with
  | .ok (.ret u) => CE outer P w H s Q u s'
  | .ok _ => False
  | .error e => CX outer H s E e s'
structure FnOk (P : Program) (w : World) (K : PySem.W.Frag) (mg : Str → Option Value) (base : Heap) (CX : CXT) (k : Nat) (f : Addr) (fd : FuncData) (ps : List Str) (sp : Sp) : Prop where
  len : ∀ vs H Q E, sp vs H Q E → vs.length = ps.length
  run : ∀ (A : Around) (outer : List Env) (s : Shared) (H : Hp) (args : Args) (us : List Value) (vs : List V) (Q : VK) (E : XK), Room k A → Env0 P w K mg base A outer s H → BindsTo s fd args (ps.zip us) → Vals vs us → sp vs H Q E →
    codeAny (model P w) A (.call (.ref f) args) (CR CX outer P w H s Q E) s
theorem Env0.make {P : Program} {w : World} {K : PySem.W.Frag} {mg : Str → Option Value} {base : Heap} {A : Around} {outer : List Env} {s : Shared} {H : Hp} (e : Env0 P w K mg base A outer s H) (C : Addr) (us : List Value) (kw : List (Str × Value)) :
    Env0 P w K mg base (A.under (.builtin "type.__call__" ⟨.ref C :: us, kw⟩)) outer s H := ⟨by first | exact e.frames | (simpa [Around.under, Code.envs, Code.isFrame, pushEnvs] using e.frames), e.mod, e.bs, e.bsz, e.funs, e.frf, e.hok, e.bare⟩
section
variable {X : Cx} {pins : List (Addr × Obj)} {σ : St} {H : Hp} {s s' : Shared}
/-- from a body: what a callee wants -/
theorem Inv.env0 (I : Inv X pins σ H s) : Env0 X.prog X.w X.K X.mg X.base X.A X.stack s H :=
  ⟨I.ok.frames, I.ok.mod, I.bs, Nat.le_trans I.ok.bsz I.sz, I.stack, I.stkFree, I.hok, I.bare⟩
/-- behind a call -/
theorem Inv.after {Q : VK} {u : Value} (I : Inv X pins σ H s) (h : CE X.stack X.prog X.w H s Q u s') : EP X pins σ Q u s' := by
  obtain ⟨v, H', os, bare, un, hok, r, q⟩ := h
  obtain ⟨hh, g, d, t, os'⟩ := s'
  obtain rfl : os' = s.os := os
  exact ⟨v, H', I.call (h' := hh) (g' := g) (d' := d) (t' := t) (ch := []) un hok bare (fun b z => absurd z (by simp)), r, q⟩
end
/-- f(..): the written arguments, then the defaults dvs; E: what is wanted of an exception -/
def tCall (sp : Sp) (dvs : List V) (E : XK) (t : TA) : TE := fun σ H Q => t σ H fun vs H1 => sp (vs ++ dvs) H1 Q E
/-- o.m(..) of an instance of the class at C -/
def tMeth (C : Addr) (m : Str) (sp : Sp) (dvs : List V) (E : XK) (ta : TE) (t : TA) : TE := fun σ H Q => ta σ H fun x H1 => ∃ a dx fs, x = .ref a ∧ H1 a = some (.ins C dx fs) ∧ fs.lookup m = none ∧
  t σ H1 fun vs H2 => sp (x :: (vs ++ dvs)) H2 Q E
/-- C(..): a new instance and its dict, then __init__ -/
def tMake (C : Addr) (sp : Sp) (dvs : List V) (E : XK) (t : TA) : TE := fun σ H Q => t σ H fun vs H1 => ∀ x dx, H1 x = none → H1 dx = none → dx ≠ x →
  sp (.ref x :: (vs ++ dvs)) (upd (upd H1 dx (.own x)) x (.ins C dx [])) (fun v H2 => v = .non ∧ Q (.ref x) H2) E
/-- how the parameters are bound: us the positional arguments, kw the keywords' values by name, ds the defaults that fill up -/
def Binds (K : PySem.W.Frag) (fd : FuncData) (ps : List Str) (ds : List Value) : Prop :=
  ∀ (s : Shared) (us : List Value), K.In s.heap → (us ++ ds).length = ps.length → BindsTo s fd ⟨us, []⟩ (ps.zip (us ++ ds))
/-- every parameter is given -/
theorem Binds.all {K : PySem.W.Frag} {fd : FuncData} {ps : List Str} (h : ∀ us : List Value, us.length = ps.length → bindArgs fd ⟨us, []⟩ = pure (ps.zip us)) : Binds K fd ps [] := fun s us _ hl => by
  rw [List.append_nil] at hl ⊢
  exact .of_eq (h us hl)
/-- an exception of a callee reaches what this body wants of exceptions -/
def Passes (CX : CXT) (X : Cx) (E : XK) : Prop := ∀ (pins : List (Addr × Obj)) (σ : St) (H : Hp) (s : Shared) (e : Value) (s' : Shared), Inv X pins σ H s → CX X.stack H s E e s' → X.xe e s'
section
variable {X : Cx} {CX : CXT} {k : Nat} {f C : Addr} {fd : FuncData} {ps : List Str} {sp : Sp} {dvs : List V} {ds : List Value} {E : XK} {x m : Str} {p pos apos : Pos} {e o : Expr} {es : List Expr} {ta : TE} {t : TA}
/-- the callee runs -/
theorem run_fn {pins : List (Addr × Obj)} {σ : St} {H : Hp} {s : Shared} {Q : VK} {us : List Value} {vs : List V} (F : FnOk X.prog X.w X.K X.mg X.base CX k f fd ps sp) (hr : Room k X.A) (hb : Binds X.K fd ps ds) (hd : Vals dvs ds) (hx : Passes CX X E)
    (I : Inv X pins σ H s) (r : Vals vs us) (h : sp (vs ++ dvs) H Q E) : wpAny (model X.prog X.w) X.A (call (.ref f) us) (EP X pins σ Q) X.xe s := by
  have r2 : Vals (vs ++ dvs) (us ++ ds) := r.append hd
  have hl : (us ++ ds).length = ps.length := by rw [← r2.length]; exact F.len _ _ _ _ h
  refine wpAny_call (codeAny_mono (F.run X.A X.stack s H ⟨us, []⟩ (us ++ ds) (vs ++ dvs) Q E hr I.env0 (hb s us I.kIn hl) r2 h) fun r s' hq => ?_)
  cases r with
  | error e => exact hx pins σ H s e s' I hq
  | ok fl =>
    cases fl with
    | ret u => exact I.after hq
    | next => exact False.elim hq
    | brk => exact False.elim hq
    | cont => exact False.elim hq
theorem pe_call (F : FnOk X.prog X.w X.K X.mg X.base CX k f fd ps sp) (hr : Room k X.A) (hg : Gl X x) (hm : X.mg x = some (.ref f)) (hk : PySem.W.keepIn X.K (.ref f) = true) (hb : Binds X.K fd ps ds) (hd : Vals dvs ds) (hx : Passes CX X E)
    (ha : PA X (e :: es) t) (hdb : (x == ("__debug__" : Str)) = false := by decide) (he : starEach (e :: es) X.env = (false, eval e X.env) :: starEach es X.env := by rfl) (hpl : (backTo pos (starEach es X.env)).any (·.1) = false := by rfl) :
    PE X (.Call (.Name x p) (e :: es) [] pos) (tCall sp dvs E t) := by
  intro pins s σ H Q I h
  refine wpAny_Call_Name_kw (ld_glob I hg hm ?_ hdb)
  refine PySem.W.callWith_K (h₀ := X.base) I.ok.mod.kin hk (thn (ha pos pins s σ H _ I h) fun us s1 ⟨vs, H1, I1, r, q⟩ => ⟨I1.kIn, ?_⟩) he hpl
  exact run_fn F hr hb hd hx I1 r q
/-- o.m(e, ..) -/
theorem pe_meth {pl : Sem Bool} (he : PE X o ta) (c : Cls X.K C) (hm : Meth X.K C m f) (F : FnOk X.prog X.w X.K X.mg X.base CX k f fd ps sp) (hr : Room k X.A) (hb : Binds X.K fd ps ds) (hd : Vals dvs ds) (hx : Passes CX X E) (ha : PA X (e :: es) t)
    (hst : starEach (e :: es) X.env = (false, eval e X.env) :: starEach es X.env := by rfl) (hpl : (backTo pos (starEach es X.env)).any (·.1) = false := by rfl)
    (ht : eval (.Call (.Attribute o m apos) (e :: es) [] pos) X.env = (do
      let ov ← eval o X.env
      standAt apos.atName
      let (f, first) ← holding [ov] (getMethod ov m pl)
      callWith pos f first (backTo pos (starEach (e :: es) X.env)) (backToKw pos (keywordEach [] X.env))) := by rfl) :
    PE X (.Call (.Attribute o m apos) (e :: es) [] pos) (tMeth C m sp dvs E ta t) := by
  intro pins s σ H Q I h
  refine PySem.W.methodCall_KW (pl := pl) (thn (he pins s σ H _ I h) fun u s1 ⟨x, H1, I1, rx, a, dx, fs, ex, ea, l, q⟩ => ?_) ht
  subst ex
  obtain rfl : u = Value.ref a := rx
  refine getmeth_ok I1 ea c hm l ?_
  refine PySem.W.callWith_K (first := [.ref a]) (h₀ := X.base) I.ok.mod.kin hm.kp (thn (ha pos pins s1 σ H1 _ I1 q) fun us s2 ⟨vs, H2, I2, r, q2⟩ => ⟨I2.kIn, ?_⟩) hst hpl
  exact run_fn (us := .ref a :: us) (vs := .ref a :: vs) F hr hb hd hx I2 (.cons rfl r) q2
/-- what a class must have to be made -/
structure Mk (K : PySem.W.Frag) (C f : Addr) : Prop where
  makes : PySem.W.makesIn K C = true
  init : PySem.W.findIn K (.ref C) "__init__" = some (some (.ref f))
  fn : PySem.W.isFn K (.ref f) = true
  kp : PySem.W.keepIn K (.ref C) = true
theorem run_make {pins : List (Addr × Obj)} {σ : St} {H : Hp} {s : Shared} {Q : VK} {us : List Value} {vs : List V} (M : Mk X.K C f) (F : FnOk X.prog X.w X.K X.mg X.base CX k f fd ps sp) (hr : Room (k + 1) X.A) (hb : Binds X.K fd ps ds) (hd : Vals dvs ds)
    (hx : Passes CX X E) (I : Inv X pins σ H s) (r : Vals vs us)
    (h : ∀ x dx, H x = none → H dx = none → dx ≠ x → sp (.ref x :: (vs ++ dvs)) (upd (upd H dx (.own x)) x (.ins C dx [])) (fun v H2 => v = .non ∧ Q (.ref x) H2) E) :
    wpAny (model X.prog X.w) X.A (call (.ref C) us) (EP X pins σ Q) X.xe s := by
  have hq := h (s.heap.objs.size + 1) s.heap.objs.size (I.hok.fresh (Nat.le_succ _)) (I.hok.fresh (Nat.le_refl _)) (Nat.ne_of_lt (Nat.lt_succ_self _))
  have I2 := Inv.made (C := C) I
  have r2 : Vals (V.ref (s.heap.objs.size + 1) :: (vs ++ dvs)) (Value.ref (s.heap.objs.size + 1) :: (us ++ ds)) := .cons rfl (r.append hd)
  have hl : (Value.ref (s.heap.objs.size + 1) :: us ++ ds).length = ps.length := by
    have e := r2.length
    rw [F.len _ _ _ _ hq] at e
    exact e.symm
  refine wpAny_call (make_map (f := f) I.kIn M.makes M.init (beq_iff_eq.mp M.fn) (codeAny_mono (F.run _ X.stack _ _ ⟨Value.ref (s.heap.objs.size + 1) :: us, []⟩ (Value.ref (s.heap.objs.size + 1) :: (us ++ ds)) _ _ E (hr.make C us [])
    (I2.env0.make C us []) (hb _ (Value.ref (s.heap.objs.size + 1) :: us) I2.kIn hl) r2 hq) fun r s' hq' => ?_))
  cases r with
  | error e => exact hx pins σ _ _ e s' I2 hq'
  | ok fl =>
    cases fl with
    | ret u =>
      obtain ⟨v, H', I3, rv, ev, q3⟩ := I2.after hq'
      subst ev
      exact ⟨rv, ⟨V.ref (s.heap.objs.size + 1), H', I3, rfl, q3⟩⟩
    | next => exact False.elim hq'
    | brk => exact False.elim hq'
    | cont => exact False.elim hq'
theorem pe_make (M : Mk X.K C f) (F : FnOk X.prog X.w X.K X.mg X.base CX k f fd ps sp) (hr : Room (k + 1) X.A) (hg : Gl X x) (hm : X.mg x = some (.ref C)) (hb : Binds X.K fd ps ds) (hd : Vals dvs ds) (hx : Passes CX X E)
    (ha : PA X (e :: es) t) (hdb : (x == ("__debug__" : Str)) = false := by decide) (he : starEach (e :: es) X.env = (false, eval e X.env) :: starEach es X.env := by rfl) (hpl : (backTo pos (starEach es X.env)).any (·.1) = false := by rfl) :
    PE X (.Call (.Name x p) (e :: es) [] pos) (tMake C sp dvs E t) := by
  intro pins s σ H Q I h
  refine wpAny_Call_Name_kw (ld_glob I hg hm ?_ hdb)
  refine PySem.W.callWith_K (h₀ := X.base) I.ok.mod.kin M.kp (thn (ha pos pins s σ H _ I h) fun us s1 ⟨vs, H1, I1, r, q⟩ => ⟨I1.kIn, ?_⟩) he hpl
  exact run_make M F hr hb hd hx I1 r q
theorem pe_make0 (M : Mk X.K C f) (F : FnOk X.prog X.w X.K X.mg X.base CX k f fd ps sp) (hr : Room (k + 1) X.A) (hg : Gl X x) (hm : X.mg x = some (.ref C)) (hb : Binds X.K fd ps ds) (hd : Vals dvs ds) (hx : Passes CX X E)
    (hdb : (x == ("__debug__" : Str)) = false := by decide) : PE X (.Call (.Name x p) [] [] pos) (tMake C sp dvs E tNil) := by
  intro pins s σ H Q I h
  refine wpAny_Call_Name_kw (ld_glob I hg hm ?_ hdb)
  exact PySem.W.callWith_K0 I.kIn M.kp (run_make (us := []) M F hr hb hd hx I .nil h)
end
section
variable {X : Cx} {CX : CXT} {k : Nat} {f C : Addr} {fd : FuncData} {ps ks : List Str} {sp : Sp} {E : XK} {x m : Str} {p pos apos kpos : Pos} {e o : Expr} {es : List Expr} {kws : List Keyword} {te ta : TE} {t tk : TA} {nm : Option Str}
variable {g : List Value → List Value → List Value} {gV : List V → List V → List V}
end
/-- names: the parameters first -/
structure FnScope (N P : List Str) (sc : Scope) : Prop where
  kind : sc.kind = .function
  co : sc.isCoroutine = false
  gen : sc.isGenerator = false
  nd : N.Nodup
  pre : N.take P.length = P
  par : ∀ x ∈ P, sc.names.lookup x = some .local ∨ sc.names.lookup x = some .cell
  nofree : ∀ y ∈ sc.names, y.2 ≠ .free
theorem bindL_out {kindOf : Str → Option NameKind} {x : Str} : ∀ {binds : List (Str × Value)} {m : Str → Option Value}, (∀ v, (x, v) ∉ binds) → bindL kindOf binds m x = m x
  | [], _, _ => rfl
  | (n, v) :: r, m, h => by
    unfold bindL
    rw [bindL_out fun w hw => h w (List.mem_cons_of_mem _ hw)]
    split
    · have : x ≠ n := by rintro rfl; exact h v List.mem_cons_self
      simp [this]
    · rfl
theorem bindC_out {kindOf : Str → Option NameKind} {x : Str} : ∀ {binds : List (Str × Value)} {m : Str → Option Value}, (∀ v, (x, v) ∉ binds) → bindC kindOf binds m x = m x
  | [], _, _ => rfl
  | (n, v) :: r, m, h => by
    unfold bindC
    rw [bindC_out fun w hw => h w (List.mem_cons_of_mem _ hw)]
    split
    · rfl
    · have : x ≠ n := by rintro rfl; exact h v List.mem_cons_self
      simp [this]
theorem bindL_get {kindOf : Str → Option NameKind} {x : Str} {v : Value} : ∀ {P : List Str} {vs : List Value} {i : Nat} {m : Str → Option Value}, P.Nodup → P[i]? = some x → vs[i]? = some v → kindOf x = some .local →
    bindL kindOf (P.zip vs) m x = some v
  | [], _, _, _, _, h, _, _ => by simp at h
  | _ :: _, [], _, _, _, _, h, _ => by simp at h
  | p :: P, w :: vs, 0, m, nd, h1, h2, hk => by
    simp at h1 h2; subst h1; subst h2
    show bindL kindOf ((p, w) :: P.zip vs) m p = _
    unfold bindL
    rw [bindL_out fun v hv => (List.nodup_cons.mp nd).1 (List.of_mem_zip hv).1, if_pos hk]
    simp
  | p :: P, w :: vs, i + 1, m, nd, h1, h2, hk => by
    show bindL kindOf ((p, w) :: P.zip vs) m x = _
    unfold bindL
    exact bindL_get (i := i) (List.nodup_cons.mp nd).2 (by simpa using h1) (by simpa using h2) hk
theorem bindC_get {kindOf : Str → Option NameKind} {x : Str} {v : Value} : ∀ {P : List Str} {vs : List Value} {i : Nat} {m : Str → Option Value}, P.Nodup → P[i]? = some x → vs[i]? = some v → kindOf x ≠ some .local →
    bindC kindOf (P.zip vs) m x = some v
  | [], _, _, _, _, h, _, _ => by simp at h
  | _ :: _, [], _, _, _, _, h, _ => by simp at h
  | p :: P, w :: vs, 0, m, nd, h1, h2, hk => by
    simp at h1 h2; subst h1; subst h2
    show bindC kindOf ((p, w) :: P.zip vs) m p = _
    unfold bindC
    rw [bindC_out fun v hv => (List.nodup_cons.mp nd).1 (List.of_mem_zip hv).1, if_neg hk]
    simp
  | p :: P, w :: vs, i + 1, m, nd, h1, h2, hk => by
    show bindC kindOf ((p, w) :: P.zip vs) m x = _
    unfold bindC
    exact bindC_get (i := i) (List.nodup_cons.mp nd).2 (by simpa using h1) (by simpa using h2) hk
/-- the names' values at the entry -/
def start (N : List Str) (vs : List V) : St := vs.map some ++ List.replicate (N.length - vs.length) none
/-- the context of a def's body, at its entry; an exception leaves the frame, then lies as CX says -/
def cxOf (CX : CXT) (P : Program) (w : World) (K : PySem.W.Frag) (mg : Str → Option Value) (base : Heap) (N : List Str) (qual : Str) (scope : Scope) (f : Addr) (cd : Value) (A : Around) (outer : List Env) (s : Shared) (H : Hp) (E : XK) : Cx where
  prog := P
  w := w
  K := K
  mg := mg
  base := base
  A := A.deeper (envOfC qual scope s.heap.objs.size f cd)
  N := N
  s_0 := s
  H_0 := H
  env := envOfC qual scope s.heap.objs.size f cd
  outer := outer
  stack := envOfC qual scope s.heap.objs.size f cd :: outer
  ex := []
  calm := true
  fn := fun _ => true
  pn := []
  xe := fun e s' => wpAny (model P w) (A.deeper (envOfC qual scope s.heap.objs.size f cd)) (leaving (envOfC qual scope s.heap.objs.size f cd) e) (fun _ s'' => CX outer H s E e s'') (fun e' s'' => CX outer H s E e' s'') s'
theorem cell_has {sc : Scope} {n : Nat} {x : Str} (h : sc.names.lookup x = some .cell) : ∃ c, (cellsFrom n sc.names []).lookup x = some c := by
  have q := PySem.W.cellsFrom_some sc.names n [] (.inl h)
  exact Option.isSome_iff_exists.mp q
theorem inv_start {CX : CXT} {P : Program} {w : World} {K : PySem.W.Frag} {mg : Str → Option Value} {base : Heap} {N ps : List Str} {qual : Str} {scope : Scope} {f : Addr} {cd : Value} {A : Around} {outer : List Env} {s s1 : Shared} {H : Hp} {E : XK} {us : List Value} {vs : List V}
    (S : FnScope N ps scope) (hd : A.handled = none) (e0 : Env0 P w K mg base A outer s H) (hl : vs.length = ps.length) (r : Vals vs us)
    (x : InCallC s s.heap.objs.size (bindL (envOfC qual scope s.heap.objs.size f cd).kindOf (ps.zip us) fun _ => none) (cellsFrom (s.heap.objs.size + 1) scope.names []) (bindC (envOfC qual scope s.heap.objs.size f cd).kindOf (ps.zip us) fun _ => none) s1) :
    Inv (cxOf CX P w K mg base N qual scope f cd A outer s H E) [] (start N vs) H s1 := by
  have hpl : ps.length ≤ N.length := by have := congrArg List.length S.pre; rw [List.length_take] at this; omega
  obtain ⟨h1, tk, rfl, hk⟩ := x.done
  have noA : ∀ b : Addr, b ∉ (cxOf CX P w K mg base N qual scope f cd A outer s H E).ex := fun b z => absurd (show b ∈ ([] : List Addr) from z) (by simp)
  refine ⟨⟨e0.mod, S.kind, rfl, rfl, Nat.le_refl _, fun y z c h1 h2 => ?_, fun y hy => ?_, fun y c _ h => ?_, fun _ => hd, Around.frames_deeper e0.frames, .inr ⟨rfl, rfl⟩, fun b z => absurd z (noA b), e0.bs, e0.bsz, fun b _ _ => noA b, fun b z => absurd z (noA b), e0.funs, e0.frf⟩,
    rfl, e0.bare, Un.kept hk, ⟨_, x.toInCall.ns, fun i y v h1 h2 h3 => ?_⟩, fun y c h => ⟨_, x.cell y c h⟩, e0.hok.fresh (Nat.le_refl _), fun y c h => ?_, fun p hp => absurd (show p ∈ ([] : List (Addr × Obj)) from hp) (by simp), e0.hok.kept hk, ?_⟩
  · exact name_of_addr x.apart (PySem.mem_of_lookup h1) (PySem.mem_of_lookup h2)
  · have hy : scope.names.lookup y = some .cell ∨ scope.names.lookup y = some .free := hy
    rcases hy with hy | hy
    · exact cell_has hy
    · exact absurd rfl (S.nofree _ (PySem.mem_of_lookup hy))
  · exact Nat.le_of_lt (x.above y c (PySem.mem_of_lookup h))
  · have hi : i < vs.length := by
      unfold start at h2
      by_cases hi : i < vs.length
      · exact hi
      · rw [List.getElem?_append_right (by simpa using hi)] at h2
        rw [List.getElem?_replicate] at h2
        split at h2 <;> cases h2
    have ha : vs[i]? = some v := by
      unfold start at h2
      rw [List.getElem?_append_left (by simpa using hi), List.getElem?_map] at h2
      cases e : vs[i]? with
      | none => rw [e] at h2; cases h2
      | some a => rw [e] at h2; cases h2; rfl
    obtain ⟨u, hu, rv⟩ := r.get ha
    have hp : ps[i]? = some y := by
      rw [← S.pre, List.getElem?_take_of_lt (by omega)]; exact h1
    have ndP : ps.Nodup := by rw [← S.pre]; exact S.nd.sublist (List.take_sublist _ _)
    refine ⟨u, rv, ?_⟩
    rcases S.par y (List.mem_of_getElem? hp) with k | k
    · exact .inl ⟨k, bindL_get ndP hp hu k⟩
    · obtain ⟨c, e⟩ := cell_has (n := s.heap.objs.size + 1) k
      refine .inr ⟨.inl k, c, e, ?_⟩
      have q := x.cell y c e
      rw [bindC_get ndP hp hu (by show scope.names.lookup y ≠ _; rw [k]; decide)] at q
      exact q
  · exact e0.hok.fresh (Nat.le_of_lt (x.above y c (PySem.mem_of_lookup h)))
  · unfold start
    show _ = N.length
    rw [List.length_append, List.length_map, List.length_replicate]
    omega
/-- THE RULE: a def (or a method) of the text, by its body. The body's reading t is chosen for each entry; it is run at the parameters' values -/
theorem fn_of {CX : CXT} {P : Program} {w : World} {K : PySem.W.Frag} {mg : Str → Option Value} {base : Heap} {k : Nat} {f : Addr} {name qual : Str} {params : Arguments} {body : List Stmt} {scope : Scope} {dV kV doc pm cdv ct oc : Value} {an od : Option Addr}
    {osl : Array (Option Value)} {N ps : List Str} {sp : Sp} (lk : K.lookup f = some ⟨oc, od, .func (PySem.W.fnOf name qual params body scope dV kV doc pm an cdv ct), osl⟩) (hcd : PySem.W.codeIn K cdv qual = true) (S : FnScope N ps scope)
    (len : ∀ vs H Q E, sp vs H Q E → vs.length = ps.length)
    (hbody : ∀ (A : Around) (outer : List Env) (s : Shared) (H : Hp) (vs : List V) (Q : VK) (E : XK), Room k (A.deeper (envOfC qual scope s.heap.objs.size f cdv)) → sp vs H Q E →
      ∃ t, PSs (cxOf CX P w K mg base N qual scope f cdv A outer s H E) body t ∧ t { nx := fun _ H' => Q .non H', rt := Q } (start N vs) H) :
    FnOk P w K mg base CX (k + 1) f (PySem.W.fnOf name qual params body scope dV kV doc pm an cdv ct) ps sp := by
  refine ⟨len, fun A outer s H args us vs Q E hr e0 hb r hsp => ?_⟩
  have hl := len _ _ _ _ hsp
  have KX : K.In s.heap := e0.mod.kin.keeps fun b o e => (e0.bs b o e).1
  have lim : s.heap.NoLimit := e0.mod.nolimit.keeps fun b o e => (e0.bs b o e).1
  have hkind : ∀ y ∈ ps.zip us, scope.names.lookup y.1 = some .local ∨ (scope.names.lookup y.1 = some .cell ∧ ((cellsFrom (s.heap.objs.size + 1) scope.names []).lookup y.1).isSome = true) := fun ⟨n, v⟩ hy => by
    rcases S.par n (List.of_mem_zip hy).1 with q | q
    · exact .inl q
    · exact .inr ⟨q, PySem.W.cellsFrom_some _ _ _ (.inl q)⟩
  refine codeAny_call_function hr.depth (KX _ _ lk) rfl S.co S.gen rfl (PySem.W.codeRec_of KX hcd) (hb _ _ _ _ ?_)
  refine wpAny_newFunctionEnv_cells S.kind hkind fun env he s1 x => ?_
  subst he
  refine ⟨lim.keeps x.toInCall.keep, codeAny_func ?_⟩
  obtain ⟨t, ht, hq⟩ := hbody A outer s H vs Q E (hr.deeper _) hsp
  have I : Inv (cxOf CX P w K mg base N qual scope f cdv A outer s H E) [] (start N vs) H s1 := inv_start S hr.hd e0 hl r x
  refine wpAny_mono (ht [] s1 (start N vs) H _ I hq) (fun fl s' hs => ?_) fun e s' hs => hs
  have fin : ∀ {σ' : St} {H' : Hp} {v : V} {u : Value}, Inv (cxOf CX P w K mg base N qual scope f cdv A outer s H E) [] σ' H' s' → RelV v u → Q v H' → CE outer P w H s Q u s' :=
    fun {σ' H' v u} J rv q => ⟨v, H', J.os, J.bare, J.base, J.hok, rv, q⟩
  cases fl with
  | ret u =>
    obtain ⟨v, σ', H', J, rv, q⟩ := hs
    exact fin J rv q
  | next =>
    obtain ⟨σ', H', J, q⟩ := hs
    exact fin (v := V.non) (u := Value.none) J rfl q
  | brk =>
    obtain ⟨_, _, _, q⟩ := hs
    exact False.elim q
  | cont =>
    obtain ⟨_, _, _, q⟩ := hs
    exact False.elim q
end L2
namespace L2
open PySem PySem.Spec PyProof.Rows
section
variable {X : Cx} {x : Str} {p pos : Pos} {e : Expr} {es : List Expr} {t : TA} {id T : String} {r : List V → Hp → VK → Prop}
def tCB (r : List V → Hp → VK → Prop) (t : TA) : TE := fun σ H Q => t σ H fun vs H1 => r vs H1 Q
/-- f(e, ..), f a built-in function -/
theorem pe_callB (hc : CallR X (.builtin id) r) (hg : Gl X x) (hm : X.mg x = none) (hv : bootBuiltins x = some (.builtin id)) (ha : PA X (e :: es) t) (hn : x ≠ "__name__" := by decide) (hdb : (x == ("__debug__" : Str)) = false := by decide)
    (he : starEach (e :: es) X.env = (false, eval e X.env) :: starEach es X.env := by rfl) (hpl : (backTo pos (starEach es X.env)).any (·.1) = false := by rfl) : PE X (.Call (.Name x p) (e :: es) [] pos) (tCB r t) := by
  intro pins s σ H Q I h
  refine wpAny_Call_Name_kw (ld_blt I hg hm hv ?_ hn hdb)
  exact PyProof.Rows.callWith_builtin1 (thn (ha pos pins s σ H _ I h) fun us s1 ⟨vs, H1, I1, r1, q1⟩ => hc pins s1 σ H1 vs us Q I1 r1 q1) he hpl
end
end L2
namespace HT
open PySem PyProof.Rows
section
open PySem.SeqAt
open PySem.AutoSeq1 (wpAny_loadPart')
open PySem.MeetsSeq PySem.MeetsSeq2 PySem.MeetsSeq3
end
section
variable {prog : Program} {w : World} {A : Around} {E : Value → Shared → Prop} {s : Shared}
/-- a slice's bound as a place among n (d where it is left out) -/
def sIx (n d : Nat) : Option Int → Nat
  | none => d
  | some v => if v < 0 then (v + (n : Int)).toNat else min v.toNat n
theorem sIx_none (n d : Nat) : sIx n d none = d := rfl
theorem sIx_nat (n d k : Nat) : sIx n d (some (k : Int)) = min k n := by
  show (if (k : Int) < 0 then ((k : Int) + (n : Int)).toNat else min (k : Int).toNat n) = min k n
  rw [if_neg (by omega), Int.toNat_natCast]
end
end HT
namespace L2
open PySem PySem.Spec PyProof.Rows
abbrev TO := St → Hp → (Option Int → Hp → Prop) → Prop
/-- a slice's part (left out, or an int) -/
def PO (X : Cx) (e : Option Expr) (t : TO) : Prop :=
  ∀ (pins : List (Addr × Obj)) (s : Shared) (σ : St) (H : Hp) (Q : Option Int → Hp → Prop), Inv X pins σ H s → t σ H Q →
    wpAny (model X.prog X.w) X.A (evalPart e X.env) (fun u s' => ∃ o H', Inv X pins σ H' s' ∧ IsPart u o ∧ Q o H') X.xe s
def tNoPart : TO := fun _ H Q => Q none H
def tPart (t : TE) : TO := fun σ H Q => t σ H fun x H1 => ∃ i, x = .int i ∧ Q (some i) H1
section
variable {X : Cx} {e : Expr} {te : TE} {lo hi : Option Expr} {tl th : TO} {pos p2 : Pos}
theorem po_none : PO X none tNoPart := by
  intro pins s σ H Q I h
  rw [evalPart_none]
  exact wpAny_pure ⟨none, H, I, .none, h⟩
theorem po_some (h : PE X e te) : PO X (some e) (tPart te) := by
  intro pins s σ H Q I hw
  rw [evalPart_some]
  refine thn (h pins s σ H _ I hw) fun u s1 ⟨x, H1, I1, r1, q1⟩ => ?_
  obtain ⟨i, rfl, q⟩ := q1
  obtain ⟨t, rfl⟩ := r1
  exact ⟨some i, H1, I1, .int i t, q⟩
/-- what a slice of a value is, by values: the slice object stands at sl -/
def SlR (X : Cx) (r : V → Option Int → Option Int → Hp → VK → Prop) : Prop :=
  ∀ (pins : List (Addr × Obj)) (s : Shared) (σ : St) (H : Hp) (x : V) (v vl vu : Value) (lo hi : Option Int) (sl : Addr) (Q : VK), Inv X pins σ H s → RelV x v → s.heap.IsSliceOf sl vl vu .none → IsPart vl lo → IsPart vu hi → r x lo hi H Q →
    ∃ T id, typeLookup (.type T) "__getitem__" = pure (some (.builtin id)) ∧ s.TypeIs v T ∧ wpAny (model X.prog X.w) X.A (getItem v (.ref sl)) (EP X pins σ Q) X.xe s
def tSl (r : V → Option Int → Option Int → Hp → VK → Prop) (te : TE) (tl th : TO) : TE := fun σ H Q => te σ H fun x H1 => tl σ H1 fun l H2 => th σ H2 fun u H3 => r x l u H3 Q
/-- a[lo:hi], any a -/
theorem pe_slice {r : V → Option Int → Option Int → Hp → VK → Prop} (hr : SlR X r) (he : PE X e te) (hl : PO X lo tl) (hu : PO X hi th) : PE X (.Subscript e (.Slice lo hi none p2) pos) (tSl r te tl th) := by
  intro pins s σ H Q I h
  refine Subscript_ (thn (he pins s σ H _ I h) fun v s1 ⟨x, H1, I1, r1, q1⟩ => ?_)
  refine wpAny_Slice (thn (hl pins s1 σ H1 _ I1 q1) fun vl s2 ⟨l, H2, I2, pl, q2⟩ => thn (hu pins s2 σ H2 _ I2 q2) fun vu s3 ⟨u, H3, I3, pu, q3⟩ => ?_)
  rw [evalPart_none]
  refine wpAny_pure ?_
  have I4 : Inv X pins σ H3 { s3 with heap := s3.heap.push { cls := .type "slice", data := .fields #[vl, vu, .none] } } := I3.kept (t' := s3.toks) fun b ob q => Heap.get?_push_of_some _ q
  obtain ⟨T, id, hT, ht, hg⟩ := hr pins { s3 with heap := s3.heap.push { cls := .type "slice", data := .fields #[vl, vu, .none] } } σ H3 x v vl vu l u s3.heap.objs.size Q I4 r1 (Heap.IsSliceOf.new ..) pl pu q3
  show wpAny (model X.prog X.w) X.A (subscriptTail e (.Slice lo hi none p2) v (.ref s3.heap.objs.size)) (EP X pins σ Q) X.xe { s3 with heap := s3.heap.push { cls := .type "slice", data := .fields #[vl, vu, .none] } }
  exact tail_any (ops := [.ref s3.heap.objs.size, v]) ht hT hg (by with_unfolding_all rfl)
/-- the items of xs[lo:hi] -/
def cutV (xs : List V) (lo hi : Option Int) : List V := (xs.drop (HT.sIx xs.length 0 lo)).take (HT.sIx xs.length xs.length hi - HT.sIx xs.length 0 lo)
theorem cutV_length (xs : List V) (lo hi : Option Int) : (cutV xs lo hi).length ≤ xs.length := by
  unfold cutV
  rw [List.length_take, List.length_drop]
  omega
end
end L2
namespace L2
open PySem PySem.Spec PyProof.Rows
/-- the place that an index of any sign means -/
def ixN (n : Nat) (i : Int) : Option Nat := if 0 ≤ i then (if i < n then some i.toNat else none) else if -(n : Int) ≤ i then some (i + n).toNat else none
def atI {α : Type} (xs : List α) (i : Int) : Option α := (ixN xs.length i).bind fun j => xs[j]?
theorem ixN_seq {n : Nat} {i : Int} {j : Nat} (h : ixN n i = some j) : seqIndex? i n = some j ∧ j < n ∧ -(n : Int) ≤ i ∧ i < n := by
  unfold ixN at h
  by_cases h0 : 0 ≤ i
  · rw [if_pos h0] at h
    by_cases h1 : i < n
    · rw [if_pos h1] at h
      have e : i.toNat = j := Option.some.inj h
      exact ⟨by rw [seqIndex_of h0 h1, e], by omega, by omega, h1⟩
    · rw [if_neg h1] at h; cases h
  · rw [if_neg h0] at h
    by_cases h1 : -(n : Int) ≤ i
    · rw [if_pos h1] at h
      have e : (i + n).toNat = j := Option.some.inj h
      exact ⟨by rw [seqIndex_neg (by omega) h1, e], by omega, h1, by omega⟩
    · rw [if_neg h1] at h; cases h
theorem atI_get {α : Type} {xs : List α} {i : Int} {v : α} (h : atI xs i = some v) : ∃ j, seqIndex? i xs.length = some j ∧ xs[j]? = some v ∧ j < xs.length ∧ -(xs.length : Int) ≤ i ∧ i < xs.length := by
  unfold atI at h
  cases e : ixN xs.length i with
  | none => rw [e] at h; cases h
  | some j =>
    rw [e] at h
    obtain ⟨h1, h2, h3, h4⟩ := ixN_seq e
    exact ⟨j, h1, h, h2, h3, h4⟩
theorem atI_nat {α : Type} {xs : List α} {j : Nat} {v : α} (h : xs[j]? = some v) : atI xs (j : Int) = some v := by
  have hj : j < xs.length := (List.getElem?_eq_some_iff.mp h).1
  have e : ixN xs.length (j : Int) = some j := by
    unfold ixN
    rw [if_pos (by omega), if_pos (by omega)]; simp
  unfold atI; rw [e]; exact h
theorem atI_last {α : Type} (xs : List α) (v : α) : atI (xs ++ [v]) (-1) = some v := by
  have hl : (xs ++ [v]).length = xs.length + 1 := by simp
  have e : ixN (xs ++ [v]).length (-1) = some xs.length := by
    unfold ixN
    rw [hl, if_neg (by decide), if_pos (by omega)]
    congr 1
    omega
  unfold atI
  rw [e]
  show (xs ++ [v])[xs.length]? = some v
  simp
/-- what stands as an index of a plain subscript -/
def PlainIx (b : Expr) : Prop := ∀ o i, subscripted b false o i = operate [o, i] (getItem o i)
/-- a subscript by values -/
def IxR (X : Cx) (r : R2) : Prop :=
  ∀ (value slice : Expr) (pins : List (Addr × Obj)) (s : Shared) (σ : St) (H : Hp) (x y : V) (v u : Value) (Q : VK), Inv X pins σ H s → RelV x v → RelV y u → r x y H Q →
    subscripted slice false v u = operate [v, u] (getItem v u) → wpAny (model X.prog X.w) X.A (subscriptTail value slice v u) (EP X pins σ Q) X.xe s
/-- a call of a builtin's method by values: the receiver, the arguments -/
def MtR (X : Cx) (id : String) (r : V → List V → Hp → VK → Prop) : Prop :=
  ∀ (pins : List (Addr × Obj)) (s : Shared) (σ : St) (H : Hp) (x : V) (xs : List V) (v : Value) (us : List Value) (Q : VK), Inv X pins σ H s → RelV x v → Vals xs us → r x xs H Q →
    wpAny (model X.prog X.w) X.A (call (.builtin id) (v :: us)) (EP X pins σ Q) X.xe s
section
variable {X : Cx} {a b : Expr} {ta tb : TE} {pos : Pos}
theorem IxR.or {r r' : R2} (h : IxR X r) (h' : IxR X r') : IxR X (fun x y H Q => r x y H Q ∨ r' x y H Q) := by
  intro value slice pins s σ H x y v u Q I rx ry q hs
  rcases q with q | q
  · exact h value slice pins s σ H x y v u Q I rx ry q hs
  · exact h' value slice pins s σ H x y v u Q I rx ry q hs
/-- a[b] -/
theorem pe_ix {r : R2} (hr : IxR X r) (ha : PE X a ta) (hb : PE X b tb) (hs : PlainIx b) : PE X (.Subscript a b pos) (tOp r ta tb) := by
  intro pins s σ H Q I h
  exact Subscript_ (binT ha hb I h fun v u s2 x y H2 I2 rx ry q => hr a b pins s2 σ H2 x y v u Q I2 rx ry q (hs _ _))
def rIxL (K : PySem.W.Frag) : R2 := fun x y H Q => ∃ p xs i v, x = .ref p ∧ y = .int i ∧ SqL K H p xs ∧ atI xs i = some v ∧ Q v H
def rIxT (K : PySem.W.Frag) : R2 := fun x y H Q => ∃ p xs i v, x = .ref p ∧ y = .int i ∧ SqT K H p xs ∧ atI xs i = some v ∧ Q v H
theorem ix_list : IxR X (rIxL X.K) := by
  intro value slice pins s σ H x y v u Q I rx ry h hs
  obtain ⟨p, xs, i, z, rfl, rfl, hq, he, q⟩ := h
  cases rx
  obtain ⟨t, rfl⟩ := ry
  obtain ⟨its, r, pl, hz⟩ := I.list hq
  obtain ⟨j, h1, h2, h3, h4, h5⟩ := atI_get he
  obtain ⟨w, ew, rw'⟩ := r.get h2
  have hl := r.length
  have hn := line63
  have fin : EP X pins σ Q w s := ⟨z, H, I, rw', q⟩
  by_cases h0 : 0 ≤ i
  · have hj : i.toNat = j := by
      rw [seqIndex_of h0 h5] at h1
      exact Option.some.inj h1
    exact item_listR pl.isList h0 (by omega) (by rw [hj]; simpa using ew) fin hs
  · have hj : (i + (its.toArray.size : Int)).toNat = j := by
      rw [seqIndex_neg (by omega) h4] at h1
      rw [List.size_toArray, ← hl]
      exact Option.some.inj h1
    exact subscriptTail_builtinR (x := w) pl.isList.typeIs slot_list_getitem.lookup
      (wpAny_getItem_list_neg (Q := fun r s' => r = w ∧ EP X pins σ Q r s') pl.isList (by omega) (by rw [List.size_toArray] <;> omega) (by omega) (by rw [hj]; simpa using ew) ⟨rfl, fin⟩) hs
theorem ix_tup : IxR X (rIxT X.K) := by
  intro value slice pins s σ H x y v u Q I rx ry h hs
  obtain ⟨p, xs, i, z, rfl, rfl, hq, he, q⟩ := h
  cases rx
  obtain ⟨t, rfl⟩ := ry
  obtain ⟨its, r, pl, hz⟩ := I.tuple hq
  obtain ⟨j, h1, h2, h3, h4, h5⟩ := atI_get he
  obtain ⟨w, ew, rw'⟩ := r.get h2
  have hl := r.length
  have hn := line63
  have fin : EP X pins σ Q w s := ⟨z, H, I, rw', q⟩
  exact subscriptTail_builtinR (x := w) pl.typeIs slot_tuple_getitem.lookup
    (getItem_tuple (j := j) (Q := fun r s' => r = w ∧ EP X pins σ Q r s') pl (by omega) (by omega) (by rw [List.size_toArray, ← hl]; exact h1) (by simpa using ew) ⟨rfl, fin⟩) hs
theorem slice_bounds (lo hi : Option Int) (n : Nat) : (sliceBounds lo hi none n).1 = ((HT.sIx n 0 lo : Nat) : Int) ∧ (sliceBounds lo hi none n).2.1 = ((HT.sIx n n hi : Nat) : Int) ∧ (sliceBounds lo hi none n).2.2 = 1 := by
  refine ⟨?_, ?_, rfl⟩
  · cases lo with
    | none => simp [sliceBounds, HT.sIx]
    | some i =>
      simp only [sliceBounds, HT.sIx, Option.getD_none, show (1 : Int) > 0 by decide, if_true]
      by_cases h : i < 0
      · simp only [h, if_true] <;> omega
      · simp only [h, if_false] <;> omega
  · cases hi with
    | none => simp [sliceBounds, HT.sIx]
    | some i =>
      simp only [sliceBounds, HT.sIx, Option.getD_none, show (1 : Int) > 0 by decide, if_true]
      by_cases h : i < 0
      · simp only [h, if_true] <;> omega
      · simp only [h, if_false] <;> omega
theorem slicePick_cut (its : List Value) (lo hi : Option Int) : slicePick its.toArray lo hi none = ((its.drop (HT.sIx its.length 0 lo)).take (HT.sIx its.length its.length hi - HT.sIx its.length 0 lo)).toArray := by
  obtain ⟨h1, h2, h3⟩ := slice_bounds lo hi its.toArray.size
  unfold slicePick
  rw [h1, h2, h3]
  simp only [sliceRange_one, pick_run, List.size_toArray] <;> rfl
/-- xs[lo:hi] of a list: a new list -/
def rSlL (K : PySem.W.Frag) : V → Option Int → Option Int → Hp → VK → Prop := fun x lo hi H Q => ∃ a xs, x = .ref a ∧ SqL K H a xs ∧ ∀ p, H p = none → Q (.ref p) (upd H p (.lst (cutV xs lo hi)))
theorem sl_list : SlR X (rSlL X.K) := by
  intro pins s σ H x v vl vu lo hi sl Q I rx hs pl pu h
  obtain ⟨a, xs, rfl, hx, q⟩ := h
  cases rx
  obtain ⟨its, r, ht, hz⟩ := I.list hx
  have hlen := r.length
  refine ⟨"list", _, slot_list_getitem.lookup, ht.isList.typeIs, ?_⟩
  refine wpAny_getItem_list_slice ht.isList hs pl pu .none (by simp) ?_ (by rw [List.size_toArray] <;> omega)
  rw [slicePick_cut, ← hlen]
  refine ⟨.ref s.heap.objs.size, _, I.laid (t' := s.toks) (o := .lst (cutV xs lo hi)) (fun b ob q => Heap.get?_push_of_some _ q) (Nat.le_refl _) ?_, rfl, q _ (I.hok.fresh (Nat.le_refl _))⟩
  exact ⟨Nat.le_trans (cutV_length xs lo hi) hz, _, 0, (r.drop (HT.sIx xs.length 0 lo)).take (HT.sIx xs.length xs.length hi - HT.sIx xs.length 0 lo), Heap.get?_push_size _ rfl⟩
theorem call_len_seq : CallR X (.builtin "len") (fun xs H Q => ∃ p ys, xs = [.ref p] ∧ (SqL X.K H p ys ∨ SqT X.K H p ys) ∧ Q (.int ys.length) H) := by
  intro pins s σ H xs us Q I r h
  obtain ⟨p, ys, rfl, hq, q⟩ := h
  obtain ⟨u, rfl, rx⟩ := vals1 r
  cases rx
  have hn := line63
  rcases hq with hq | hq
  · obtain ⟨its, r', pl, hz⟩ := I.list hq
    have hlen := r'.length
    exact Calls.call_len_list pl.isList (by simp only [List.size_toArray] <;> omega) ⟨.int ys.length, H, I.tok _, ⟨s.toks + 1, by rw [List.size_toArray, hlen]⟩, q⟩
  · obtain ⟨its, r', pl, hz⟩ := I.tuple hq
    have hlen := r'.length
    exact len_tuple pl (by simp only [List.size_toArray] <;> omega) ⟨.int ys.length, H, I.tok _, ⟨s.toks + 1, by rw [List.size_toArray, hlen]⟩, q⟩
/-- the value is of that builtin type -/
def tyV (K : PySem.W.Frag) (T : String) (x : V) (H : Hp) : Prop := match x with
  | .str _ => T = "str"
  | .int _ => T = "int"
  | .ref p => (T = "list" ∧ ∃ xs, SqL K H p xs) ∨ (T = "tuple" ∧ ∃ o, K.lookup p = some o ∧ o.cls = .type "tuple" ∧ o.dict = none) ∨
      (T = "dict" ∧ ((∃ kvs, H p = some (.dK kvs)) ∨ ∃ kvs, H p = some (.dT kvs))) ∨ (T = "set" ∧ ∃ S n, H p = some (.set S n))
  | _ => False
theorem tyV_is {pins : List (Addr × Obj)} {σ : St} {H : Hp} {s : Shared} {T : String} {x : V} {v : Value} (I : Inv X pins σ H s) (r : RelV x v) (ty : tyV X.K T x H) :
    s.TypeIs v T ∧ ∀ a, v = .ref a → ∃ ob, s.heap.get? a = some ob ∧ ob.dict = none := by
  cases x with
  | str z =>
    obtain ⟨t, rfl⟩ := r
    cases (show T = "str" from ty)
    exact ⟨typeIs_str s z t, fun _ e => nomatch e⟩
  | int i =>
    obtain ⟨t, rfl⟩ := r
    cases (show T = "int" from ty)
    exact ⟨typeIs_int s i t, fun _ e => nomatch e⟩
  | ref p =>
    cases r
    rcases ty with ⟨rfl, xs, hq⟩ | ⟨rfl, o, hk, hc, hd⟩ | ⟨rfl, hk⟩ | ⟨rfl, S, n, hk⟩
    · obtain ⟨its, _, pl, _⟩ := I.list hq
      refine ⟨pl.isList.typeIs, fun a e => ?_⟩
      cases e
      obtain ⟨o, n, e, c, hd, _⟩ := pl
      exact ⟨o, e, hd⟩
    · refine ⟨⟨o, I.kIn p o hk, hc⟩, fun a e => ?_⟩
      cases e
      exact ⟨o, I.kIn _ o hk, hd⟩
    · have z : ∃ o, s.heap.get? p = some o ∧ o.ExactDict := by
        rcases hk with ⟨kvs, hk⟩ | ⟨kvs, hk⟩
        · obtain ⟨_, _, _, _, o, _, _, e, ex, _⟩ := I.hok p _ hk
          exact ⟨o, e, ex⟩
        · obtain ⟨_, _, _, _, o, _, _, e, ex, _⟩ := I.hok p _ hk
          exact ⟨o, e, ex⟩
      obtain ⟨o, e, ex⟩ := z
      refine ⟨⟨o, e, ex.1⟩, fun a e2 => ?_⟩
      cases e2
      exact ⟨o, e, ex.2.1⟩
    · obtain ⟨o, _, _, _, e, ex, _⟩ := I.hok p _ hk
      refine ⟨⟨o, e, ex.1⟩, fun a e2 => ?_⟩
      cases e2
      exact ⟨o, e, ex.2.1⟩
  | _ => exact False.elim ty
def tBM (K : PySem.W.Frag) (T : String) (r : V → List V → Hp → VK → Prop) (to : TE) (t : TA) : TE := fun σ H Q => to σ H fun x H1 => tyV K T x H1 ∧ t σ H1 fun xs H2 => r x xs H2 Q
variable {o e : Expr} {es : List Expr} {to : TE} {t : TA} {name : Str} {apos cpos : Pos} {T id : String} {r : V → List V → Hp → VK → Prop}
theorem pe_bm (pa : PlainAttrs T) (slot : Slot T name id) (hty : typeOf (.builtin id) = pure (.type "method_descriptor")) (hm : MtR X id r) (ho : PE X o to) (ha : PA X (e :: es) t)
    (hbase : attributeBase o name X.env (eval o X.env) = eval o X.env := by rfl)
    (hfew : ((backTo cpos (starEach (e :: es) X.env)).all (fun x => !x.1) && (backToKw cpos (keywordEach [] X.env)).all (fun x => x.1.isSome)
      && decide ((e :: es).length + ([] : List Keyword).length + (if ([] : List Keyword).isEmpty then 0 else 1) < 30)) = true := by rfl)
    (hline : (apos.endLine == cpos.line) = true := by rfl) (hs : starEach (e :: es) X.env = (false, eval e X.env) :: starEach es X.env := by rfl) (hplain : (backTo cpos (starEach es X.env)).any (·.1) = false := by rfl) :
    PE X (.Call (.Attribute o name apos) (e :: es) [] cpos) (tBM X.K T r to t) := by
  intro pins s σ H Q I h
  refine wpAny_Call_method_late hbase hfew hline rfl (thn (ho pins s σ H _ I h) fun v s1 ⟨x, H1, I1, r1, ty, q1⟩ => ?_)
  obtain ⟨h1, h2⟩ := tyV_is I1 r1 ty
  refine ⟨T, id, pa, slot, hty, h1, h2, ?_⟩
  have hA := ha cpos pins s1 σ H1 _ I1 q1
  rw [hs] at hA ⊢
  refine Calls.callWith_builtin (by show (false || (backTo cpos (starEach es X.env)).any (·.1)) = false; rw [hplain] <;> rfl) (Calls.evalArgs_plain ?_)
  exact thn hA fun us s2 ⟨vs, H2, I2, r2, q2⟩ => hm pins s2 σ H2 x vs v us Q I2 r1 r2 q2
end
end L2
namespace L2
open PySem PySem.Spec PyProof.Rows
def MtM (X : Cx) (id : String) (r : V → List V → Hp → VK → Prop) : Prop :=
  ∀ (pins : List (Addr × Obj)) (s : Shared) (σ : St) (H : Hp) (x : V) (xs : List V) (v : Value) (us : List Value) (Q : VK), Inv X pins σ H s → RelV x v → Vals xs us → r x xs H Q →
    wpAny (model X.prog X.w) X.A (call (.builtin id) (v :: us)) (EP X pins σ Q) X.xe s
theorem Vals.one : ∀ {x : V} {us : List Value}, Vals [x] us → ∃ u, us = [u] ∧ RelV x u
  | _, _, .cons r .nil => ⟨_, rfl, r⟩
theorem Vals.eraseIdx : ∀ {xs : List V} {us : List Value} (i : Nat), Vals xs us → Vals (xs.eraseIdx i) (us.eraseIdx i)
  | _, _, _, .nil => .nil
  | _, _, 0, .cons _ t => t
  | _, _, i + 1, .cons r t => .cons r (Vals.eraseIdx i t)
theorem len_erase {α : Type} : ∀ (l : List α) (i : Nat), (l.eraseIdx i).length ≤ l.length
  | [], _ => Nat.le_refl _
  | _ :: _, 0 => Nat.le_succ _
  | _ :: r, i + 1 => Nat.succ_le_succ (len_erase r i)
section
variable {X : Cx} {pins : List (Addr × Obj)} {σ : St} {H : Hp} {s : Shared} {l b : Addr} {xs ys zs : List V}
theorem Inv.lset {its its' : List Value} {n : Nat} {f : Array Value → Array Value} {t' : Nat} (I : Inv X pins σ H s) (hH : H l = some (.lst xs))
    (e : s.heap.get? l = some { cls := .type "list", data := .seq its.toArray n }) (hf : f its.toArray = its'.toArray) (hv : Vals ys its') (hz : ys.length ≤ sizeLine) :
    Inv X pins σ (upd H l (.lst ys)) { s with heap := s.heap.update l (Obj.mapSeq f), toks := t' } := by
  have q := PySem.IsL.update e f
  rw [hf] at q
  refine I.write (x := l) (e := l) (by rw [hH]; exact trivial) (.inl rfl) (fun b' u hb hu => (Heap.get?_update_other s.heap (Obj.mapSeq f) (Ne.symm hb)).trans hu) ⟨_, q⟩ ?_
  exact ⟨hz, its', _, hv, q⟩
theorem Inv.lnew {its : List Value} {t' : Nat} (I : Inv X pins σ H s) (hv : Vals ys its) (hz : ys.length ≤ sizeLine) :
    Inv X pins σ (upd H s.heap.objs.size (.lst ys)) { s with heap := s.heap.push { cls := .type "list", data := .seq its.toArray }, toks := t' } :=
  I.laid (fun _ _ q => Heap.get?_push_of_some _ q) (Nat.le_refl _) ⟨hz, its, 0, hv, Heap.get?_push_size _ rfl⟩
theorem Inv.fresh (I : Inv X pins σ H s) : H s.heap.objs.size = none := I.hok.fresh (Nat.le_refl _)
theorem Inv.lstM (I : Inv X pins σ H s) (hH : H l = some (.lst xs)) : xs.length ≤ sizeLine ∧ ∃ (its : List Value) (n : Nat), Vals xs its ∧ xs.length = its.length ∧ s.heap.get? l = some { cls := .type "list", data := .seq its.toArray n } := by
  obtain ⟨z, its, n, r, e⟩ := I.hok l _ hH
  exact ⟨z, its, n, r, r.length, e⟩
theorem notLongL {n : Nat} (h : n ≤ sizeLine) : Builtin.List.listTooLong n = false := by
  unfold Builtin.List.listTooLong
  exact decide_eq_false (by omega)
end
section
variable {X : Cx}
def rAppend : V → List V → Hp → VK → Prop := fun x vs H Q => ∃ l xs y, x = .ref l ∧ vs = [y] ∧ H l = some (.lst xs) ∧ xs.length < sizeLine ∧ Q .non (upd H l (.lst (xs ++ [y])))
theorem mt_append : MtM X "list.append" rAppend := by
  intro pins s σ H x vs v us Q I rx rv h
  obtain ⟨l, xs, y, rfl, rfl, hH, hz, q⟩ := h
  cases rx
  obtain ⟨u, rfl, ru⟩ := rv.one
  obtain ⟨z, its, n, r, hl, e⟩ := I.lstM hH
  refine call_meets F.slot_list_append ⟨_, e, rfl⟩ F.entry_list_append (F.args_list_append_2 _ _) (PySem.list_append l its.toArray n u (by rw [List.size_toArray]; omega)) ⟨e, ?_⟩
  refine ⟨.non, _, I.lset (its' := its ++ [u]) hH e (by simp) (r.append (.cons ru .nil)) ?_, rfl, q⟩
  rw [List.length_append, List.length_singleton]
  omega
def rExtend : V → List V → Hp → VK → Prop := fun x vs H Q => ∃ l b xs zs, x = .ref l ∧ vs = [.ref b] ∧ H l = some (.lst xs) ∧ H b = some (.lst zs) ∧ xs.length + zs.length ≤ sizeLine ∧ Q .non (upd H l (.lst (xs ++ zs)))
theorem mt_extend : MtM X "list.extend" rExtend := by
  intro pins s σ H x vs v us Q I rx rv h
  obtain ⟨l, b, xs, zs, rfl, rfl, hH, hB, hz, q⟩ := h
  cases rx
  obtain ⟨u, rfl, ru⟩ := rv.one
  cases ru
  obtain ⟨z, its, n, r, hl, e⟩ := I.lstM hH
  obtain ⟨z2, its2, n2, r2, hl2, e2⟩ := I.lstM hB
  have hsz : its.toArray.size + its2.toArray.size ≤ sizeLine := by rw [List.size_toArray, List.size_toArray]; omega
  have hlong : ¬ (!its.toArray.isEmpty && Builtin.List.listTooLong (its.toArray.size + its2.toArray.size)) = true := by
    rw [notLongL hsz, Bool.and_false]
    exact Bool.false_ne_true
  refine call_meets F.slot_list_extend ⟨_, e, rfl⟩ F.entry_list_extend (F.args_list_extend_2 _ _)
    (AutoSeq1.list_extend_list_list_0 l its.toArray n b its2.toArray n2 hlong (by rw [List.size_toArray]; omega) (by omega)) ⟨e, e2, ?_⟩
  refine ⟨.non, _, I.lset (its' := its ++ its2) hH e (by simp) (r.append r2) ?_, rfl, q⟩
  rw [List.length_append]
  omega
def rPopAt : V → List V → Hp → VK → Prop := fun x vs H Q => ∃ l xs i k y, x = .ref l ∧ vs = [.int i] ∧ H l = some (.lst xs) ∧ -(2 ^ 63) ≤ i ∧ i < 2 ^ 63 ∧ seqIndex? i xs.length = some k ∧ xs[k]? = some y ∧ Q y (upd H l (.lst (xs.eraseIdx k)))
theorem mt_popAt : MtM X "list.pop" rPopAt := by
  intro pins s σ H x vs v us Q I rx rv h
  obtain ⟨l, xs, i, k, y, rfl, rfl, hH, h1, h2, hk, hy, q⟩ := h
  cases rx
  obtain ⟨u, rfl, ru⟩ := rv.one
  obtain ⟨t, rfl⟩ := ru
  obtain ⟨z, its, n, r, hl, e⟩ := I.lstM hH
  obtain ⟨w, hw, rw'⟩ := r.get hy
  refine call_meets F.slot_list_pop ⟨_, e, rfl⟩ F.entry_list_pop (F.args_list_pop_2 _ _)
    (MeetsSeq.list_pop_at l its.toArray n i t k w (fitsIndex_both h1 h2) (by rw [List.size_toArray, ← hl]; exact hk) (by rw [← Array.getElem?_toList]; exact hw) (by rw [List.size_toArray]; omega)) ⟨e, ?_⟩
  refine ⟨y, _, I.lset (its' := its.eraseIdx k) hH e ?_ (r.eraseIdx k) ?_, rw', q⟩
  · show its.toArray.eraseIdxIfInBounds k = (its.eraseIdx k).toArray
    rw [List.eraseIdxIfInBounds_toArray]
  · have := len_erase xs k
    omega
def rCat : R2 := fun x y H Q => ∃ l b xs zs, x = .ref l ∧ y = .ref b ∧ H l = some (.lst xs) ∧ H b = some (.lst zs) ∧ xs.length + zs.length ≤ sizeLine ∧ ∀ p, H p = none → Q (.ref p) (upd H p (.lst (xs ++ zs)))
theorem op_cat : OpR X (binaryOp .Add) rCat := by
  intro pins s σ H x y v u Q I rx ry h
  obtain ⟨l, b, xs, zs, rfl, rfl, hH, hB, hz, q⟩ := h
  cases rx
  cases ry
  obtain ⟨z, its, n, r, hl, e⟩ := I.lstM hH
  obtain ⟨z2, its2, n2, r2, hl2, e2⟩ := I.lstM hB
  refine PySem.P.add_list e e2 ?_ (by rw [List.size_toArray, List.size_toArray]; omega)
  have ea : its.toArray ++ its2.toArray = (its ++ its2).toArray := by simp
  rw [ea]
  exact ⟨.ref _, _, I.lnew (t' := s.toks) (r.append r2) (by rw [List.length_append]; omega), rfl, q _ I.fresh⟩
end
section
variable {prog : Program} {w : World} {A : Around} {E : Value → Shared → Prop} {s : Shared}
set_option maxRecDepth 100000 in
end
section
variable {X : Cx}
end
end L2
namespace L2
open PySem PySem.Spec PyProof.Rows
theorem Vals.ints : ∀ {ns : List Int} {us : List Value}, Vals (ns.map V.int) us → IntsAre us ns
  | [], us, h => by
    rw [List.map_nil] at h
    cases h
    exact IntsAre.nil
  | n :: ns, us, h => by
    rw [List.map_cons] at h
    cases h with
    | cons r t =>
      obtain ⟨k, rfl⟩ := r
      exact IntsAre.cons n k (Vals.ints t)
theorem Vals.ref1 {a : Addr} {us : List Value} (r : Vals [V.ref a] us) : us = [Value.ref a] := by
  cases r with
  | cons r t =>
    cases t
    cases r
    rfl
section
variable {prog : Program} {w : World} {A : Around} {E : Value → Shared → Prop} {s : Shared} {l : Addr} {its : List Value} {ns : List Int} {Q : Value → Shared → Prop}
theorem sum_raw (hh : A.handled = none) (hl : s.heap.IsList l its.toArray) (hi : IntsAre its ns)
    (h : ∀ h' tk t', (∀ b o, s.heap.get? b = some o → h'.get? b = some o) → Q (.int ns.sum t') { s with heap := h', toks := tk }) : wpAny (model prog w) A (call (.builtin "sum") [.ref l]) Q E s := by
  obtain ⟨xs, e⟩ := hi.allInts.items
  have hn : numsOf (intItems xs).toList = ns := by rw [← e]; exact hi.numsOf
  rw [nums_intItems] at hn
  rw [e] at hl
  refine PySem.sum_intListG hh hl fun h' tk t' hk => ?_
  have := h h' tk t' hk
  rw [preSum_eq, List.take_of_length_le (by simp), hn]; exact this
theorem max_raw (hh : A.handled = none) (hl : s.heap.IsList l its.toArray) (hi : IntsAre its ns) (hne : 0 < ns.length)
    (h : ∀ h' tk M t', (∀ b o, s.heap.get? b = some o → h'.get? b = some o) → M ∈ ns → (∀ a, a ∈ ns → a ≤ M) → Q (.int M t') { s with heap := h', toks := tk }) : wpAny (model prog w) A (call (.builtin "max") [.ref l]) Q E s := by
  obtain ⟨xs, e⟩ := hi.allInts.items
  have hn : numsOf (intItems xs).toList = ns := by rw [← e]; exact hi.numsOf
  rw [nums_intItems] at hn
  subst hn
  rw [e] at hl
  have hsz : 0 < xs.size := by simpa using hne
  refine PySem.max_intList hh hl hsz fun v h' tk hv hk => ?_
  obtain ⟨t, rfl⟩ := intItems_at hv
  obtain ⟨h1, h2⟩ := argBest_gt (numAt xs) (xs.size - 1)
  refine h h' tk _ t hk ?_ fun a ha => ?_
  · rw [numAt_eq]; exact PySem.getD_mem (by rw [List.length_map, Array.length_toList]; omega)
  · obtain ⟨j, hj, rfl⟩ := mem_getD ha
    rw [List.length_map, Array.length_toList] at hj
    rw [← numAt_eq]; exact h2 j (by omega)
theorem min_raw (hh : A.handled = none) (hl : s.heap.IsList l its.toArray) (hi : IntsAre its ns) (hne : 0 < ns.length)
    (h : ∀ h' tk M t', (∀ b o, s.heap.get? b = some o → h'.get? b = some o) → M ∈ ns → (∀ a, a ∈ ns → M ≤ a) → Q (.int M t') { s with heap := h', toks := tk }) : wpAny (model prog w) A (call (.builtin "min") [.ref l]) Q E s := by
  obtain ⟨xs, e⟩ := hi.allInts.items
  have hn : numsOf (intItems xs).toList = ns := by rw [← e]; exact hi.numsOf
  rw [nums_intItems] at hn
  subst hn
  rw [e] at hl
  have hsz : 0 < xs.size := by simpa using hne
  refine PySem.min_intList hh hl hsz fun v h' tk hv hk => ?_
  obtain ⟨t, rfl⟩ := intItems_at hv
  obtain ⟨h1, h2⟩ := argBest_lt (numAt xs) (xs.size - 1)
  refine h h' tk _ t hk ?_ fun a ha => ?_
  · rw [numAt_eq]; exact PySem.getD_mem (by rw [List.length_map, Array.length_toList]; omega)
  · obtain ⟨j, hj, rfl⟩ := mem_getD ha
    rw [List.length_map, Array.length_toList] at hj
    rw [← numAt_eq]; exact h2 j (by omega)
end
section
variable {X : Cx}
/-- sum(xs) of a list of ints -/
def rSum (K : PySem.W.Frag) : List V → Hp → VK → Prop := fun vs H Q => ∃ (a : Addr) (ns : List Int), vs = [V.ref a] ∧ SqL K H a (ns.map V.int) ∧ Q (.int ns.sum) H
/-- max(xs), min(xs) of a list of ints -/
def rMax (K : PySem.W.Frag) : List V → Hp → VK → Prop := fun vs H Q => ∃ (a : Addr) (ns : List Int), vs = [V.ref a] ∧ SqL K H a (ns.map V.int) ∧ 0 < ns.length ∧ ∀ m, m ∈ ns → (∀ y, y ∈ ns → y ≤ m) → Q (.int m) H
def rMin (K : PySem.W.Frag) : List V → Hp → VK → Prop := fun vs H Q => ∃ (a : Addr) (ns : List Int), vs = [V.ref a] ∧ SqL K H a (ns.map V.int) ∧ 0 < ns.length ∧ ∀ m, m ∈ ns → (∀ y, y ∈ ns → m ≤ y) → Q (.int m) H
theorem cr_sum (hc : X.calm = true) : CallR X (.builtin "sum") (rSum X.K) := by
  intro pins s σ H vs us Q I r h
  obtain ⟨a, ns, rfl, hs, q⟩ := h
  obtain ⟨its, rv, hl, _⟩ := I.list hs
  rw [Vals.ref1 r]
  exact sum_raw (I.ok.hd hc) hl.isList rv.ints fun h' tk t' hk => ⟨.int _, H, I.kept hk, ⟨_, rfl⟩, q⟩
theorem cr_max (hc : X.calm = true) : CallR X (.builtin "max") (rMax X.K) := by
  intro pins s σ H vs us Q I r h
  obtain ⟨a, ns, rfl, hs, hne, q⟩ := h
  obtain ⟨its, rv, hl, _⟩ := I.list hs
  rw [Vals.ref1 r]
  exact max_raw (I.ok.hd hc) hl.isList rv.ints hne fun h' tk m t' hk h1 h2 => ⟨.int _, H, I.kept hk, ⟨_, rfl⟩, q m h1 h2⟩
theorem cr_min (hc : X.calm = true) : CallR X (.builtin "min") (rMin X.K) := by
  intro pins s σ H vs us Q I r h
  obtain ⟨a, ns, rfl, hs, hne, q⟩ := h
  obtain ⟨its, rv, hl, _⟩ := I.list hs
  rw [Vals.ref1 r]
  exact min_raw (I.ok.hd hc) hl.isList rv.ints hne fun h' tk m t' hk h1 h2 => ⟨.int _, H, I.kept hk, ⟨_, rfl⟩, q m h1 h2⟩
end
section
variable {X : Cx}
end
section
variable {X : Cx}
end
section
variable {X : Cx}
end
mutual
inductive Dp (K : PySem.W.Frag) (H : Hp) : V → PyData → Prop
  | non : Dp K H .non .none
  | bl (b : Bool) : Dp K H (.bl b) (.bool b)
  | int (i : Int) : Dp K H (.int i) (.int i)
  | str (x : Str) : Dp K H (.str x) (.str x)
  | lst {a : Addr} {xs : List V} {ds : List PyData} : SqL K H a xs → DpAll K H xs ds → Dp K H (.ref a) (.list ds)
  | tup {a : Addr} {xs : List V} {ds : List PyData} : SqT K H a xs → DpAll K H xs ds → Dp K H (.ref a) (.tuple ds)
inductive DpAll (K : PySem.W.Frag) (H : Hp) : List V → List PyData → Prop
  | nil : DpAll K H [] []
  | cons {v : V} {vs : List V} {d : PyData} {ds : List PyData} : Dp K H v d → DpAll K H vs ds → DpAll K H (v :: vs) (d :: ds)
end
section
variable {X : Cx} {pins : List (Addr × Obj)} {σ : St} {H : Hp} {s : Shared}
mutual
theorem Dp.reads (I : Inv X pins σ H s) : ∀ (d : PyData) (v : V) (u : Value), Dp X.K H v d → RelV v u → ∃ as, Reads s.heap u d as
  | .none, _, _, h, r => by
    cases h
    cases r
    exact ⟨_, Reads.none⟩
  | .bool b, _, _, h, r => by
    cases h
    cases r
    exact ⟨_, Reads.bool b⟩
  | .int i, _, _, h, r => by
    cases h
    obtain ⟨t, rfl⟩ := r
    exact ⟨_, Reads.int i t⟩
  | .str x, _, _, h, r => by
    cases h
    obtain ⟨t, rfl⟩ := r
    exact ⟨_, Reads.str x t⟩
  | .list ds, _, _, h, r => by
    cases h with
    | lst hs ha =>
      cases r
      obtain ⟨its, rv, ⟨o, n, ho, hc, _, hd⟩, _⟩ := I.list hs
      obtain ⟨as, hr⟩ := Dp.readsAll I ds _ its ha rv
      exact ⟨_, Reads.list ho hc hd hr⟩
  | .tuple ds, _, _, h, r => by
    cases h with
    | tup hs ha =>
      cases r
      obtain ⟨its, rv, ⟨o, ho, hc, n, hd⟩, _⟩ := I.tuple hs
      obtain ⟨as, hr⟩ := Dp.readsAll I ds _ its ha rv
      exact ⟨_, Reads.tuple ho hc hd hr⟩
  | .dict _, _, _, h, _ => by cases h
theorem Dp.readsAll (I : Inv X pins σ H s) : ∀ (ds : List PyData) (vs : List V) (us : List Value), DpAll X.K H vs ds → Vals vs us → ∃ as, ReadsAll s.heap us ds as
  | [], _, _, h, r => by
    cases h
    cases r
    exact ⟨_, ReadsAll.nil⟩
  | d :: ds, _, _, h, r => by
    cases h with
    | cons h1 h2 =>
      cases r with
      | cons r1 r2 =>
        obtain ⟨as, q1⟩ := Dp.reads I d _ _ h1 r1
        obtain ⟨bs, q2⟩ := Dp.readsAll I ds _ _ h2 r2
        exact ⟨_, ReadsAll.cons q1 q2⟩
end
end
section
variable {X : Cx}
def rNeD (K : PySem.W.Frag) : R2 := fun x y H Q => ∃ d e, Dp K H x d ∧ Dp K H y e ∧ SeqAt.shaped d = true ∧ SeqAt.shaped e = true ∧ Q (.bl (!PyData.eqv d e)) H
theorem op_neD (hu : X.A.units + 64 < cLine) : OpR X (compareOp .NotEq) (rNeD X.K) := by
  intro pins s σ H x y v u Q I rx ry h
  obtain ⟨d, e, hd, he, sd, se, q⟩ := h
  obtain ⟨as, r1⟩ := Dp.reads I d x v hd rx
  obtain ⟨bs, r2⟩ := Dp.reads I e y u he ry
  exact SeqAt.compareNe_shaped r1 r2 sd se hu ⟨.bl _, H, I, rfl, q⟩
end
end L2
namespace L2
open PySem PySem.Spec PyProof.Rows
abbrev CellAt (h : Heap) (c : Addr) (v : Option Value) : Prop := h.IsCell c v
def relS (scope sc : Scope) : Scope :=
  { scope with names := scope.names.map fun (n, k) => if (k == .free && sc.kind == .function && sc.names.lookup n == some .cell) then (n, .cell) else (n, k) }
def cloFrom (cells : List (Str × Addr)) : List (Str × NameKind) → List (Str × Addr) → List (Str × Addr)
  | [], acc => acc
  | (n, k) :: r, acc => if k == .free then cloFrom cells r ((n, (cells.lookup n).getD 0) :: acc) else cloFrom cells r acc
theorem closure_loop (env : Env) (f : Str × NameKind → List (Str × Addr) → Sem (ForInStep (List (Str × Addr))))
    (hf : ∀ n k c, f (n, k) c = if k == .free then (do let a ← cellOf env n; pure (.yield ((n, a) :: c))) else pure (.yield c)) :
    ∀ (names : List (Str × NameKind)) (acc : List (Str × Addr)), (∀ y ∈ names, y.2 = .free → ∃ c, env.cells.lookup y.1 = some c) → forIn names acc f = pure (cloFrom env.cells names acc)
  | [], acc, _ => by rw [List.forIn_nil]; rfl
  | (n, k) :: r, acc, h => by
    rw [List.forIn_cons, hf]
    have ih := fun acc => closure_loop env f hf r acc fun y hy => h y (List.mem_cons_of_mem _ hy)
    unfold cloFrom
    by_cases hk : (k == NameKind.free) = true
    · rw [if_pos hk, if_pos hk]
      obtain ⟨c, hc⟩ := h (n, k) List.mem_cons_self (by simpa using hk)
      have e : cellOf env n = pure c := by unfold cellOf; rw [hc]
      rw [e]
      have e2 : (env.cells.lookup n).getD 0 = c := by rw [hc]; rfl
      rw [e2]
      exact ih _
    · rw [if_neg hk, if_neg hk]
      exact ih _
theorem closure_ok {scope : Scope} {env : Env} (h : ∀ y ∈ scope.names, y.2 = .free → ∃ c, env.cells.lookup y.1 = some c) : closureFor scope env = pure (cloFrom env.cells scope.names []) := by
  simp only [closureFor]
  rw [closure_loop env _ (fun n k c => rfl) scope.names [] h]
  rfl
theorem mem_lookup {α : Type} : ∀ {l : List (Str × α)} {n : Str} {c : α}, (n, c) ∈ l → ∃ c', l.lookup n = some c'
  | (k, v) :: r, n, c, h => by
    rw [List.lookup_cons]
    cases hb : n == k with
    | true => exact ⟨_, rfl⟩
    | false =>
      rcases List.mem_cons.mp h with e | h
      · cases e; simp at hb
      · exact mem_lookup h
theorem cloFrom_mem {cells : List (Str × Addr)} : ∀ {names : List (Str × NameKind)} {acc : List (Str × Addr)} {n : Str} {c : Addr}, (n, c) ∈ cloFrom cells names acc → (n, c) ∈ acc ∨ ((n, .free) ∈ names ∧ c = (cells.lookup n).getD 0)
  | [], _, _, _, h => .inl h
  | (m, k) :: r, acc, n, c, h => by
    unfold cloFrom at h
    split at h
    · rename_i hk
      have hk : k = .free := by simpa using hk
      rcases cloFrom_mem h with h | ⟨h1, h2⟩
      · rcases List.mem_cons.mp h with e | h
        · cases e; exact .inr ⟨hk ▸ List.mem_cons_self, rfl⟩
        · exact .inl h
      · exact .inr ⟨List.mem_cons_of_mem _ h1, h2⟩
    · rcases cloFrom_mem h with h | ⟨h1, h2⟩
      · exact .inl h
      · exact .inr ⟨List.mem_cons_of_mem _ h1, h2⟩
theorem cloFrom_acc {cells : List (Str × Addr)} : ∀ {names : List (Str × NameKind)} {acc : List (Str × Addr)} {p : Str × Addr}, p ∈ acc → p ∈ cloFrom cells names acc
  | [], _, _, h => h
  | (m, k) :: r, acc, p, h => by
    unfold cloFrom
    split
    · exact cloFrom_acc (List.mem_cons_of_mem _ h)
    · exact cloFrom_acc h
theorem cloFrom_has {cells : List (Str × Addr)} : ∀ {names : List (Str × NameKind)} {acc : List (Str × Addr)} {n : Str}, (n, .free) ∈ names → (n, (cells.lookup n).getD 0) ∈ cloFrom cells names acc
  | (m, k) :: r, acc, n, h => by
    unfold cloFrom
    rcases List.mem_cons.mp h with e | h
    · cases e
      exact cloFrom_acc List.mem_cons_self
    · split
      · exact cloFrom_has h
      · exact cloFrom_has h
theorem cells_mem : ∀ {names : List (Str × NameKind)} {h : Heap} {acc : List (Str × Addr)} {x : Str} {c : Addr}, (x, c) ∈ cellsFrom h.objs.size names acc →
    (x, c) ∈ acc ∨ ((x, .cell) ∈ names ∧ h.objs.size ≤ c ∧ CellAt (pushCells h names) c none)
  | [], _, _, _, _, h => .inl h
  | (n, k) :: r, h, acc, x, c, hm => by
    unfold cellsFrom at hm
    unfold pushCells
    split at hm
    · rename_i hk
      rw [if_pos hk]
      have hk : k = .cell := by simpa using hk
      rw [← Heap.size_push h { cls := .type "cell", data := .cell none }] at hm
      rcases cells_mem hm with hm | ⟨h1, h2, h3⟩
      · rcases List.mem_cons.mp hm with e | hm
        · cases e
          exact .inr ⟨hk ▸ List.mem_cons_self, Nat.le_refl _, _, pushCells_keeps r _ _ _ (Heap.get?_push_size _ rfl), rfl⟩
        · exact .inl hm
      · rw [Heap.size_push] at h2
        exact .inr ⟨List.mem_cons_of_mem _ h1, Nat.le_of_succ_le h2, h3⟩
    · rename_i hk
      rw [if_neg hk]
      rcases cells_mem hm with hm | ⟨h1, h2, h3⟩
      · exact .inl hm
      · exact .inr ⟨List.mem_cons_of_mem _ h1, h2, h3⟩
theorem cells_acc : ∀ {names : List (Str × NameKind)} {n : Nat} {acc : List (Str × Addr)} {p : Str × Addr}, p ∈ acc → p ∈ cellsFrom n names acc
  | [], _, _, _, h => h
  | (m, k) :: r, n, acc, p, h => by
    unfold cellsFrom
    split
    · exact cells_acc (List.mem_cons_of_mem _ h)
    · exact cells_acc h
theorem cells_has : ∀ {names : List (Str × NameKind)} {n : Nat} {acc : List (Str × Addr)} {x : Str}, (x, .cell) ∈ names → ∃ c, (x, c) ∈ cellsFrom n names acc
  | (m, k) :: r, n, acc, x, h => by
    unfold cellsFrom
    rcases List.mem_cons.mp h with e | h
    · cases e
      exact ⟨n, cells_acc List.mem_cons_self⟩
    · split
      · exact cells_has h
      · exact cells_has h
theorem cells_inj : ∀ {names : List (Str × NameKind)} {h : Heap} {acc : List (Str × Addr)} {x y : Str} {c : Addr}, (∀ p ∈ acc, p.2 < h.objs.size) → (∀ x y c, (x, c) ∈ acc → (y, c) ∈ acc → x = y) →
    (x, c) ∈ cellsFrom h.objs.size names acc → (y, c) ∈ cellsFrom h.objs.size names acc → x = y
  | [], _, _, _, _, _, _, hi, h1, h2 => hi _ _ _ h1 h2
  | (n, k) :: r, h, acc, x, y, c, hl, hi, h1, h2 => by
    unfold cellsFrom at h1 h2
    split at h1
    · rename_i hk
      rw [if_pos hk] at h2
      rw [← Heap.size_push h { cls := .type "cell", data := .cell none }] at h1 h2
      refine cells_inj (h := h.push _) (fun p hp => ?_) (fun x y c a b => ?_) h1 h2
      · rw [Heap.size_push]
        rcases List.mem_cons.mp hp with rfl | hp
        · exact Nat.lt_succ_self _
        · exact Nat.lt_succ_of_lt (hl p hp)
      · rcases List.mem_cons.mp a with e | a <;> rcases List.mem_cons.mp b with e' | b
        · cases e; cases e'; rfl
        · cases e; exact absurd (hl _ b) (Nat.lt_irrefl _)
        · cases e'; exact absurd (hl _ a) (Nat.lt_irrefl _)
        · exact hi _ _ _ a b
    · rename_i hk
      rw [if_neg hk] at h2
      exact cells_inj hl hi h1 h2
theorem newEnv_comp {M : Model} {A : Around} {E : Value → Shared → Prop} {s : Shared} {scope : Scope} {globals : Addr} {closure : List (Str × Addr)} {qual : Str} {func : Option Addr} {code : Value} {around : Env} {builtins : Addr} {Q : Env → Shared → Prop}
    (h : Q (newEnv scope s.heap.objs.size globals (cellsFrom (s.heap.objs.size + 1) scope.names closure) qual func code (some around) builtins)
      { s with heap := pushCells (s.heap.push { cls := .type "dict", data := .dict #[] }) scope.names }) :
    wpAny M A (newFunctionEnv scope globals closure [] qual func code (some around) builtins) Q E s := by
  simp only [newFunctionEnv, Option.isSome_some, if_true]
  refine wpAny_bind (wpAny_alloc ?_)
  refine wpAny_bind (wpAny_layCells _ (fun n k c => rfl) scope.names closure _ _ ?_)
  rw [show ({ s with heap := s.heap.push { cls := .type "dict", data := .dict #[] } } : Shared).heap.objs.size = s.heap.objs.size + 1 from Heap.size_push ..]
  rw [List.forIn_nil]
  exact wpAny_bind (wpAny_pure (wpAny_pure h))
/-- every name of the written scope, in the scope that runs -/
theorem lookup_relS {sc : Scope} : ∀ {names : List (Str × NameKind)} {x : Str} {k : NameKind},
    (names.map fun (n, k) => if (k == NameKind.free && sc.kind == .function && sc.names.lookup n == some .cell) then (n, NameKind.cell) else (n, k)).lookup x = some k →
    ∃ k', names.lookup x = some k' ∧ (k = k' ∨ (k' = .free ∧ k = .cell))
  | [], _, _, h => by simp at h
  | (n, k₀) :: r, x, k, h => by
    have ih := @lookup_relS sc r x k
    have h' : List.lookup x ((if (k₀ == NameKind.free && sc.kind == .function && sc.names.lookup n == some .cell) = true then (n, NameKind.cell) else (n, k₀)) :: (r.map _)) = some k := h
    cases hx : x == n with
    | true =>
      simp only [List.lookup_cons, hx]
      by_cases hc : (k₀ == NameKind.free && sc.kind == .function && sc.names.lookup n == some .cell) = true
      · rw [if_pos hc] at h'
        simp only [List.lookup_cons, hx] at h'
        cases h'
        simp only [Bool.and_eq_true, beq_iff_eq] at hc
        exact ⟨k₀, rfl, .inr ⟨hc.1.1, rfl⟩⟩
      · rw [if_neg hc] at h'
        simp only [List.lookup_cons, hx] at h'
        cases h'
        exact ⟨_, rfl, .inl rfl⟩
    | false =>
      simp only [List.lookup_cons, hx]
      by_cases hc : (k₀ == NameKind.free && sc.kind == .function && sc.names.lookup n == some .cell) = true
      · rw [if_pos hc] at h'
        simp only [List.lookup_cons, hx] at h'
        exact ih h'
      · rw [if_neg hc] at h'
        simp only [List.lookup_cons, hx] at h'
        exact ih h'
/-- the names of a comprehension's block: its own (with their places in N), or captured -/
structure BlkOk (N : List Str) (sc scope : Scope) (own : List (Str × Nat)) : Prop where
  kind : scope.kind = .function
  uniq : ∀ y ∈ scope.names, scope.names.lookup y.1 = some y.2
  ix : ∀ p ∈ own, N[p.2]? = some p.1
  free : ∀ y ∈ scope.names, y.2 = .free → sc.names.lookup y.1 = some .cell ∨ sc.names.lookup y.1 = some .free
  own : ∀ y ∈ scope.names, y.2 = .local ∨ y.2 = .cell → y.1 ∈ own.map (·.1) ∨ y.1 ∉ N
/-- the slots of the block's own names forgotten -/
def wipe (σ : St) : List Nat → St
  | [] => σ
  | v :: vs => (wipe σ vs).set v none
theorem wipe_length (σ : St) : ∀ vs : List Nat, (wipe σ vs).length = σ.length
  | [] => rfl
  | v :: vs => by unfold wipe; rw [List.length_set, wipe_length σ vs]
theorem wipe_some {σ : St} {i : Nat} {x : V} : ∀ {vs : List Nat}, (wipe σ vs)[i]? = some (some x) → σ[i]? = some (some x) ∧ i ∉ vs
  | [], h => ⟨h, by simp⟩
  | v :: vs, h => by
    unfold wipe at h
    by_cases hi : v = i
    · subst hi
      by_cases hv : v < (wipe σ vs).length
      · rw [List.getElem?_set_self hv] at h; cases h
      · rw [List.getElem?_eq_none (by simpa using hv)] at h; cases h
    · rw [List.getElem?_set_ne hi] at h
      obtain ⟨h1, h2⟩ := wipe_some h
      exact ⟨h1, by simp only [List.mem_cons, not_or]; exact ⟨fun e => hi e.symm, h2⟩⟩
/-- the context of a block that starts at s, its iterator's objects at fp -/
abbrev Cx.blk (X : Cx) (s : Shared) (H : Hp) (scope : Scope) (cenv : Env) (fp : List Addr) : Cx := { X with s_0 := s, H_0 := H, env := cenv, outer := X.stack, ex := fp, fn := fun x => scope.names.lookup x == some .cell, pn := [], xe := fun _ _ => False }
section
variable {X : Cx} {pins : List (Addr × Obj)} {σ : St} {H : Hp} {s : Shared}
theorem block_start {scope : Scope} {own : List (Str × Nat)} {fp : List Addr} (I : Inv X pins σ H s) (ok : BlkOk X.N X.env.scope scope own) (hN : X.N.Nodup) (hfp : ∀ b ∈ fp, FpOk X pins H b ∧ b < s.heap.objs.size) :
    Inv (X.blk s H scope (compEnvC scope (cellsFrom (s.heap.objs.size + 1) scope.names (cloFrom X.env.cells scope.names [])) s.heap.objs.size X.env) fp) [] (wipe σ (own.map (·.2))) H { s with heap := pushCells (s.heap.push { cls := .type "dict", data := .dict #[] }) scope.names } := by
  have hfree : ∀ y ∈ scope.names, y.2 = .free → ∃ c, X.env.cells.lookup y.1 = some c := fun y hy e => by
    rcases ok.free y hy e with k | k
    · exact I.ok.has _ (.inl k)
    · exact I.ok.has _ (.inr k)
  generalize hcenv : compEnvC scope (cellsFrom (s.heap.objs.size + 1) scope.names (cloFrom X.env.cells scope.names [])) s.heap.objs.size X.env = cenv
  have kp : ∀ b o, s.heap.get? b = some o → (pushCells (s.heap.push { cls := .type "dict", data := .dict #[] }) scope.names).get? b = some o := fun b o e => pushCells_keeps _ _ _ _ (Heap.get?_push_of_some _ e)
  have hL : cenv.locals = s.heap.objs.size := by rw [← hcenv]; rfl
  have hcl : cenv.cells = cellsFrom (s.heap.objs.size + 1) scope.names (cloFrom X.env.cells scope.names []) := by rw [← hcenv]; rfl
  have hsc : cenv.scope = relS scope X.env.scope := by rw [← hcenv]; rfl
  rw [← Heap.size_push s.heap { cls := .type "dict", data := .dict #[] }] at hcl
  have cm : ∀ {y c}, (y, c) ∈ cloFrom X.env.cells scope.names [] → X.env.cells.lookup y = some c ∧ c < s.heap.objs.size := fun {y c} hm => by
    rcases cloFrom_mem hm with hm | ⟨h1, rfl⟩
    · cases hm
    · obtain ⟨c, hc⟩ := hfree _ h1 rfl
      rw [hc]
      obtain ⟨w, z⟩ := I.cell _ _ hc
      exact ⟨rfl, z.lt⟩
  have mem : ∀ {y c}, cenv.cells.lookup y = some c → (X.env.cells.lookup y = some c ∧ c < s.heap.objs.size) ∨ (s.heap.objs.size + 1 ≤ c ∧ CellAt (pushCells (s.heap.push { cls := .type "dict", data := .dict #[] }) scope.names) c none) := fun {y c} e => by
    rw [hcl] at e
    rcases cells_mem (PySem.mem_of_lookup e) with hm | ⟨_, h2, h3⟩
    · exact .inl (cm hm)
    · rw [Heap.size_push] at h2; exact .inr ⟨h2, h3⟩
  have look : ∀ {y}, scope.names.lookup y = some .free → ∃ c, cenv.cells.lookup y = some c ∧ X.env.cells.lookup y = some c := fun {y} hl => by
    have hy : (y, NameKind.free) ∈ scope.names := PySem.mem_of_lookup hl
    obtain ⟨c', e'⟩ := mem_lookup (cells_acc (names := scope.names) (n := (s.heap.push { cls := .type "dict", data := .dict #[] }).objs.size) (cloFrom_has (cells := X.env.cells) (acc := []) hy))
    rw [← hcl] at e'
    refine ⟨c', e', ?_⟩
    rw [hcl] at e'
    rcases cells_mem (PySem.mem_of_lookup e') with hm | ⟨h1, _, _⟩
    · exact (cm hm).1
    · have := ok.uniq _ h1
      rw [hl] at this; cases this
  have okB : (X.blk s H scope cenv fp).Ok := by
    refine ⟨I.ok.mod, by show cenv.scope.kind = _; rw [hsc]; exact ok.kind, by show cenv.globals = _; rw [← hcenv]; exact I.ok.glob, by show cenv.builtins = _; rw [← hcenv]; exact I.ok.blt, by show s.heap.objs.size ≤ cenv.locals; rw [hL]; exact Nat.le_refl _,
      fun y z c e1 e2 => ?_, fun y hy => ?_, fun y c z e => ?_, I.ok.hd, I.ok.frames, .inl rfl, fun b hb => ⟨?_, fun y c e z => ?_⟩, I.bs, Nat.le_trans I.ok.bsz I.sz, fun b o e hb => ?_, fun b hb z => ?_, I.stack, I.stkFree⟩
    · have e1 : cenv.cells.lookup y = some c := e1
      have e2 : cenv.cells.lookup z = some c := e2
      rw [hcl] at e1 e2
      refine cells_inj (fun p hp => ?_) (fun y z c a b => I.ok.inj y z c (cm a).1 (cm b).1) (PySem.mem_of_lookup e1) (PySem.mem_of_lookup e2)
      rw [Heap.size_push]
      exact Nat.lt_succ_of_lt (cm (y := p.1) (c := p.2) hp).2
    · show ∃ c, cenv.cells.lookup y = some c
      have key : ∀ k, cenv.kindOf y = some k → (k = .cell ∨ k = .free) → ∃ c, cenv.cells.lookup y = some c := fun k hk hk' => by
        unfold Env.kindOf at hk
        rw [hsc] at hk
        obtain ⟨k', e, r⟩ := lookup_relS hk
        have : k' = .cell ∨ k' = .free := by
          rcases r with rfl | ⟨rfl, _⟩
          · exact hk'
          · exact .inr rfl
        rcases this with rfl | rfl
        · obtain ⟨c, hm⟩ := cells_has (n := (s.heap.push { cls := .type "dict", data := .dict #[] }).objs.size) (acc := cloFrom X.env.cells scope.names []) (PySem.mem_of_lookup e)
          obtain ⟨c', e'⟩ := mem_lookup hm
          exact ⟨c', by rw [hcl]; exact e'⟩
        · obtain ⟨c, h1, _⟩ := look e
          exact ⟨c, h1⟩
      rcases hy with hy | hy
      · exact key _ hy (.inl rfl)
      · exact key _ hy (.inr rfl)
    · have z : (scope.names.lookup y == some NameKind.cell) = true := z
      have z : scope.names.lookup y = some .cell := by simpa using z
      have e : cenv.cells.lookup y = some c := e
      rw [hcl] at e
      rcases cells_mem (PySem.mem_of_lookup e) with hm | ⟨_, h2, _⟩
      · rcases cloFrom_mem hm with hm | ⟨h1, _⟩
        · cases hm
        · have q := ok.uniq _ h1
          rw [z] at q; cases q
      · rw [Heap.size_push] at h2
        exact Nat.le_of_succ_le h2
    · show b ≠ cenv.locals
      rw [hL]; exact Nat.ne_of_lt (hfp b hb).2
    · have e : cenv.cells.lookup y = some c := e
      rcases mem e with ⟨h1, _⟩ | ⟨h1, _⟩
      · exact (hfp b hb).1.2.2.2.2.1 y c h1 z
      · have h2 : s.heap.objs.size + 1 ≤ b := by rw [← z]; exact h1
        exact absurd (Nat.lt_of_lt_of_le (hfp b hb).2 (Nat.le_of_succ_le h2)) (Nat.lt_irrefl _)
    · rcases (hfp b hb).1.2.2.2.1 with z | z
      · exact I.ok.noex b o e z
      · exact absurd (Nat.lt_of_lt_of_le (Heap.lt_size e) (Nat.le_trans I.ok.bsz z)) (Nat.lt_irrefl _)
    · rcases List.mem_cons.mp (I.stkSub b z) with z | z
      · exact (hfp b hb).1.2.1 z
      · exact (hfp b hb).1.2.2.1 z
  refine ⟨okB, rfl, I.bare, Un.kept kp, ⟨fun _ => none, ?_, fun i y av e1 e2 e3 => ?_⟩, fun y c e => ?_, ?_, fun y c e => ?_, fun p hp => ?_, I.hok.kept kp, by rw [wipe_length]; exact I.len⟩
  · show Heap.Ns _ cenv.locals _
    rw [hL]
    exact Heap.Ns.keeps (Heap.Ns.new ..) fun b o e => pushCells_keeps _ _ _ _ e
  · obtain ⟨e2, hne⟩ := wipe_some e2
    have hfr : scope.names.lookup y = some .free ∧ (cenv.kindOf y = some .cell ∨ cenv.kindOf y = some .free) := by
      have key : ∀ k, cenv.scope.names.lookup y = some k → k = .local ∨ k = .cell ∨ k = .free → scope.names.lookup y = some .free ∧ (cenv.kindOf y = some .cell ∨ cenv.kindOf y = some .free) := fun k hk hk' => by
        have hk0 := hk
        rw [hsc] at hk
        obtain ⟨k', e, r⟩ := lookup_relS hk
        have no : ¬ (k' = .local ∨ k' = .cell) := fun hh => by
          rcases ok.own _ (PySem.mem_of_lookup e) hh with e' | e'
          · obtain ⟨p, hp, hpy⟩ := List.mem_map.mp e'
            have e3 := ok.ix p hp
            have : p.1 = y := hpy
            rw [this] at e3
            exact hne (List.mem_map.mpr ⟨p, hp, nodup_ix hN e3 e1⟩)
          · exact e' (List.mem_of_getElem? e1)
        rcases r with rfl | ⟨rfl, rfl⟩
        · rcases hk' with rfl | rfl | rfl
          · exact absurd (.inl rfl) no
          · exact absurd (.inr rfl) no
          · exact ⟨e, .inr hk0⟩
        · exact ⟨e, .inl hk0⟩
      have e3 : Vis cenv.scope y := e3
      rcases e3 with e3 | e3 | e3
      · exact key _ e3 (.inl rfl)
      · exact key _ e3 (.inr (.inl rfl))
      · exact key _ e3 (.inr (.inr rfl))
    obtain ⟨m, hn, hl⟩ := I.loc
    have hvis : Vis X.env.scope y := (ok.free _ (PySem.mem_of_lookup hfr.1) rfl).elim (fun k => .inr (.inl k)) (fun k => .inr (.inr k))
    obtain ⟨w, r, q⟩ := hl i y av e1 e2 hvis
    refine ⟨w, r, .inr ⟨hfr.2, ?_⟩⟩
    obtain ⟨c, h1, h2⟩ := look hfr.1
    rcases q with ⟨k, _⟩ | ⟨_, c', e', z⟩
    · have k : X.env.scope.names.lookup y = some .local := k
      rcases ok.free _ (PySem.mem_of_lookup hfr.1) rfl with k' | k' <;> rw [show X.env.scope.names.lookup y = _ from k'] at k <;> cases k
    · rw [h2] at e'; cases e'
      exact ⟨c, h1, z.keeps kp⟩
  · have e : cenv.cells.lookup y = some c := e
    rcases mem e with ⟨h1, _⟩ | ⟨_, z⟩
    · obtain ⟨w, z⟩ := I.cell y c h1
      exact ⟨w, z.keeps kp⟩
    · exact ⟨_, z⟩
  · show H cenv.locals = none
    rw [hL]; exact I.hok.fresh (Nat.le_refl _)
  · have e : cenv.cells.lookup y = some c := e
    rcases mem e with ⟨h1, _⟩ | ⟨h1, _⟩
    · exact I.freeC y c h1
    · exact I.hok.fresh (Nat.le_of_succ_le h1)
  · exact absurd (show p ∈ ([] : List (Addr × Obj)) ++ [] from hp) (by simp)
/-- an item appended to a tracked list -/
theorem app_ok {E : Value → Shared → Prop} {D : Addr} {xs : List V} {y : V} {v : Value} {Q : Value → Shared → Prop} (I : Inv X pins σ H s) (hD : H D = some (.lst xs)) (hz : xs.length < sizeLine) (r : RelV y v)
    (h : ∀ s', Inv X pins σ (upd H D (.lst (xs ++ [y]))) s' → Q .none s') : wpAny (model X.prog X.w) X.A (call (.builtin "list.append") [.ref D, v]) Q E s := by
  obtain ⟨hz', its, n, ri, e⟩ := I.hok D _ hD
  have hl := ri.length
  refine append_at (hsz := by rw [List.size_toArray]; omega) e fun h' sb ho' => ?_
  refine h { s with heap := h' } (I.write (t' := s.toks) (by rw [hD]; trivial) (.inl rfl) (fun b u hb q => (sb.2 b hb).trans q) ⟨_, ho'⟩ ⟨by rw [List.length_append]; exact hz, its ++ [v], n + 1, ri.append (.cons r .nil), ?_⟩)
  rw [ho']
  simp
/-- a clause's tests -/
def PTs (X : Cx) (ifs : List Expr) (t : TT) : Prop :=
  ∀ (pins : List (Addr × Obj)) (s : Shared) (σ : St) (H : Hp) (Q : Bool → Hp → Prop), Inv X pins σ H s → t σ H Q →
    wpAny (model X.prog X.w) X.A (forIn ifs true fun c r => if r = true then do let ok ← isTrue c X.env (eval c X.env); pure (ForInStep.yield ok) else pure (ForInStep.yield r)) (TP X pins σ Q) X.xe s
def tYes : TT := fun _ H Q => Q true H
theorem pts_nil : PTs X [] tYes := fun _ _ _ H _ I h => wpAny_tests_nil ⟨H, I, h⟩
theorem pts_one {c : Expr} {t : TT} (h : PT X c t) : PTs X [c] t := fun pins s σ H Q I hw => wpAny_tests_one (h pins s σ H Q I hw)
end
theorem thnF {α : Type} {t : Sem α} {Q Q' : α → Shared → Prop} {M : Model} {A : Around} {E : Value → Shared → Prop} {s : Shared} (h : wpAny M A t Q (fun _ _ => False) s) (hQ : ∀ a s, Q a s → Q' a s) : wpAny M A t Q' E s := wpAny_mono h hQ fun _ _ z => False.elim z
/-- the loop of a list comprehension's block, the target of any form (codeAny_compLoop_tests asks a target that no tuple goes to; statement and proof follow it, PyProof/CompMap.lean:41-61, with the step letOwnedTupleGo kept) -/
theorem compLoop_any {prog : Program} {w : World} {A : Around} {R : Result → Shared → Prop} {s : Shared} {elt target iter : Expr} {ifs : List Expr} {scope : Scope} {pos : Pos} {it acc : Value} {env : Env} (I : Nat → Shared → Prop)
    (turn : ∀ n s, I n s → wpAny (model prog w) A (pyNext it) (fun r s₁ => match r with
      | none => R (.ok .next) s₁
      | some v => wpAny (model prog w) A (letOwnedTupleGo target it v) (fun _ s₁' => wpAny (model prog w) A (assign target env v) (fun _ s₂ =>
          wpAny (model prog w) A (forIn ifs true fun c r => if r = true then do let ok ← isTrue c env (eval c env); pure (ForInStep.yield ok) else pure (ForInStep.yield r)) (fun ok s₃ =>
            if ok = true then wpAny (model prog w) A (eval elt env) (fun x s₄ =>
              wpAny (model prog w) A (call (.builtin "list.append") [acc, x]) (fun _ s₅ => ∃ m, m < n ∧ I m s₅) (notedBy (model prog w) A env fun e s' => R (.error e) s') s₄) (notedBy (model prog w) A env fun e s' => R (.error e) s') s₃
            else ∃ m, m < n ∧ I m s₃) (notedBy (model prog w) A env fun e s' => R (.error e) s') s₂) (notedBy (model prog w) A env fun e s' => R (.error e) s') s₁') (notedBy (model prog w) A env fun e s' => R (.error e) s') s₁) (notedBy (model prog w) A env fun e s' => R (.error e) s') s)
    (n : Nat) (h : I n s) :
    codeAny (model prog w) A (.compLoop (.ListComp elt [⟨target, iter, ifs, 0⟩] scope pos) 0 it acc env) R s := by
  refine codeAny_loop rfl I (fun n s hI => ?_) n h
  show wpAny _ A ((compTurn (.ListComp elt [⟨target, iter, ifs, 0⟩] scope pos) 0 it acc env).onRaise (fun x => do noteFrame x env; theTreesLotGoes x)) _ _ s
  refine wpAny_noted ?_
  rw [compTurn_list]
  refine wpAny_bind (wpAny_standAt (wpAny_bind (wpAny_mono (turn n s hI) (fun r s₁ h₁ => ?_) fun _ _ h' => h')))
  cases r with
  | none => exact wpAny_pure h₁
  | some v =>
    refine wpAny_bind (wpAny_mono h₁ (fun _ s₁' h₁' => ?_) fun _ _ h' => h')
    refine wpAny_bind (wpAny_mono h₁' (fun _ s₂ h₂ => wpAny_bind (wpAny_mono h₂ (fun ok s₃ h₃ => ?_) fun _ _ h' => h')) fun _ _ h' => h')
    cases ok with
    | false => exact wpAny_pure ⟨rfl, h₃⟩
    | true =>
      exact wpAny_bind (wpAny_bind (wpAny_mono h₃ (fun x s₄ h₄ => wpAny_bind (wpAny_mono h₄ (fun _ s₅ h₅ => wpAny_pure (wpAny_pure ⟨rfl, h₅⟩)) fun _ _ h' => h')) fun _ _ h' => h'))
section
variable {X : Cx}
/-- [elt for target in iter if ..]: D the new list; W by the turn and a measure, Nx what a turn is to reach -/
def tLc (wi : TI) (g : TG) (tt : TT) (te : TE) (vs : List Nat) : TE := fun σ H Q => wi σ H fun J H1 => ∀ D, H1 D = none → ∃ W : Nat → Nat → Hp → Prop, (∃ m, W 0 m (upd H1 D (.lst []))) ∧ ∀ i m H, W i m H →
  (J.stop i H ∧ Q (.ref D) H) ∨ (J.go i H ∧ ∃ Nx : Hp → Prop, (∀ H', Nx H' → ∃ m', m' < m ∧ W (i + 1) m' H') ∧ ∀ x H', J.yld i H x H' → g x (wipe σ vs) H' fun σ2 H2 => wipe σ2 vs = wipe σ vs ∧ tt σ2 H2 fun b H3 =>
    if b = true then te σ2 H3 fun y H4 => ∃ acc, H4 D = some (.lst acc) ∧ acc.length < sizeLine ∧ Nx (upd H4 D (.lst (acc ++ [y]))) else Nx H3)
theorem lc_core {pins : List (Addr × Obj)} {s : Shared} {σ : St} {H : Hp} {Q : VK} {elt tg iter : Expr} {ifs : List Expr} {scope : Scope} {own : List (Str × Nat)} {pos pos' : Pos} {wi : TI} {g : TG} {tt : TT} {te : TE} {use : Option (Value → Sem Unit)} {Qf : Value → Shared → Prop}
    (hc : X.calm = true) (hN : X.N.Nodup) (I : Inv X pins σ H s) (hi : PI X tg iter wi) (ok : BlkOk X.N X.env.scope scope own)
    (hg : ∀ (s : Shared) (H : Hp) (C : Addr) (cl : List (Str × Addr)) (fp : List Addr), PG (X.blk s H scope (compEnvC scope cl C X.env) fp) tg g) (ht : ∀ (s : Shared) (H : Hp) (C : Addr) (cl : List (Str × Addr)) (fp : List Addr), PTs (X.blk s H scope (compEnvC scope cl C X.env) fp) ifs tt)
    (he : ∀ (s : Shared) (H : Hp) (C : Addr) (cl : List (Str × Addr)) (fp : List Addr), PE (X.blk s H scope (compEnvC scope cl C X.env) fp) elt te) (hs : ∀ x, foldedSetIterable iter X.env x = pure x)
    (h : tLc wi g tt te (own.map (·.2)) σ H Q)
    (hRR : ∀ D C s' m H', Inv X pins σ H' s' → Q (.ref D) H' → s'.heap.Ns C m → FpOk X pins H' C → compPost (model X.prog X.w) X.A X.xe use Qf (.ref D) C (.ok .next) s') :
    wpAny (model X.prog X.w) X.A (comprehension (.ListComp elt [⟨tg, iter, ifs, 0⟩] scope pos) scope X.env pos' (newList []) false (eval iter X.env) use) Qf X.xe s := by
  have hfree : ∀ y ∈ scope.names, y.2 = .free → ∃ c, X.env.cells.lookup y.1 = some c := fun y hy e => by
    rcases ok.free y hy e with k | k
    · exact I.ok.has _ (.inl k)
    · exact I.ok.has _ (.inr k)
  refine wpAny_comprehension_free (use := use) rfl hs (closure_ok hfree) ok.kind (fun y hy e => by rw [ok.uniq y hy, e])
    (thn (hi pins s σ H _ I h) fun xv s1 hx => thn hx fun itv s2 h2 => ?_)
  obtain ⟨it, fp, tn, J, H2, e, I2, T, st2, f2, q⟩ := h2
  subst e
  refine wpAny_newObj_type (newEnv_comp ?_) (by show 0 ≤ sizeLine; decide)
  generalize hD : s2.heap.objs.size = D
  have hDn : H2 D = none := I2.hok.fresh (Nat.le_of_eq hD)
  obtain ⟨W, ⟨m0, w0⟩, turn⟩ := q D hDn
  -- the new list
  generalize hs3 : ({ s2 with heap := s2.heap.push { cls := .type "list", data := .seq ([] : List Value).toArray } } : Shared) = s3
  have I3 : Inv X pins σ (upd H2 D (.lst [])) s3 := by
    rw [← hs3]
    refine I2.laid (t' := s2.toks) (fun b o e => Heap.get?_push_of_some _ e) (Nat.le_of_eq hD) ⟨Nat.zero_le _, [], 0, .nil, ?_⟩
    rw [← hD]
    exact Heap.get?_push_size _ rfl
  have h3 : s3.heap = s2.heap.push { cls := .type "list", data := .seq ([] : List Value).toArray } := by rw [← hs3]
  have sz : ∀ b ∈ fp, b < s2.heap.objs.size := fun b hb => by
    obtain ⟨o, e, _⟩ := T.obj _ _ st2 b hb
    exact Heap.lt_size e
  have f3 : ∀ b ∈ fp, FpOk X pins (upd H2 D (.lst [])) b ∧ b < s3.heap.objs.size := fun b hb => by
    have hlt := sz b hb
    refine ⟨⟨?_, (f2 b hb).2⟩, by rw [h3, Heap.size_push]; exact Nat.lt_succ_of_lt hlt⟩
    rw [upd_ne (by rw [← hD]; exact Nat.ne_of_lt hlt)]
    exact (f2 b hb).1
  have st3 : tn 0 s3.heap := T.keep _ _ _ st2 fun b _ o e => by rw [h3]; exact Heap.get?_push_of_some _ e
  have I4 := block_start I3 ok hN f3
  have pg := hg s3 (upd H2 D (.lst [])) s3.heap.objs.size (cellsFrom (s3.heap.objs.size + 1) scope.names (cloFrom X.env.cells scope.names [])) fp
  have pt := ht s3 (upd H2 D (.lst [])) s3.heap.objs.size (cellsFrom (s3.heap.objs.size + 1) scope.names (cloFrom X.env.cells scope.names [])) fp
  have pe := he s3 (upd H2 D (.lst [])) s3.heap.objs.size (cellsFrom (s3.heap.objs.size + 1) scope.names (cloFrom X.env.cells scope.names [])) fp
  show codeAny _ _ (.compStart (.ListComp elt [⟨tg, iter, ifs, 0⟩] scope pos) 0 (.ref it) (.ref D) (compEnvC scope (cellsFrom (s3.heap.objs.size + 1) scope.names (cloFrom X.env.cells scope.names [])) s3.heap.objs.size X.env)) (compPost (model X.prog X.w) X.A X.xe use Qf (.ref D) s3.heap.objs.size) { s3 with heap := pushCells (s3.heap.push { cls := .type "dict", data := .dict #[] }) scope.names }
  have nfp : ∀ b ∈ fp, (upd H2 D (.lst [])) b = none := fun b hb => (f3 b hb).1.1
  generalize hce : compEnvC scope (cellsFrom (s3.heap.objs.size + 1) scope.names (cloFrom X.env.cells scope.names [])) s3.heap.objs.size X.env = ce at I4 pg pt pe ⊢
  have cL : ce.locals = s3.heap.objs.size := by subst hce; rfl
  generalize hH3 : upd H2 D (.lst []) = H3 at I3 I4 pg pt pe w0 nfp f3
  generalize hs4 : ({ s3 with heap := pushCells (s3.heap.push { cls := .type "dict", data := .dict #[] }) scope.names } : Shared) = s4 at I4 ⊢
  have st4 : tn 0 s4.heap := T.keep _ _ _ st3 fun b _ o e => by rw [← hs4]; exact pushCells_keeps _ _ _ _ (Heap.get?_push_of_some _ e)
  have stat : ∀ {σ' : St} {H' : Hp} {s' : Shared}, Inv (X.blk s3 H3 scope ce fp) [] σ' H' s' → (∀ b ∈ fp, H' b = none) → ∀ b ∈ fp, FpOk (X.blk s3 H3 scope ce fp) [] H' b := fun {σ' H' s'} I' hn b hb =>
    ⟨hn b hb, (I'.ok.exf b hb).1, I'.ok.exfs b hb, .inl hb, fun x c e => (I'.ok.exf b hb).2 x c e, fun p hp => absurd (show p ∈ ([] : List (Addr × Obj)) ++ [] from hp) (by simp)⟩
  have loop : codeAny (model X.prog X.w) X.A (.compLoop (.ListComp elt [⟨tg, iter, ifs, 0⟩] scope pos) 0 (.ref it) (.ref D) ce) (compPost (model X.prog X.w) X.A X.xe use Qf (.ref D) s3.heap.objs.size) s4 := by
    refine compLoop_any (fun n s' => ∃ i H', Inv (X.blk s3 H3 scope ce fp) [] (wipe σ (own.map (·.2))) H' s' ∧ tn i s'.heap ∧ (∀ b ∈ fp, H' b = none) ∧ W i n H') ?_ m0 ⟨0, H3, I4, st4, nfp, w0⟩
    rintro n s5 ⟨i, H5, I5, st5, n5, w5⟩
    rcases turn i n H5 w5 with ⟨stop, qq⟩ | ⟨go, Nx, hNx, step⟩
    · have td := T.done (X.blk s3 H3 scope ce fp) rfl rfl rfl hc i [] s5 _ H5 (fun _ _ => False) I5 (stat I5 n5) st5 stop
      refine thnF td fun r s6 ⟨hr, I6⟩ => ?_
      subst hr
      -- back in the def's context
      have I7 : Inv X pins σ H5 s6 := I3.call' (ch := fp) I6.os I6.base I6.hok I6.bare fun b hb => ⟨(f3 b hb).1.2.2.2.1, (f3 b hb).1.2.1, (f3 b hb).1.2.2.2.2.1, (f3 b hb).1.2.2.2.2.2⟩
      have nC : H5 s3.heap.objs.size = none := by
        have z : H5 ce.locals = none := I6.free
        rw [cL] at z
        exact z
      obtain ⟨m, hn, _⟩ := I6.loc
      have hn : s6.heap.Ns ce.locals m := hn
      rw [cL] at hn
      exact hRR D s3.heap.objs.size s6 m H5 I7 qq hn (I3.fpOk (Nat.le_refl _) nC)
    · have ti := T.item (X.blk s3 H3 scope ce fp) rfl rfl rfl hc i [] s5 _ H5 (fun _ _ => False) I5 (stat I5 n5) st5 go
      refine thnF ti fun r s6 ⟨u, hr, h6⟩ => ?_
      subst hr
      refine thnF h6 fun _ s7 ⟨x, H7, I7, r7, y7, st7, n7⟩ => ?_
      have I7' := I7.pinned (stat I7 n7) (T.obj _ _ st7)
      refine thnF (pg _ s7 _ H7 x u _ I7' r7 (step x H7 y7)) fun _ s8 ⟨σ8, H8, I8, hw8, q8⟩ => ?_
      refine thnF (pt _ s8 σ8 H8 _ I8 q8) fun b s9 ⟨H9, I9, q9⟩ => ?_
      -- the turn's end
      have fin : ∀ {s' : Shared} {H' : Hp}, Inv (X.blk s3 H3 scope ce fp) ([] ++ pinsAt fp s7.heap) σ8 H' s' → Nx H' → ∃ m, m < n ∧ ∃ i H', Inv (X.blk s3 H3 scope ce fp) [] (wipe σ (own.map (·.2))) H' s' ∧ tn i s'.heap ∧ (∀ b ∈ fp, H' b = none) ∧ W i m H' := fun {s' H'} I' nx => by
        obtain ⟨m', hm, w'⟩ := hNx H' nx
        have pin' : ∀ b ∈ fp, ∀ o, s7.heap.get? b = some o → s'.heap.get? b = some o ∧ H' b = none := fun b hb o e =>
          let z := I'.pin (b, o) (List.mem_append_right _ (List.mem_append_right _ (mem_pinsAt hb e)))
          ⟨z.1, z.2.1⟩
        have hl : (wipe σ (own.map (·.2))).length = σ8.length := by rw [← hw8, wipe_length]
        refine ⟨m', hm, i + 1, H', (I'.unpinned (pins := [])).weak hl (fun j v e => ?_), T.keep _ _ _ st7 fun b hb o e => (pin' b hb o e).1, fun b hb => ?_, w'⟩
        · rw [← hw8] at e
          exact (wipe_some e).1
        · obtain ⟨o, e, _⟩ := T.obj _ _ st7 b hb
          exact (pin' b hb o e).2
      cases b with
      | false =>
        simp only [Bool.false_eq_true, if_false] at q9 ⊢
        exact fin I9 q9
      | true =>
        simp only [if_true] at q9 ⊢
        refine thnF (pe _ s9 σ8 H9 _ I9 q9) fun z s10 ⟨yv, H10, I10, r10, acc, hD10, hz10, nx⟩ => ?_
        exact app_ok (X := X.blk s3 H3 scope ce fp) I10 hD10 hz10 r10 fun s11 I11 => fin I11 nx
  exact codeAny_compStart_list loop (T.self X.A 0 _ _ _ st4 loop)
/-- as a value -/
theorem pe_lc {elt tg iter : Expr} {ifs : List Expr} {scope : Scope} {own : List (Str × Nat)} {pos : Pos} {wi : TI} {g : TG} {tt : TT} {te : TE} (hc : X.calm = true) (hN : X.N.Nodup) (hi : PI X tg iter wi) (ok : BlkOk X.N X.env.scope scope own)
    (hg : ∀ (s : Shared) (H : Hp) (C : Addr) (cl : List (Str × Addr)) (fp : List Addr), PG (X.blk s H scope (compEnvC scope cl C X.env) fp) tg g) (ht : ∀ (s : Shared) (H : Hp) (C : Addr) (cl : List (Str × Addr)) (fp : List Addr), PTs (X.blk s H scope (compEnvC scope cl C X.env) fp) ifs tt)
    (he : ∀ (s : Shared) (H : Hp) (C : Addr) (cl : List (Str × Addr)) (fp : List Addr), PE (X.blk s H scope (compEnvC scope cl C X.env) fp) elt te) (hs : ∀ x, foldedSetIterable iter X.env x = pure x := by intro _; rfl) :
    PE X (.ListComp elt [⟨tg, iter, ifs, 0⟩] scope pos) (tLc wi g tt te (own.map (·.2))) := by
  intro pins s σ H Q I h
  rw [eval_ListComp]
  refine lc_core hc hN I hi ok hg ht he hs h fun D C s' m H' I' q hn f => ⟨m, hn, fun h'' sb => ?_⟩
  obtain ⟨f0, f1, f2, f3, f4, f5⟩ := f
  exact ⟨.ref D, H', I'.turned (t' := s'.toks) (fun b o hb e => (sb.2 b hb).trans e) f0 f1 f3 f4 f5, rfl, q⟩
/-- name = [..] on one line, the name a local -/
theorem ps_setLc {i : Nat} {y : Str} {py : Pos} {elt tg iter : Expr} {ifs : List Expr} {scope : Scope} {own : List (Str × Nat)} {pos spos : Pos} {wi : TI} {g : TG} {tt : TT} {te : TE} (hc : X.calm = true) (hN : X.N.Nodup) (hy : X.N[i]? = some y) (hyl : X.env.scope.names.lookup y = some .local)
    (hsw : swapsWith (.ListComp elt [⟨tg, iter, ifs, 0⟩] scope pos) (some (.Name y py)) spos.line X.env = pure true) (hi : PI X tg iter wi) (ok : BlkOk X.N X.env.scope scope own)
    (hg : ∀ (s : Shared) (H : Hp) (C : Addr) (cl : List (Str × Addr)) (fp : List Addr), PG (X.blk s H scope (compEnvC scope cl C X.env) fp) tg g) (ht : ∀ (s : Shared) (H : Hp) (C : Addr) (cl : List (Str × Addr)) (fp : List Addr), PTs (X.blk s H scope (compEnvC scope cl C X.env) fp) ifs tt)
    (he : ∀ (s : Shared) (H : Hp) (C : Addr) (cl : List (Str × Addr)) (fp : List Addr), PE (X.blk s H scope (compEnvC scope cl C X.env) fp) elt te) (hs : ∀ x, foldedSetIterable iter X.env x = pure x := by intro _; rfl) :
    PS X (.Assign [.Name y py] (.ListComp elt [⟨tg, iter, ifs, 0⟩] scope pos) spos) (tAsg (tLc wi g tt te (own.map (·.2))) (gName i)) := by
  intro pins s σ H D I h
  rw [exec_Assign_Name_used _ _ _ _ hsw]
  refine wpAny_bind (wpAny_standAt (wpAny_bind ?_))
  show wpAny _ X.A (do let _ ← comprehension (.ListComp elt [⟨tg, iter, ifs, 0⟩] scope pos) scope X.env (firstIterPos [⟨tg, iter, ifs, 0⟩] pos) (newList []) false (eval iter X.env) (some (assign (.Name y py) X.env))) _ _ s
  have h : tLc wi g tt te (own.map (·.2)) σ H (fun x H1 => gName i x σ H1 D.nx) := h
  refine wpAny_bind (thn (lc_core (Qf := fun _ s' => SP X pins D .next s') hc hN I hi ok hg ht he hs h fun L C s' m H' I' q hn f => ?_) fun _ s' hq => wpAny_pure (wpAny_pure hq))
  show wpAny _ _ (assign (.Name y py) X.env (.ref L)) _ _ _
  refine wpAny_assign_Name (store_ok2 (v := V.ref L) I' hN hy (.inl hyl) rfl (fun s2 I2 ⟨a, sb, ha⟩ => ?_) (.inr hyl))
  obtain ⟨f0, f1, f2, f3, f4, f5⟩ := f
  have haC : C ≠ a := by
    rcases ha with z | z
    · rw [z]; exact f1
    · exact fun e => f4 y a z e.symm
  refine ⟨m, hn.sameBut sb haC, fun h3 sb3 => ?_⟩
  exact ⟨_, H', I2.turned (t' := s2.toks) (fun b o hb e => (sb3.2 b hb).trans e) f0 f1 f3 f4 f5, q⟩
theorem sw_true {elt : Expr} {gs : List Comprehension} {scope : Scope} {pos py : Pos} {y : Str} {l : Nat} {env : Env} (hk : env.scope.kind = .function) (hy : env.scope.names.lookup y = some .local) (hl : (py.line == pos.line) = true)
    (ha : (scope.names.any fun (n, k) => n == y && (k == .local || k == .cell)) = false) : swapsWith (.ListComp elt gs scope pos) (some (.Name y py)) l env = pure true := by
  have ky : env.kindOf y = some .local := hy
  have hb : env.blockKind = .function := by unfold Env.blockKind; rw [hk]; rfl
  unfold swapsWith
  simp only [hb, ky, ha, Expr.pos, hl]
  rfl
end
/-- over a range: Pv by the turn and the heap (the new list at D within) -/
theorem lc_range {lo : Int} {n : Nat} {g : TG} {tt : TT} {te : TE} {vs : List Nat} {σ : St} {H1 : Hp} {D : Addr} {Qd : Hp → Prop} (Pv : Nat → Hp → Prop) (h0 : Pv 0 (upd H1 D (.lst [])))
    (hs : ∀ i H, i < n → Pv i H → g (.int (lo + i)) (wipe σ vs) H fun σ2 H2 => wipe σ2 vs = wipe σ vs ∧ tt σ2 H2 fun b H3 =>
      if b = true then te σ2 H3 fun y H4 => ∃ acc, H4 D = some (.lst acc) ∧ acc.length < sizeLine ∧ Pv (i + 1) (upd H4 D (.lst (acc ++ [y]))) else Pv (i + 1) H3) (hd : ∀ H, Pv n H → Qd H) :
    ∃ W : Nat → Nat → Hp → Prop, (∃ m, W 0 m (upd H1 D (.lst []))) ∧ ∀ i m H, W i m H →
      ((Itr lo n).stop i H ∧ Qd H) ∨ ((Itr lo n).go i H ∧ ∃ Nx : Hp → Prop, (∀ H', Nx H' → ∃ m', m' < m ∧ W (i + 1) m' H') ∧ ∀ x H', (Itr lo n).yld i H x H' → g x (wipe σ vs) H' fun σ2 H2 => wipe σ2 vs = wipe σ vs ∧ tt σ2 H2 fun b H3 =>
        if b = true then te σ2 H3 fun y H4 => ∃ acc, H4 D = some (.lst acc) ∧ acc.length < sizeLine ∧ Nx (upd H4 D (.lst (acc ++ [y]))) else Nx H3) := by
  refine ⟨fun i m H => m = n - i ∧ i ≤ n ∧ Pv i H, ⟨n, by simp, Nat.zero_le _, h0⟩, ?_⟩
  rintro i m H ⟨rfl, hi, p⟩
  by_cases hlt : i < n
  · refine .inr ⟨hlt, Pv (i + 1), fun H' p' => ⟨n - (i + 1), by omega, rfl, hlt, p'⟩, fun x H' y => ?_⟩
    obtain ⟨e, y⟩ := y
    subst e y
    exact hs i _ hlt p
  · have e : i = n := by omega
    subst e
    exact .inl ⟨Nat.le_refl _, hd H p⟩
/-- over a list that the block leaves as it is -/
theorem lc_list {K : PySem.W.Frag} {a : Addr} {xs : List V} {g : TG} {tt : TT} {te : TE} {vs : List Nat} {σ : St} {H1 : Hp} {D : Addr} {Qd : Hp → Prop} (Pv : Nat → Hp → Prop) (h0 : Pv 0 (upd H1 D (.lst []))) (hl : ∀ i H, i ≤ xs.length → Pv i H → SqL K H a xs)
    (hs : ∀ i x H, xs[i]? = some x → Pv i H → g x (wipe σ vs) H fun σ2 H2 => wipe σ2 vs = wipe σ vs ∧ tt σ2 H2 fun b H3 =>
      if b = true then te σ2 H3 fun y H4 => ∃ acc, H4 D = some (.lst acc) ∧ acc.length < sizeLine ∧ Pv (i + 1) (upd H4 D (.lst (acc ++ [y]))) else Pv (i + 1) H3) (hd : ∀ H, Pv xs.length H → Qd H) :
    ∃ W : Nat → Nat → Hp → Prop, (∃ m, W 0 m (upd H1 D (.lst []))) ∧ ∀ i m H, W i m H →
      ((Itl K a).stop i H ∧ Qd H) ∨ ((Itl K a).go i H ∧ ∃ Nx : Hp → Prop, (∀ H', Nx H' → ∃ m', m' < m ∧ W (i + 1) m' H') ∧ ∀ x H', (Itl K a).yld i H x H' → g x (wipe σ vs) H' fun σ2 H2 => wipe σ2 vs = wipe σ vs ∧ tt σ2 H2 fun b H3 =>
        if b = true then te σ2 H3 fun y H4 => ∃ acc, H4 D = some (.lst acc) ∧ acc.length < sizeLine ∧ Nx (upd H4 D (.lst (acc ++ [y]))) else Nx H3) := by
  refine ⟨fun i m H => m = xs.length - i ∧ i ≤ xs.length ∧ Pv i H, ⟨xs.length, by simp, Nat.zero_le _, h0⟩, ?_⟩
  rintro i m H ⟨rfl, hi, p⟩
  have q := hl i H hi p
  by_cases hlt : i < xs.length
  · refine .inr ⟨⟨xs, xs[i], q, by simp [hlt]⟩, Pv (i + 1), fun H' p' => ⟨xs.length - (i + 1), by omega, rfl, hlt, p'⟩, fun x H' y => ?_⟩
    obtain ⟨e, y⟩ := y
    subst e
    exact hs i x _ (y xs q) p
  · have e : i = xs.length := by omega
    subst e
    exact .inl ⟨⟨xs, q, Nat.le_refl _⟩, hd H p⟩
def blkC (N : List Str) (sc scope : Scope) (own : List (Str × Nat)) : Bool :=
  (match scope.kind with | .function => true | _ => false) && (scope.names.all fun y => decide (scope.names.lookup y.1 = some y.2)) && (own.all fun p => decide (N[p.2]? = some p.1)) &&
    (scope.names.all fun y => match y.2 with
      | .free => (match sc.names.lookup y.1 with | some .cell => true | some .free => true | _ => false)
      | .local => decide (y.1 ∈ own.map (·.1)) || decide (y.1 ∉ N)
      | .cell => decide (y.1 ∈ own.map (·.1)) || decide (y.1 ∉ N)
      | _ => true)
theorem blkOk_by {N : List Str} {sc scope : Scope} {own : List (Str × Nat)} (h : blkC N sc scope own = true) : BlkOk N sc scope own := by
  unfold blkC at h
  simp only [Bool.and_eq_true, List.all_eq_true, decide_eq_true_eq] at h
  obtain ⟨⟨⟨h1, h2⟩, h3⟩, h4⟩ := h
  refine ⟨?_, h2, h3, fun y hy e => ?_, fun y hy e => ?_⟩
  · split at h1
    · assumption
    · cases h1
  · have q := h4 y hy
    simp only [e] at q
    split at q <;> first | exact .inl (by assumption) | exact .inr (by assumption) | cases q
  · have q := h4 y hy
    rcases e with e | e <;> (simp only [e, Bool.or_eq_true, decide_eq_true_eq] at q; exact q)
end L2
namespace L2
open PySem PySem.Spec PyProof.Rows
section
variable {prog : Program} {w : World} {A : Around} {R : Result → Shared → Prop} {s : Shared} {elt t0 i0 t1 i1 : Expr} {ifs0 ifs1 : List Expr} {scope : Scope} {pos : Pos} {it acc : Value} {env : Env}
end
section
variable {X : Cx}
end
end L2
namespace L2
open PySem PySem.Spec PyProof.Rows
section
variable {κ : Type} [DecidableEq κ]
def valV (kvs : List (κ × V)) (k : κ) : Option V := (kvs.find? fun kv => decide (kv.1 = k)).map (·.2)
/-- in its place, or at the end -/
def putK (kvs : List (κ × V)) (k : κ) (v : V) : List (κ × V) :=
  if (kvs.any fun kv => decide (kv.1 = k)) = true then kvs.map (fun kv => if kv.1 = k then (kv.1, v) else kv) else kvs ++ [(k, v)]
theorem valV_pos {p : κ × V} {r : List (κ × V)} {k : κ} (e : p.1 = k) : valV (p :: r) k = some p.2 := by simp [valV, List.find?_cons, e]
theorem valV_neg {p : κ × V} {r : List (κ × V)} {k : κ} (e : ¬ p.1 = k) : valV (p :: r) k = valV r k := by simp [valV, List.find?_cons, e]
theorem valV_any (k : κ) : ∀ kvs : List (κ × V), (kvs.any fun kv => decide (kv.1 = k)) = (valV kvs k).isSome
  | [] => rfl
  | p :: r => by
    rw [List.any_cons]
    by_cases e : p.1 = k
    · simp only [valV_pos e, decide_eq_true e, Bool.true_or, Option.isSome_some]
    · rw [valV_neg e, decide_eq_false e, Bool.false_or]; exact valV_any k r
theorem valV_map (k j : κ) (y : V) : ∀ kvs : List (κ × V), valV (kvs.map fun kv => if kv.1 = k then (kv.1, y) else kv) j = (valV kvs j).map fun x => if j = k then y else x
  | [] => rfl
  | p :: r => by
    have ih := valV_map k j y r
    rw [List.map_cons]
    by_cases h : p.1 = k
    · rw [if_pos h]
      by_cases e : p.1 = j
      · rw [valV_pos (p := (p.1, y)) e, valV_pos e, Option.map_some, if_pos (e.symm.trans h)]
      · rw [valV_neg (p := (p.1, y)) e, valV_neg e, ih]
    · rw [if_neg h]
      by_cases e : p.1 = j
      · rw [valV_pos (p := p) e, valV_pos e, Option.map_some, if_neg (fun z => h (e.trans z))]
      · rw [valV_neg (p := p) e, valV_neg e, ih]
theorem valV_snoc (k j : κ) (y : V) : ∀ kvs : List (κ × V), valV kvs k = none → valV (kvs ++ [(k, y)]) j = if j = k then some y else valV kvs j
  | [], _ => by
    by_cases e : k = j
    · rw [if_pos e.symm]; exact valV_pos (p := (k, y)) e
    · rw [if_neg (fun z => e z.symm)]; exact valV_neg (p := (k, y)) e
  | p :: r, hn => by
    rw [List.cons_append]
    have hk : ¬ p.1 = k := fun z => by rw [valV_pos z] at hn; cases hn
    rw [valV_neg hk] at hn
    have ih := valV_snoc k j y r hn
    by_cases e : p.1 = j
    · rw [valV_pos e, valV_pos e, if_neg (fun z => hk (e.trans z))]
    · rw [valV_neg e, valV_neg e, ih]
theorem valV_put (kvs : List (κ × V)) (k j : κ) (y : V) : valV (putK kvs k y) j = if j = k then some y else valV kvs j := by
  unfold putK
  by_cases a : (kvs.any fun kv => decide (kv.1 = k)) = true
  · rw [if_pos a, valV_map]
    rw [valV_any] at a
    by_cases e : j = k
    · obtain ⟨x, hx⟩ := Option.isSome_iff_exists.mp a
      rw [if_pos e, e, hx, Option.map_some, if_pos rfl]
    · rw [if_neg e]
      cases valV kvs j with
      | none => rfl
      | some x => rw [Option.map_some, if_neg e]
  · rw [if_neg a]
    refine valV_snoc k j y kvs ?_
    rw [valV_any] at a
    cases q : valV kvs k with
    | none => rfl
    | some x => rw [q] at a; exact (a rfl).elim
theorem length_putK (kvs : List (κ × V)) (k : κ) (v : V) : (putK kvs k v).length ≤ kvs.length + 1 := by
  unfold putK
  split
  · rw [List.length_map]; omega
  · rw [List.length_append, List.length_cons, List.length_nil]; omega
theorem putK_new {kvs : List (κ × V)} {k : κ} (v : V) (h : valV kvs k = none) : putK kvs k v = kvs ++ [(k, v)] := by
  unfold putK
  rw [valV_any, h]
  exact if_neg (by decide)
theorem RelO.isSome_eq {o : Option V} {u : Option Value} (r : RelO o u) : o.isSome = u.isSome := by
  cases o with
  | none => cases u with
    | none => rfl
    | some _ => exact (show False from r).elim
  | some _ => cases u with
    | none => exact (show False from r).elim
    | some _ => rfl
theorem RelO.getD {o : Option V} {u : Option Value} {d : V} {d' : Value} (r : RelO o u) (rd : RelV d d') : RelV (o.getD d) (u.getD d') := by
  cases o with
  | none => cases u with
    | none => exact rd
    | some _ => exact (show False from r).elim
  | some _ => cases u with
    | none => exact (show False from r).elim
    | some _ => exact r
/-- raw tables of the same keys -/
theorem KV.val {kvs : List (κ × V)} {vs : List (κ × Value)} (r : KV kvs vs) (k : κ) : RelO (valV kvs k) (valueAt vs k) := by
  unfold KV at r
  induction r with
  | nil => exact True.intro
  | @cons p q ps qs h t ih =>
    obtain ⟨h1, h2⟩ := h
    by_cases e : p.1 = k
    · have e' : q.1 = k := h1.symm.trans e
      have b : valueAt (q :: qs) k = some q.2 := by simp [valueAt, List.find?_cons, e']
      rw [valV_pos e, b]; exact h2
    · have e' : ¬ q.1 = k := fun z => e (h1.trans z)
      have b : valueAt (q :: qs) k = valueAt qs k := by simp [valueAt, List.find?_cons, e']
      rw [valV_neg e, b]; exact ih
theorem KV.any {kvs : List (κ × V)} {vs : List (κ × Value)} (r : KV kvs vs) (k : κ) : (kvs.any fun kv => decide (kv.1 = k)) = vs.any fun kv => decide (kv.1 = k) := by
  unfold KV at r
  induction r with
  | nil => rfl
  | cons h t ih => rw [List.any_cons, List.any_cons, ih, h.1]
theorem KV.repl {kvs : List (κ × V)} {vs : List (κ × Value)} (r : KV kvs vs) (k : κ) {y : V} {u : Value} (ry : RelV y u) :
    KV (kvs.map fun kv => if kv.1 = k then (kv.1, y) else kv) (vs.map fun kv => if kv.1 = k then (kv.1, u) else kv) := by
  unfold KV at r ⊢
  induction r with
  | nil => exact .nil
  | @cons p q ps qs h t ih =>
    rw [List.map_cons, List.map_cons]
    refine .cons ?_ ih
    obtain ⟨h1, h2⟩ := h
    by_cases e : p.1 = k
    · rw [if_pos e, if_pos (h1.symm.trans e)]; exact ⟨h1, ry⟩
    · rw [if_neg e, if_neg (fun z => e (h1.trans z))]; exact ⟨h1, h2⟩
theorem KV.put {kvs : List (κ × V)} {vs : List (κ × Value)} (r : KV kvs vs) (k : κ) {y : V} {u : Value} (ry : RelV y u) : KV (putK kvs k y) (stored vs k u) := by
  unfold putK stored
  rw [r.any k]
  by_cases e : (vs.any fun kv => decide (kv.1 = k)) = true
  · rw [if_pos e, if_pos e]; exact r.repl k ry
  · rw [if_neg e, if_neg e]; exact Paired.snoc r ⟨rfl, ry⟩
theorem KV.length {kvs : List (κ × V)} {vs : List (κ × Value)} (r : KV kvs vs) : kvs.length = vs.length := Paired.length r
end
theorem kV_is {P : Program} {w : World} {k : Key} {u : Value} (r : RelV (kV k) u) : (mixKind P w).is k u = true := by
  cases k with
  | inl i => obtain ⟨t, e⟩ := (show ∃ t, u = Value.int i t from r); subst e; exact mixKind_int P w i t
  | inr x => obtain ⟨t, e⟩ := (show ∃ t, u = Value.str x t from r); subst e; exact mixKind_str P w x t
theorem items_are {P : Program} {w : World} : ∀ {ks : List Key} {us : List Value}, Vals (ks.map kV) us → ItemsAre (mixKind P w) ks us
  | [], _, r => by rw [List.map_nil] at r; cases r; exact .nil
  | k :: ks, _, r => by
    rw [List.map_cons] at r
    cases r with
    | cons h t => exact .cons (kV_is h) (items_are t)
/-- raw entries of a dict with tuple keys -/
abbrev KT (H : Hp) : List (List Key × V) → List (List Key × Addr × Value) → Prop := Paired fun p q => p.1 = q.1 ∧ H q.2.1 = some (.tup (p.1.map kV)) ∧ RelV p.2 q.2.2
theorem KT.val {H : Hp} {kvs : List (List Key × V)} {xs : List (List Key × Addr × Value)} (r : KT H kvs xs) (k : List Key) : RelO (valV kvs k) ((atKey xs k).map (·.2)) := by
  induction r with
  | nil => exact True.intro
  | @cons p q ps qs h t ih =>
    obtain ⟨h1, _, h2⟩ := h
    by_cases e : p.1 = k
    · have e' : q.1 = k := h1.symm.trans e
      have b : atKey (q :: qs) k = some q.2 := by simp [atKey, List.find?_cons, e']
      rw [valV_pos e, b]; exact h2
    · have e' : ¬ q.1 = k := fun z => e (h1.trans z)
      have b : atKey (q :: qs) k = atKey qs k := by simp [atKey, List.find?_cons, e']
      rw [valV_neg e, b]; exact ih
theorem KT.repl {H : Hp} {kvs : List (List Key × V)} {xs : List (List Key × Addr × Value)} (r : KT H kvs xs) (k : List Key) {y : V} {u : Value} (ry : RelV y u) :
    KT H (kvs.map fun kv => if kv.1 = k then (kv.1, y) else kv) (xs.map (putAt k u)) := by
  induction r with
  | nil => exact .nil
  | @cons p q ps qs h t ih =>
    rw [List.map_cons, List.map_cons]
    refine .cons ?_ ih
    obtain ⟨h1, h2, h3⟩ := h
    unfold putAt
    by_cases e : p.1 = k
    · rw [if_pos e, if_pos (h1.symm.trans e)]; exact ⟨h1, h2, ry⟩
    · rw [if_neg e, if_neg (fun z => e (h1.trans z))]; exact ⟨h1, h2, h3⟩
theorem KT.put {H : Hp} {kvs : List (List Key × V)} {xs : List (List Key × Addr × Value)} (r : KT H kvs xs) (k : List Key) {b : Addr} {y : V} {u : Value} (hb : H b = some (.tup (k.map kV))) (ry : RelV y u) :
    KT H (putK kvs k y) (storedH xs k b u) := by
  have e : (kvs.any fun kv => decide (kv.1 = k)) = (atKey xs k).isSome := by
    rw [valV_any, (r.val k).isSome_eq, Option.isSome_map]
  unfold putK storedH
  rw [e]
  by_cases q : (atKey xs k).isSome = true
  · rw [if_pos q, if_pos q]; exact r.repl k ry
  · rw [if_neg q, if_neg q]; exact Paired.snoc r ⟨rfl, hb, ry⟩
theorem KT.keeps {H H' : Hp} {kvs : List (List Key × V)} {xs : List (List Key × Addr × Value)} (r : KT H kvs xs) (ht : ∀ b ys, H b = some (.tup ys) → H' b = some (.tup ys)) : KT H' kvs xs :=
  Paired.mapP r fun _ _ z => ⟨z.1, ht _ _ z.2.1, z.2.2⟩
section
variable {P : Program} {w : World} {H : Hp} {h : Heap} {a : Addr}
theorem rd_of {u : HO} (ok : HOk P w H h) (e : Rd H a u) : ObjOk P w H h a u := e.ok ok
theorem dk_rd {kvs : List (Key × V)} (ok : HOk P w H h) (e : Rd H a (.dK kvs)) : kvs.length ≤ sizeLine ∧ (a == sysModules) = false ∧ ∃ vs, KV kvs vs ∧ h.DictOf (mixKind P w) a vs :=
  show ObjOk P w H h a (.dK kvs) from rd_of ok e
theorem dk_of {kvs : List (Key × V)} (ok : HOk P w H h) (e : H a = some (.dK kvs)) : kvs.length ≤ sizeLine ∧ (a == sysModules) = false ∧ ∃ vs, KV kvs vs ∧ h.DictOf (mixKind P w) a vs := dk_rd ok (.inl e)
/-- a tracked tuple of ints and texts is a key -/
theorem key_of {ks : List Key} (ok : HOk P w H h) (e : H a = some (.tup (ks.map kV))) : (tupleKind (mixKind P w)).is h ks a := by
  obtain ⟨_, its, r, o, h1, h2, n, h3⟩ := (show ObjOk P w H h a (.tup (ks.map kV)) from ok a _ e)
  exact ⟨o, its.toArray, n, h1, h2, h3, by simpa using items_are r⟩
theorem dt_rd {kvs : List (List Key × V)} (ok : HOk P w H h) (e : Rd H a (.dT kvs)) : kvs.length ≤ sizeLine ∧ (a == sysModules) = false ∧
    ∃ xs, KT H kvs xs ∧ h.DictOfH (tupleKind (mixKind P w)) a xs := by
  obtain ⟨z, y, xs, r, o, es, ep, h1, h2, h3, h4, h5⟩ := (show ObjOk P w H h a (.dT kvs) from rd_of ok e)
  refine ⟨z, y, xs, r, o, es, ep, h1, h2, h3, h4, fun x hx => ?_, h5⟩
  have all : ∀ {l : List (List Key × V)} {m : List (List Key × Addr × Value)}, KT H l m → ∀ x ∈ m, (tupleKind (mixKind P w)).is h x.1 x.2.1 := by
    intro l m q
    induction q with
    | nil => intro x hx; exact nomatch hx
    | @cons p q ps qs hq t ih =>
      intro x hx
      rcases List.mem_cons.mp hx with e | hx
      · subst e
        exact key_of ok (by rw [← hq.1]; exact hq.2.1)
      · exact ih x hx
  exact all r x hx
theorem dt_of {kvs : List (List Key × V)} (ok : HOk P w H h) (e : H a = some (.dT kvs)) : kvs.length ≤ sizeLine ∧ (a == sysModules) = false ∧
    ∃ xs, KT H kvs xs ∧ h.DictOfH (tupleKind (mixKind P w)) a xs := dt_rd ok (.inl e)
end
/-- what the dict at a holds at the key y -/
def DGet (H : Hp) (a : Addr) (y : V) (r : Option V) : Prop :=
  (∃ kvs k, Rd H a (.dK kvs) ∧ y = kV k ∧ r = valV kvs k) ∨ ∃ kvs k b, Rd H a (.dT kvs) ∧ y = .ref b ∧ H b = some (.tup (k.map kV)) ∧ r = valV kvs k
/-- the heap behind a[y] = v -/
def DPut (H : Hp) (a : Addr) (y v : V) (H' : Hp) : Prop :=
  (∃ kvs k, H a = some (.dK kvs) ∧ y = kV k ∧ kvs.length < sizeLine ∧ H' = upd H a (.dK (putK kvs k v))) ∨
  ∃ kvs k b, H a = some (.dT kvs) ∧ y = .ref b ∧ H b = some (.tup (k.map kV)) ∧ kvs.length < sizeLine ∧ H' = upd H a (.dT (putK kvs k v))
theorem DGet.t {H : Hp} {a b : Addr} {kvs : List (List Key × V)} {k : List Key} (e : H a = some (.dT kvs)) (eb : H b = some (.tup (k.map kV))) : DGet H a (.ref b) (valV kvs k) := .inr ⟨kvs, k, b, .inl e, rfl, eb, rfl⟩
theorem DPut.t {H : Hp} {a b : Addr} {kvs : List (List Key × V)} {k : List Key} {v : V} (e : H a = some (.dT kvs)) (eb : H b = some (.tup (k.map kV))) (hl : kvs.length < sizeLine) :
    DPut H a (.ref b) v (upd H a (.dT (putK kvs k v))) := .inr ⟨kvs, k, b, e, rfl, eb, hl, rfl⟩
section
variable {X : Cx} {pins : List (Addr × Obj)} {σ : St} {H : Hp} {s : Shared} {a : Addr} {y v : V} {u r : Value} {o : Option V} {A : Around} {E : Value → Shared → Prop}
theorem Inv.big (I : Inv X pins σ H s) : sysModules < s.heap.objs.size := by
  have h : mainGlobals < s.heap.objs.size := (I.mod.glob.keeps I.bk).lt
  exact Nat.lt_trans (by decide) h
/-- y in d -/
theorem d_in {Q : Value → Shared → Prop} (hu : A.units + 1 < cLine) (I : Inv X pins σ H s) (g : DGet H a y o) (ry : RelV y u) (h : ∀ s', Inv X pins σ H s' → Q (.bool o.isSome) s') :
    wpAny (model X.prog X.w) A (compareOp .In u (.ref a)) Q E s := by
  rcases g with ⟨kvs, k, e, ey, l⟩ | ⟨kvs, k, b, e, ey, eb, l⟩
  · subst ey
    obtain ⟨z, hd, vs, rel, dd⟩ := dk_rd I.hok e
    refine wpAny_in_of (kV_is ry) hd dd.mapOf ?_
    rw [← (rel.val k).isSome_eq, ← l]
    exact h _ (I.tok _)
  · subst ey
    cases (show u = Value.ref b from ry)
    obtain ⟨z, hd, xs, rel, dd⟩ := dt_rd I.hok e
    refine wpAny_in_heap (tupleKind_room_in1 hu) (key_of I.hok eb) hd dd ?_
    have q := (rel.val k).isSome_eq
    rw [Option.isSome_map] at q
    rw [← q, ← l]
    exact h _ (I.tok _)
theorem d_notIn {Q : Value → Shared → Prop} (hu : A.units + 1 < cLine) (I : Inv X pins σ H s) (g : DGet H a y o) (ry : RelV y u) (h : ∀ s', Inv X pins σ H s' → Q (.bool (!o.isSome)) s') :
    wpAny (model X.prog X.w) A (compareOp .NotIn u (.ref a)) Q E s := by
  rcases g with ⟨kvs, k, e, ey, l⟩ | ⟨kvs, k, b, e, ey, eb, l⟩
  · subst ey
    obtain ⟨z, hd, vs, rel, dd⟩ := dk_rd I.hok e
    refine wpAny_notIn_of (kV_is ry) hd dd.mapOf ?_
    rw [← (rel.val k).isSome_eq, ← l]
    exact h _ (I.tok _)
  · subst ey
    cases (show u = Value.ref b from ry)
    obtain ⟨z, hd, xs, rel, dd⟩ := dt_rd I.hok e
    refine wpAny_notIn_heap (tupleKind_room_in1 hu) (key_of I.hok eb) hd dd ?_
    have q := (rel.val k).isSome_eq
    rw [Option.isSome_map] at q
    rw [← q, ← l]
    exact h _ (I.tok _)
/-- a dict's object is replaced -/
theorem d_write {h' : Heap} {t' : Nat} {ob : HO} (I : Inv X pins σ H s) (mu : Mut (H a)) (hs : Heap.SameBut a s.heap h') (he : ∃ q, h'.get? a = some q) (new : ObjOk X.prog X.w (upd H a ob) h' a ob) :
    Inv X pins σ (upd H a ob) { s with heap := h', toks := t' } :=
  I.write (x := a) (e := a) mu (.inl rfl) (fun b q hb z => (hs.2 b hb).trans z) he new
theorem dk_new {P : Program} {w : World} {H' : Hp} {h' : Heap} {kvs : List (Key × V)} {vs : List (Key × Value)} (z : kvs.length ≤ sizeLine) (hd : (a == sysModules) = false) (rel : KV kvs vs) (dd : h'.DictOf (mixKind P w) a vs) :
    ObjOk P w H' h' a (.dK kvs) := ⟨z, hd, vs, rel, dd⟩
/-- d[y] = v -/
theorem d_setItem {H' : Hp} {Q : Unit → Shared → Prop} (hu : A.units + 1 < cLine) (I : Inv X pins σ H s) (g : DPut H a y v H') (ry : RelV y u) (rv : RelV v r) (h : ∀ s', Inv X pins σ H' s' → Q () s') :
    wpAny (model X.prog X.w) A (setItem (.ref a) u r) Q E s := by
  rcases g with ⟨kvs, k, e, ey, l, eH⟩ | ⟨kvs, k, b, e, ey, eb, l, eH⟩
  · subst ey eH
    obtain ⟨z, hd, vs, rel, dd⟩ := dk_of I.hok e
    have hz : vs.length ≤ sizeLine := by rw [← rel.length]; exact z
    have hl : (putK kvs k v).length ≤ sizeLine := by have := length_putK kvs k v; omega
    refine wpAny_setItem_pairs (hsz := hz) (kV_is ry) dd fun h' dd' hs => h _ ?_
    have he : ∃ q, h'.get? a = some q := let ⟨q, _, _, hq, _⟩ := dd'; ⟨q, hq⟩
    exact d_write I (by rw [e]; exact True.intro) hs he (dk_new hl hd (rel.put k rv) dd')
  · subst ey eH
    cases (show u = Value.ref b from ry)
    obtain ⟨z, hd, xs, rel, dd⟩ := dt_of I.hok e
    have hz : xs.length ≤ sizeLine := by rw [← Paired.length rel]; exact z
    have hl : (putK kvs k v).length ≤ sizeLine := by have := length_putK kvs k v; omega
    refine wpAny_setItem_heap (hsz := hz) (tupleKind_room_in1 hu) (key_of I.hok eb) dd fun h' dd' hs => h _ ?_
    obtain ⟨q, es, ep, hq, h2, h3, h4, _, h5⟩ := dd'
    refine d_write I (by rw [e]; exact True.intro) hs ⟨q, hq⟩ ⟨hl, hd, _, (rel.put k eb rv).keeps fun c ys ec => ?_, q, es, ep, hq, h2, h3, h4, h5⟩
    rw [upd_ne (ne_of ec e (fun z => nomatch z))]
    exact ec
end
section
variable {X : Cx} {pins : List (Addr × Obj)} {σ : St} {H : Hp} {s : Shared} {a : Addr} {kvs : List (Key × V)} {k : Key} {u : Value} {A : Around} {E : Value → Shared → Prop}
end
/-- y in d, y not in d -/
def tDIn (ty td : TE) : TE := fun σ H Q => ty σ H fun y H1 => td σ H1 fun x H2 => ∃ a o, x = .ref a ∧ DGet H2 a y o ∧ Q (.bl o.isSome) H2
def tDNotIn (ty td : TE) : TE := fun σ H Q => ty σ H fun y H1 => td σ H1 fun x H2 => ∃ a o, x = .ref a ∧ DGet H2 a y o ∧ Q (.bl (!o.isSome)) H2
/-- d[y] = v -/
def sDPut (td ty tv : TE) : TS := fun D σ H => tv σ H fun v H1 => td σ H1 fun x H2 => ty σ H2 fun y H3 => ∃ a H4, x = .ref a ∧ DPut H3 a y v H4 ∧ D.nx σ H4
section
variable {X : Cx} {o i e value : Expr} {pos pos' tpos : Pos} {td ty tv : TE}
theorem pc_din (hu : X.A.units + 1 < cLine) (hi : PE X i ty) (ho : PE X o td) : PC X .In i o (tDIn ty td) := by
  intro pins s σ H Q I h
  refine thn (hi pins s σ H _ I h) fun iv s1 ⟨y, H1, I1, ry, q1⟩ => thn (ho pins s1 σ H1 _ I1 q1) fun u s2 ⟨x, H2, I2, rx, a, ov, ex, g, q2⟩ => ?_
  subst ex
  obtain rfl : u = Value.ref a := rx
  exact d_in hu I2 g ry fun s3 I3 => ⟨.bl ov.isSome, H2, I3, rfl, q2⟩
theorem pc_dnotin (hu : X.A.units + 1 < cLine) (hi : PE X i ty) (ho : PE X o td) : PC X .NotIn i o (tDNotIn ty td) := by
  intro pins s σ H Q I h
  refine thn (hi pins s σ H _ I h) fun iv s1 ⟨y, H1, I1, ry, q1⟩ => thn (ho pins s1 σ H1 _ I1 q1) fun u s2 ⟨x, H2, I2, rx, a, ov, ex, g, q2⟩ => ?_
  subst ex
  obtain rfl : u = Value.ref a := rx
  exact d_notIn hu I2 g ry fun s3 I3 => ⟨.bl (!ov.isSome), H2, I3, rfl, q2⟩
theorem ps_dput (hu : X.A.units + 1 < cLine) (ho : PE X o td) (hi : PE X i ty) (hv : PE X value tv) (hs : swapsWith value (some (.Subscript o i pos')) pos.line X.env = pure false) :
    PS X (.Assign [.Subscript o i pos'] value pos) (sDPut td ty tv) := by
  intro pins s σ H D I h
  refine wpAny_Assign_Subscript (thn (hv pins s σ H _ I h) fun r s1 ⟨v, H1, I1, rv, q1⟩ => thn (ho pins s1 σ H1 _ I1 q1) fun u s2 ⟨x, H2, I2, rx, q2⟩ => thn (hi pins s2 σ H2 _ I2 q2) fun iv s3 ⟨y, H3, I3, ry, a, H4, ex, g, q3⟩ => ?_) hs
  subst ex
  obtain rfl : u = Value.ref a := rx
  exact d_setItem hu I3 g ry rv fun s4 I4 => ⟨σ, H4, I4, q3⟩
end
theorem dt_empty {P : Program} {w : World} {H : Hp} (h : Heap) (hb : sysModules < h.objs.size) : ObjOk P w H (h.push { cls := .type "dict", data := .dict #[] }) h.objs.size (.dT []) :=
  ⟨Nat.zero_le _, beq_eq_false_iff_ne.mpr (Ne.symm (Nat.ne_of_lt hb)), [], .nil, _, #[], 0, Heap.get?_push_size _ rfl, ⟨rfl, rfl, rfl⟩, rfl, rfl, List.nodup_nil⟩
def tDNewT : TE := fun _ H Q => ∀ p, H p = none → Q (.ref p) (upd H p (.dT []))
section
variable {X : Cx} {pos : Pos}
theorem pe_dnewT : PE X (.Dict [] [] pos) tDNewT := fun pins s σ H Q I h =>
  wpAny_Dict_empty ⟨.ref s.heap.objs.size, _, I.laid (a := s.heap.objs.size) (o := .dT []) (t' := s.toks) (fun _ _ q => Heap.get?_push_of_some _ q) (Nat.le_refl _) (dt_empty s.heap I.big), rfl, h _ (I.hok.fresh (Nat.le_refl _))⟩
end
/-- a method call o.m(e) of a built-in, with one argument: what must be seen of the text -/
structure M1 (X : Cx) (o : Expr) (m : Str) (apos : Pos) (e : Expr) (cpos : Pos) : Prop where
  base : attributeBase o m X.env (eval o X.env) = eval o X.env
  few : ((backTo cpos (starEach [e] X.env)).all (fun x => !x.1) && (backToKw cpos (keywordEach [] X.env)).all (fun x => x.1.isSome)
    && decide (([e] : List Expr).length + ([] : List Keyword).length + (if ([] : List Keyword).isEmpty then 0 else 1) < 30)) = true
  line : (apos.endLine == cpos.line) = true
  trees : backTo cpos (starEach [e] X.env) = [(false, eval e X.env)]
/-- a is a dict, whatever its keys -/
def IsD (H : Hp) (a : Addr) : Prop := (∃ kvs, Rd H a (.dK kvs)) ∨ ∃ kvs, Rd H a (.dT kvs)
theorem isD_at {X : Cx} {pins : List (Addr × Obj)} {σ : St} {H : Hp} {s : Shared} {a : Addr} (I : Inv X pins σ H s) (d : IsD H a) :
    s.TypeIs (.ref a) "dict" ∧ (∀ b, Value.ref a = .ref b → ∃ ob, s.heap.get? b = some ob ∧ ob.dict = none) ∧ (a == sysModules) = false := by
  rcases d with ⟨kvs, e⟩ | ⟨kvs, e⟩
  · obtain ⟨_, hd, vs, _, dd⟩ := dk_rd I.hok e
    refine ⟨dd.typeIs, fun b q => ?_, hd⟩
    cases q
    obtain ⟨ob, _, _, h1, h2, _⟩ := dd
    exact ⟨ob, h1, h2.2.1⟩
  · obtain ⟨_, hd, xs, _, dd⟩ := dt_rd I.hok e
    refine ⟨dd.typeIs, fun b q => ?_, hd⟩
    cases q
    obtain ⟨ob, _, _, h1, h2, _⟩ := dd
    exact ⟨ob, h1, h2.2.1⟩
section
variable {X : Cx} {pins : List (Addr × Obj)} {σ : St} {H : Hp} {s : Shared} {a : Addr} {y d : V} {u r : Value} {o : Option V} {A : Around} {E : Value → Shared → Prop}
/-- d.get(y) -/
theorem d_get1 {Q : Value → Shared → Prop} (hu : A.units + 1 < cLine) (I : Inv X pins σ H s) (g : DGet H a y o) (ry : RelV y u) (h : ∀ w' s', Inv X pins σ H s' → RelV (o.getD .non) w' → Q w' s') :
    wpAny (model X.prog X.w) A (call (.builtin "dict.get") [.ref a, u]) Q E s := by
  rcases g with ⟨kvs, k, e, ey, l⟩ | ⟨kvs, k, b, e, ey, eb, l⟩
  · subst ey
    obtain ⟨z, hd, vs, rel, dd⟩ := dk_rd I.hok e
    refine call_meetsIn PySem.F.slot_dict_get dd.typeIs PySem.F.entry_dict_get (PySem.F.args_dict_get_2 _ _) (meets_dict_get (mixKind X.prog X.w) a (kV_is ry) hd) ⟨_, dd.mapOf, h _ _ (I.tok _) ?_⟩
    rw [l]
    exact (rel.val k).getD rfl
  · subst ey
    cases (show u = Value.ref b from ry)
    obtain ⟨z, hd, xs, rel, dd⟩ := dt_rd I.hok e
    refine call_meetsIn PySem.F.slot_dict_get dd.typeIs PySem.F.entry_dict_get (PySem.F.args_dict_get_2 _ _) (meetsH_dict_get (tupleKind (mixKind X.prog X.w)) a b hd) ⟨tupleKind_room_in1 hu, k, xs, key_of I.hok eb, dd, h _ _ (I.tok _) ?_⟩
    rw [l]
    exact (rel.val k).getD rfl
end
def tDGet1 (td ty : TE) : TE := fun σ H Q => td σ H fun x H1 => ∃ a, x = .ref a ∧ IsD H1 a ∧ ty σ H1 fun y H2 => ∃ o, DGet H2 a y o ∧ Q (o.getD .non) H2
section
variable {X : Cx} {o e f : Expr} {apos cpos : Pos} {td ty tx : TE}
theorem pe_dget1 (hu : X.A.units + 1 < cLine) (ho : PE X o td) (he : PE X e ty) (m : M1 X o "get" apos e cpos) : PE X (.Call (.Attribute o "get" apos) [e] [] cpos) (tDGet1 td ty) := by
  intro pins s σ H Q I h
  refine wpAny_Call_method m.base m.few m.line PySem.F.plainAttrs_dict PySem.F.slot_dict_get PySem.F.type_dict_get (thn (ho pins s σ H _ I h) fun u s1 ⟨x, H1, I1, rx, a, ex, d, q1⟩ => ?_)
  subst ex
  obtain rfl : u = Value.ref a := rx
  obtain ⟨t1, t2, _⟩ := isD_at I1 d
  refine ⟨t1, t2, ?_⟩
  rw [m.trees]
  refine Calls.callWith_builtin rfl (Calls.evalArgs_plain (Calls.spliced_cons (thn (he pins s1 σ H1 _ I1 q1) fun iv s2 ⟨y, H2, I2, ry, ov, g, q2⟩ => Calls.spliced_nil ?_)))
  exact d_get1 hu I2 g ry fun w' s3 I3 rw' => ⟨_, H2, I3, rw', q2⟩
end
section
variable {X : Cx} {pins : List (Addr × Obj)} {σ : St} {H : Hp} {s : Shared} {a : Addr} {kvs : List (Key × V)} {A : Around} {E : Value → Shared → Prop}
end
section
variable {X : Cx} {pins : List (Addr × Obj)} {σ : St} {H : Hp} {s : Shared} {a : Addr} {y : V} {u : Value} {A : Around} {E : Value → Shared → Prop}
end
end L2
namespace L2
open PySem PySem.Spec PyProof.Rows
section
variable {prog : Program} {w : World} {A : Around} {E : Value → Shared → Prop}
end
section
variable {X : Cx}
end
end L2
namespace L2
open PySem PySem.Spec PyProof.Rows
section
variable {X : Cx} {pins : List (Addr × Obj)} {σ : St} {H : Hp} {s : Shared} {h' : Heap}
/-- .. and one new object is laid -/
theorem Inv.turnedNew {t' : Nat} {ch : List Addr} {T : Addr} {ob : HO} (I : Inv X pins σ H s) (k : ∀ b o, b ∉ ch → s.heap.get? b = some o → h'.get? b = some o) (hf : ∀ b ∈ ch, FpOk X pins H b) (hT : s.heap.objs.size ≤ T)
    (new : ObjOk X.prog X.w (upd H T ob) h' T ob) : Inv X pins σ (upd H T ob) { s with heap := h', toks := t' } := by
  have hn : H T = none := I.hok.fresh hT
  have nit : ∀ b u, H b = some u → b ∉ ch := fun b u e z => by
    have q := (hf b z).1
    rw [q] at e; cases e
  refine I.step (g' := s.gens) (d' := s.drawn) (ch := ch) (fun b hb => ⟨(hf b hb).2.2.2.1, (hf b hb).2.1, (hf b hb).2.2.2.2.1, (hf b hb).2.2.2.2.2⟩) (fun b o _ _ hc e _ => k b o hc e) (fun b o _ _ hc e _ => ⟨o.slots, k b o hc e⟩)
    (fun b o _ e n => ?_) (fun b o hc e => ⟨o, k b o hc e⟩) (fun b xs e => ?_) (fun b o u e => ?_) (fun b ps e => ⟨#[], ?_⟩) (fun m hm => ?_) (fun b u e => ?_) I.bare
  · rw [upd_ne (Nat.ne_of_lt (Nat.lt_of_lt_of_le (Heap.lt_size e) hT))]; exact n
  · rw [upd_ne (ne_of_none e hn)]; exact e
  · rw [upd_ne (ne_of_none e hn)]; exact e
  · rw [upd_ne (ne_of_none e hn), e]; simp
  · obtain ⟨o, es, ep, ho, r⟩ := hm
    exact ⟨o, es, ep, k _ o (fun z => (hf _ z).2.1 rfl) ho, r⟩
  · by_cases hb : b = T
    · subst hb
      rw [upd_same] at e
      cases e
      exact new
    · rw [upd_ne hb] at e
      refine (I.hok b u e).stay (fun c v hc q => k c v ?_ q) (fun c q => by rw [upd_ne (ne_of_none q hn)]; exact q) fun c xs q => by rw [upd_ne (ne_of_none q hn)]; exact q
      rcases hc with z | z
      · rw [z]; exact nit b u e
      · exact nit c _ z
theorem Inv.lock {d : Addr} {u : HO} (I : Inv X pins σ H s) (h : H d = some u) (mu : Mut (some u)) : ∃ od, Inv X pins σ (upd H d (.frz od u)) s := by
  have x := I.hok d u h
  have ex : ∃ od, s.heap.get? d = some od := by
    cases u with
    | lst xs => obtain ⟨_, _, _, _, e⟩ := x; exact ⟨_, e⟩
    | dK kvs => obtain ⟨_, _, _, _, o, _, _, e, _⟩ := x; exact ⟨o, e⟩
    | dT kvs => obtain ⟨_, _, _, _, o, _, _, e, _⟩ := x; exact ⟨o, e⟩
    | set S n => obtain ⟨o, _, _, _, e, _⟩ := x; exact ⟨o, e⟩
    | ins C dx fs => obtain ⟨_, _, _, e, _⟩ := x; exact ⟨_, e⟩
    | ext φ => obtain ⟨_, ⟨_, e⟩, _⟩ := x; exact ⟨_, e⟩
    | _ => exact False.elim mu
  obtain ⟨od, e⟩ := ex
  have new : ObjOk X.prog X.w (upd H d (.frz od u)) s.heap d (.frz od u) := by
    refine ⟨e, x.stay (fun b v _ q => q) (fun b q => ?_) fun b xs q => ?_⟩
    · rw [upd_ne (fun z => by rw [z, h] at q; cases q; exact mu)]; exact q
    · rw [upd_ne (fun z => by rw [z, h] at q; cases q; exact mu)]; exact q
  exact ⟨od, I.write (x := d) (e := d) (t' := s.toks) (h' := s.heap) (by rw [h]; exact mu) (.inl rfl) (fun b v _ q => q) ⟨od, e⟩ new⟩
theorem Inv.nofrz {d : Addr} {u : HO} (I : Inv X pins σ H s) (h : H d = some u) (mu : Mut (some u)) : ∀ o' u', X.H_0 d ≠ some (.frz o' u') := fun o' u' e => by
  have q := I.base.frzs d o' u' e
  rw [h] at q
  cases q
  exact mu
theorem Inv.unlock {d : Addr} {od : Obj} {u : HO} (I : Inv X pins σ H s) (h : H d = some (.frz od u)) (hn : ∀ o' u', X.H_0 d ≠ some (.frz o' u')) : Inv X pins σ (upd H d u) s := by
  have neH : ∀ b o, H b = some o → (∀ o' u', o ≠ .frz o' u') → b ≠ d := fun b o e hne z => by
    rw [z, h] at e
    cases e
    exact hne _ _ rfl
  have neN : ∀ b, H b = none → b ≠ d := fun b e z => by rw [z, h] at e; cases e
  refine ⟨I.ok, I.os, I.bare, ⟨I.base.keep, I.base.slot, fun b o e n hx => ?_, I.base.there, fun b xs e => ?_, fun b o x e => ?_, fun b ps e => ?_⟩, I.loc, I.cell, ?_, fun x c e => ?_, fun p hp => ?_, fun b o e => ?_, I.len⟩
  · rw [upd_ne (neN b (I.base.free b o e n hx))]; exact I.base.free b o e n hx
  · have q := I.base.tups b xs e
    rw [upd_ne (neH b _ q (fun _ _ z => nomatch z))]; exact q
  · have q := I.base.frzs b o x e
    rw [upd_ne (fun z => by rw [z] at e; exact hn _ _ e)]; exact q
  · obtain ⟨m, q⟩ := I.base.tbls b ps e
    exact ⟨m, by rw [upd_ne (neH b _ q (fun _ _ z => nomatch z))]; exact q⟩
  · rw [upd_ne (neN _ I.free)]; exact I.free
  · rw [upd_ne (neN c (I.freeC x c e))]; exact I.freeC x c e
  · obtain ⟨e, n, r⟩ := I.pin p hp
    exact ⟨e, by rw [upd_ne (neN _ n)]; exact n, r⟩
  · by_cases hb : b = d
    · rw [hb, upd_same] at e
      cases e
      rw [hb]
      obtain ⟨_, x⟩ := I.hok d _ h
      exact x.stay (fun c v _ q => q) (fun c q => by rw [upd_ne (neH c _ q (fun _ _ z => nomatch z))]; exact q) fun c xs q => by rw [upd_ne (neH c _ q (fun _ _ z => nomatch z))]; exact q
    · rw [upd_ne hb] at e
      exact (I.hok b o e).stay (fun c v _ q => q) (fun c q => by rw [upd_ne (neH c _ q (fun _ _ z => nomatch z))]; exact q) fun c xs q => by rw [upd_ne (neH c _ q (fun _ _ z => nomatch z))]; exact q
end
/-- the statement runs while the thing at d is locked (read, not written); d and what stands there are the reading's choice -/
def tLock (t : TS) : TS := fun D σ H => ∃ d u, H d = some u ∧ Mut (some u) ∧ ∀ od, t ⟨fun σ' H' => H' d = some (.frz od u) ∧ D.nx σ' (upd H' d u), fun v H' => H' d = some (.frz od u) ∧ D.rt v (upd H' d u), fun σ' H' => H' d = some (.frz od u) ∧ D.bk σ' (upd H' d u), fun σ' H' => H' d = some (.frz od u) ∧ D.ct σ' (upd H' d u)⟩ σ (upd H d (.frz od u))
section
variable {X : Cx}
theorem ps_lock {st : Stmt} {t : TS} (h : PS X st t) : PS X st (tLock t) := by
  intro pins s σ H D I hw
  obtain ⟨d, u, hd, mu, hw⟩ := hw
  obtain ⟨od, I1⟩ := I.lock hd mu
  refine thn (h pins s σ _ _ I1 (hw od)) fun f s1 q => ?_
  cases f with
  | next => obtain ⟨σ', H', I2, e, q⟩ := q; exact ⟨σ', _, I2.unlock e (I.nofrz hd mu), q⟩
  | brk => obtain ⟨σ', H', I2, e, q⟩ := q; exact ⟨σ', _, I2.unlock e (I.nofrz hd mu), q⟩
  | cont => obtain ⟨σ', H', I2, e, q⟩ := q; exact ⟨σ', _, I2.unlock e (I.nofrz hd mu), q⟩
  | ret v => obtain ⟨x, σ', H', I2, r, e, q⟩ := q; exact ⟨x, σ', _, I2.unlock e (I.nofrz hd mu), r, q⟩
theorem pi_one {tg : Expr} {pins : List (Addr × Obj)} {σ : St} {H : Hp} {s : Shared} {R : It → Hp → Prop} {J : It} {tn : Nat → Heap → Prop} {tk : Nat} (I : Inv X pins σ H s) (o : Obj)
    (T : Turn X.prog X.w X.K tg J [s.heap.objs.size] s.heap.objs.size tn) (st : tn 0 (s.heap.push o)) (q : R J H) : PIE X pins σ tg R (.ref s.heap.objs.size) { s with heap := s.heap.push o, toks := tk } := by
  refine ⟨s.heap.objs.size, [s.heap.objs.size], tn, J, H, rfl, I.kept fun b ob e => Heap.get?_push_of_some _ e, T, st, fun b hb => ?_, q⟩
  have e : b = s.heap.objs.size := by simpa using hb
  subst e
  exact I.fpOk (Nat.le_refl _) (I.hok.fresh (Nat.le_refl _))
end
section
variable {X : Cx} {tg : Expr}
end
section
variable {X : Cx} {tg : Expr}
end
section
variable {prog : Program} {w : World} {A : Around} {E : Value → Shared → Prop} {s : Shared}
end
theorem paired_get {α β : Type} {G : α → β → Prop} {l₁ : List α} {l₂ : List β} (h : Paired G l₁ l₂) : ∀ {i : Nat} {a : α}, l₁[i]? = some a → ∃ b, l₂[i]? = some b ∧ G a b := by
  induction h with
  | nil => intro i a e; simp at e
  | @cons a b l₁ l₂ r t ih =>
    intro i a' e
    cases i with
    | zero =>
      simp only [List.getElem?_cons_zero, Option.some.injEq] at e
      subst e
      exact ⟨b, rfl, r⟩
    | succ j =>
      simp only [List.getElem?_cons_succ] at e ⊢
      exact ih e
section
variable {X : Cx} {pins : List (Addr × Obj)} {σ : St} {H : Hp} {s : Shared} {d : Addr} {o : Obj}
end
theorem dict_ep {o : Obj} {es es' : Array DictEntry} {ep ep' : Nat} (h : o.data = .dict es ep) (h' : o.data = .dict es' ep') : es' = es ∧ ep' = ep := by
  rw [h] at h'
  cases h'
  exact ⟨rfl, rfl⟩
section
variable {P : Program} {w : World} {K : PySem.W.Frag} {tg : Expr} {d : Addr} {o : Obj} {es : Array DictEntry} {ep : Nat}
end
section
variable {X : Cx} {tg e : Expr} {td : TE} {apos cpos : Pos}
end
/-- the list at a as it stands at each turn, each item in a new pair -/
def Ite (K : PySem.W.Frag) (a : Addr) : It :=
  ⟨fun i H => ∃ (xs : List V) (x : V), SqL K H a xs ∧ xs[i]? = some x, fun i H v H' => ∃ T x, v = .ref T ∧ H T = none ∧ H' = upd H T (.tup [.int (i : Nat), x]) ∧ ∀ xs, SqL K H a xs → xs[i]? = some x, fun i H => ∃ xs : List V, SqL K H a xs ∧ xs.length ≤ i⟩
theorem turn_enum {P : Program} {w : World} {K : PySem.W.Frag} {elts : List Expr} {kk : Nat} {tpos : Pos} (a e it : Addr) :
    Turn P w K (.Tuple elts kk tpos) (Ite K a) [e, it] e (fun i h => (∃ old, IsEnum h e it ((i : Nat) : Int) old) ∧ h.IsListIter it a i ∧ e ≠ it) where
  mem := by simp
  obj := fun i h st b hb => by
    obtain ⟨⟨old, he⟩, ⟨o, ho, hc, hd⟩, _⟩ := st
    have e' : b = e ∨ b = it := by simpa using hb
    rcases e' with z | z
    · rw [z]; exact ⟨_, he, fun v q => nomatch q⟩
    · rw [z]; exact ⟨o, ho, fun v q => by rw [hd] at q; cases q⟩
  keep := fun i h h' st k => let ⟨⟨old, he⟩, hi, hne⟩ := st; ⟨⟨old, k e (by simp) _ he⟩, hi.at fun o q => k it (by simp) o q, hne⟩
  item := by
    intro X hP hw hK hc i pins s σ H E I hf st hg
    subst hP hw hK
    obtain ⟨⟨old, he⟩, hit, hne⟩ := st
    obtain ⟨xs, x, hq, hx⟩ := hg
    obtain ⟨its, rv, p, hz⟩ := I.list hq
    obtain ⟨u, hu, ru⟩ := rv.get hx
    have hel : e < s.heap.objs.size := Heap.lt_size he
    have hil : it < s.heap.objs.size := by obtain ⟨_, q, _⟩ := hit; exact Heap.lt_size q
    refine wpAny_pyNext_enum_item he hit p.isList (x := u) (by simpa using hu) hne fun h' ho hit' hT hsz hk => ?_
    refine ⟨_, rfl, wpAny_letOwnedTupleGo_enum (s := { s with heap := h', toks := s.toks + 1 }) ho fun h'' he' sb => ?_⟩
    have hT2 : h''.get? s.heap.objs.size = some { cls := .type "tuple", data := .seq #[.int i s.toks, u] } := (sb.2 _ (Nat.ne_of_gt hel)).trans hT
    have new : ObjOk X.prog X.w (upd H s.heap.objs.size (.tup [.int (i : Nat), x])) h'' s.heap.objs.size (.tup [.int (i : Nat), x]) :=
      ⟨by show 2 ≤ sizeLine; decide, [.int i s.toks, u], .cons ⟨_, rfl⟩ (.cons ru .nil), ⟨_, hT2, rfl, _, rfl⟩⟩
    have I1 : Inv X pins σ (upd H s.heap.objs.size (.tup [.int (i : Nat), x])) { s with heap := h'', toks := s.toks + 1 } :=
      I.turnedNew (ch := [e, it]) (fun b ob hb q => (sb.2 b (fun z => hb (by simp [z]))).trans (hk b ob (fun z => hb (by simp [z])) (fun z => hb (by simp [z])) q)) hf (Nat.le_refl _) new
    refine ⟨.ref s.heap.objs.size, _, I1, rfl, ⟨_, x, rfl, I.hok.fresh (Nat.le_refl _), rfl, fun ys hy => by rw [I.list_inj hy hq]; exact hx⟩, ⟨⟨u, ?_⟩, hit'.at fun o q => (sb.2 it (Ne.symm hne)).trans q, hne⟩, fun b hb => ?_⟩
    · have e1 : ((i + 1 : Nat) : Int) = (i : Int) + 1 := by omega
      rw [e1]; exact he'
    · have hb' : b < s.heap.objs.size := by
        have e' : b = e ∨ b = it := by simpa using hb
        rcases e' with z | z
        · rw [z]; exact hel
        · rw [z]; exact hil
      rw [upd_ne (Nat.ne_of_lt hb')]
      exact (hf b hb).1
  done := by
    intro X hP hw hK hc i pins s σ H E I hf st hg
    subst hP hw hK
    obtain ⟨⟨old, he⟩, hit, hne⟩ := st
    obtain ⟨xs, hq, hx⟩ := hg
    obtain ⟨its, rv, p, hz⟩ := I.list hq
    obtain ⟨f0, f1, f2, f3, f4, f5⟩ := hf it (by simp)
    have hl := rv.length
    exact wpAny_pyNext_enum_end (I.ok.hd hc) he hit p.isList (by simp; omega) fun h' eb => ⟨rfl, I.turned (t' := s.toks) (fun b o hb q => eb b o hb q) f0 f1 f3 f4 f5⟩
  self := fun A i s Q E st h => let ⟨⟨_, he⟩, _⟩ := st; wpAny_pyIter_enum he h
def iEnum (K : PySem.W.Frag) (ta : TA) : TI := fun σ H R => ta σ H fun vs H1 => ∃ a xs, vs = [.ref a] ∧ SqL K H1 a xs ∧ R (Ite K a) H1
theorem pi_enum {X : Cx} {e : Expr} {ta : TA} {p pos tpos : Pos} {elts : List Expr} {kk : Nat} (hg : Gl X "enumerate") (hm : X.mg "enumerate" = none) (ha : PA X [e] ta) (hs : starEach [e] X.env = [(false, eval e X.env)] := by rfl) :
    PI X (.Tuple elts kk tpos) (.Call (.Name "enumerate" p) [e] [] pos) (iEnum X.K ta) := by
  intro pins s σ H R I h
  refine Call_ (ld_blt I hg hm boot_enumerate (PyProof.Rows.callWith_type1 (thn (ha pos pins s σ H _ I h) fun us s1 ⟨vs, H1, I1, r1, q1⟩ => ?_) hs rfl))
  obtain ⟨a, xs, ex, hq, q⟩ := q1
  subst ex
  cases r1 with
  | cons r rr =>
    cases rr
    cases r
    obtain ⟨its, rv, p', hz⟩ := I1.list hq
    refine call_enumerate_list p'.isList fun h' he hit hsz hk => wpAny_pyIter_enum he ?_
    have I2 : Inv X pins σ H1 { s1 with heap := h' } := I1.kept (t' := s1.toks) hk
    refine ⟨s1.heap.objs.size + 1, [s1.heap.objs.size + 1, s1.heap.objs.size], _, _, H1, rfl, I2, turn_enum a (s1.heap.objs.size + 1) s1.heap.objs.size, ⟨⟨.none, he⟩, hit, Nat.succ_ne_self _⟩, fun b hb => ?_, q⟩
    have e' : b = s1.heap.objs.size + 1 ∨ b = s1.heap.objs.size := by simpa using hb
    have hle : s1.heap.objs.size ≤ b := by
      rcases e' with z | z
      · rw [z]; exact Nat.le_add_right _ _
      · rw [z]; exact Nat.le_refl _
    exact I1.fpOk hle (I1.hok.fresh hle)
end L2
namespace Att
open PySem PySem.W PySem.Calls PyProof.Rows
section
variable {prog : Program} {w : World} {A : Around} {E : Value → Shared → Prop} {s : Shared} {K : Frag}
end
end Att
namespace L2
open PySem PySem.Spec PyProof.Rows
end L2
namespace L2
open PySem PySem.Spec PyProof.Rows
abbrev KOf {K : PySem.W.Frag} {h : Heap} (_ : K.In h) : PySem.W.Frag := K
end L2
namespace L2
open PySem PySem.Spec PyProof.Rows
/-- the j-th statement of a class's body -/
def inClass (s : Stmt) (j : Nat) : Stmt := match s with
  | .ClassDef _ _ _ body _ _ _ _ _ _ _ => body.getD j (.Pass ⟨0, 0, 0, 0⟩)
  | _ => .Pass ⟨0, 0, 0, 0⟩
def defArgs (s : Stmt) : Arguments := match s with
  | .FunctionDef _ a _ _ _ _ _ _ _ _ => a
  | _ => { posonlyargs := [], args := [], vararg := none, kwonlyargs := [], kw_defaults := [], kwarg := none, defaults := [] }
def defBody (s : Stmt) : List Stmt := match s with
  | .FunctionDef _ _ b _ _ _ _ _ _ _ => b
  | _ => []
def defScope (s : Stmt) : Scope := match s with
  | .FunctionDef _ _ _ _ _ _ sc _ _ _ => sc
  | _ => { kind := .function, names := [], isGenerator := false, isCoroutine := false }
abbrev CX0 : CXT := fun _ _ _ _ _ _ => False
abbrev E0 : XK := fun _ _ _ => False
theorem pass0 {X : Cx} : Passes CX0 X E0 := fun _ _ _ _ _ _ _ h => h.elim
structure Fun (K : PySem.W.Frag) (x qual : Str) (st : Stmt) (f : Addr) (fd : FuncData) : Prop where
  ex : ∃ (oc : Value) (od : Option Addr) (kV doc pm : Value) (an : Option Addr) (cdv ct : Value) (osl : Array (Option Value)),
    fd = PySem.W.fnOf x qual (defArgs st) (defBody st) (defScope st) .none kV doc pm an cdv ct ∧ K.lookup f = some ⟨oc, od, .func fd, osl⟩ ∧ PySem.W.codeIn K cdv qual = true
  kp : PySem.W.keepIn K (.ref f) = true
section
variable {P : Program} {w : World} {K : PySem.W.Frag} {mg : Str → Option Value} {base : Heap}
/-- THE RULE for a def: its body as a term of rules, and the reading of that term -/
theorem Fun.ok {x qual : Str} {st : Stmt} {f : Addr} {fd : FuncData} {N ps : List Str} {k : Nat} {sp : Sp} (F : Fun K x qual st f fd) (S : FnScope N ps (defScope st)) (len : ∀ vs H Q E, sp vs H Q E → vs.length = ps.length)
    (hbody : ∀ (cdv : Value) (A : Around) (outer : List Env) (s : Shared) (H : Hp) (vs : List V) (Q : VK) (E : XK), Room k (A.deeper (envOfC qual (defScope st) s.heap.objs.size f cdv)) → sp vs H Q E →
      ∃ t, PSs (cxOf CX0 P w K mg base N qual (defScope st) f cdv A outer s H E).nox (defBody st) t ∧ t { nx := fun _ H' => Q .non H', rt := Q } (start N vs) H) : FnOk P w K mg base CX0 (k + 1) f fd ps sp := by
  obtain ⟨oc, od, kV, doc, pm, an, cdv, ct, osl, rfl, lk, hcd⟩ := F.ex
  refine fn_of lk hcd S len fun A outer s H vs Q E hr hsp => ?_
  obtain ⟨t, h, q⟩ := hbody cdv A outer s H vs Q E hr hsp
  exact ⟨t, h.nox, q⟩
/-- how its arguments bind (no defaults): h is «fun _ _ _ _ _ _ us hl => match us, hl with | [_, _], _ => rfl», one _ a parameter -/
theorem Fun.binds {x qual : Str} {st : Stmt} {f : Addr} {fd : FuncData} {ps : List Str} (F : Fun K x qual st f fd)
    (h : ∀ (kV doc pm : Value) (an : Option Addr) (cdv ct : Value) (us : List Value), us.length = ps.length → bindArgs (PySem.W.fnOf x qual (defArgs st) (defBody st) (defScope st) .none kV doc pm an cdv ct) ⟨us, []⟩ = pure (ps.zip us)) : Binds K fd ps [] := by
  obtain ⟨oc, od, kV, doc, pm, an, cdv, ct, osl, rfl, lk, hcd⟩ := F.ex
  exact .all (h kV doc pm an cdv ct)
theorem fun_mk {x qual : Str} {st : Stmt} {f : Addr} {oc : Value} {od an : Option Addr} {osl : Array (Option Value)} {kV doc pm cdv ct : Value} (l : K.lookup f = some ⟨oc, od, .func (PySem.W.fnOf x qual (defArgs st) (defBody st) (defScope st) .none kV doc pm an cdv ct), osl⟩)
    (c : PySem.W.codeIn K cdv qual = true) (k : PySem.W.keepIn K (.ref f) = true) : Fun K x qual st f (PySem.W.fnOf x qual (defArgs st) (defBody st) (defScope st) .none kV doc pm an cdv ct) := ⟨⟨oc, od, kV, doc, pm, an, cdv, ct, osl, rfl, l, c⟩, k⟩
end
theorem hu_of {A : Around} {k : Nat} (hr : Room k A) : A.units + 1 < cLine := Nat.lt_of_le_of_lt (Nat.add_le_add_left (by decide : 1 ≤ 64) _) hr.units
section
variable {X : Cx}
end
theorem iteT {A B : Prop} (h : A) : if true = true then A else B := by
  rw [if_pos rfl]
  exact h
theorem ite2 {c A B : Prop} [Decidable c] (h1 : c → A) (h2 : ¬ c → B) : if c then A else B := by
  by_cases h : c
  · rw [if_pos h]
    exact h1 h
  · rw [if_neg h]
    exact h2 h
/-- all that was tracked is as it was -/
def Same (H H' : Hp) : Prop := ∀ b o, H b = some o → H' b = some o
theorem Same.refl (H : Hp) : Same H H := fun _ _ h => h
theorem Same.trans {H H1 H2 : Hp} (a : Same H H1) (b : Same H1 H2) : Same H H2 := fun c o h => b c o (a c o h)
theorem Same.free {H H' : Hp} (e : Same H H') {l : Addr} (h : H' l = Option.none) : H l = Option.none := by
  cases q : H l with
  | none => rfl
  | some o =>
    rw [e l o q] at h
    cases h
theorem Same.seq {K : PySem.W.Frag} {H H' : Hp} {a : Addr} {xs : List V} (e : Same H H') (h : SqL K H a xs) : SqL K H' a xs := by
  rcases h with (h | ⟨o, h⟩) | h
  · exact .inl (.inl (e _ _ h))
  · exact .inl (.inr ⟨o, e _ _ h⟩)
  · exact .inr h
section
variable {κ : Type} [DecidableEq κ]
end
theorem at_of {xs : List V} {z : Int} {j : Nat} {v : V} (e : z = (j : Int)) (h : xs[j]? = some v) : atI xs z = some v := by
  rw [e]
  exact atI_nat h
theorem nd_ix {α : Type} {l : List α} (hN : l.Nodup) {i j : Nat} {x : α} (a : l[i]? = some x) (b : l[j]? = some x) : i = j := by
  obtain ⟨h1, e1⟩ := List.getElem?_eq_some_iff.mp a
  obtain ⟨h2, e2⟩ := List.getElem?_eq_some_iff.mp b
  exact (List.getElem_inj hN).mp (e1.trans e2.symm)
end L2
end
section
section
set_option Elab.async false
set_option linter.all false
set_option maxRecDepth 100000
set_option maxHeartbeats 2000000
namespace L2
open PySem PySem.Spec PyProof.Rows
open PySem.W (WData Codec OpenSpec Well WellAll ReadsW ReadsAllW)
/-! ### an answer as data -/
mutual
/-- x stands for the datum d, lists and tuples all the way -/
inductive Dw (K : PySem.W.Frag) (H : Hp) : V → WData → Prop
  | non : Dw K H .non .none
  | bl (b : Bool) : Dw K H (.bl b) (.bool b)
  | int (i : Int) : Dw K H (.int i) (.int i)
  | str (x : Str) : Dw K H (.str x) (.str x)
  | byt (b : Array UInt8) : Dw K H (.byt b) (.bytes b.toList)
  | lst {a : Addr} {xs : List V} {ds : List WData} : SqL K H a xs → DwAll K H xs ds → Dw K H (.ref a) (.list ds)
  | tup {a : Addr} {xs : List V} {ds : List WData} : SqT K H a xs → DwAll K H xs ds → Dw K H (.ref a) (.tuple ds)
inductive DwAll (K : PySem.W.Frag) (H : Hp) : List V → List WData → Prop
  | nil : DwAll K H [] []
  | cons {v : V} {vs : List V} {d : WData} {ds : List WData} : Dw K H v d → DwAll K H vs ds → DwAll K H (v :: vs) (d :: ds)
end
theorem dw_ints {K : PySem.W.Frag} {H : Hp} : ∀ ns : List Int, DwAll K H (ns.map V.int) (ns.map WData.int)
  | [] => .nil
  | n :: r => .cons (.int n) (dw_ints r)
theorem ints_dw {K : PySem.W.Frag} {H : Hp} : ∀ (ns : List Int) (xs : List V), DwAll K H xs (ns.map WData.int) → xs = ns.map V.int
  | [], xs, h => by
    cases h
    rfl
  | n :: r, xs, h => by
    cases h with
    | cons h1 h2 =>
      cases h1
      rw [ints_dw r _ h2] <;> rfl
section
variable {P : Program} {w : World} {K : PySem.W.Frag} {H : Hp} {h : Heap} {R : PySem.W.WRecords} {cl : Str → Option Addr}
theorem sqL_at {a : Addr} {xs : List V} (hok : HOk P w H h) (KX : K.In h) (q : SqL K H a xs) : ∃ (its : List Value) (o : Obj) (n : Nat), Vals xs its ∧ h.get? a = some o ∧ o.cls = .type "list" ∧ o.data = .seq its.toArray n := by
  rcases q with q | ⟨o, its, n, e, hc, _, hd, _, hv⟩
  · obtain ⟨_, its, n, hv, e⟩ := (show ObjOk P w H h a (.lst xs) from q.ok hok)
    exact ⟨its, _, n, hv, e, rfl, rfl⟩
  · exact ⟨its.toList, o, n, hv, KX _ _ e, hc, by simp [hd]⟩
theorem sqT_at {a : Addr} {xs : List V} (hok : HOk P w H h) (KX : K.In h) (q : SqT K H a xs) : ∃ (its : List Value) (o : Obj) (n : Nat), Vals xs its ∧ h.get? a = some o ∧ o.cls = .type "tuple" ∧ o.data = .seq its.toArray n := by
  rcases q with q | ⟨o, its, n, e, hc, hd, _, hv⟩
  · obtain ⟨_, its, hv, o, e, hc, n, hd⟩ := (show ObjOk P w H h a (.tup xs) from q.ok hok)
    exact ⟨its, o, n, hv, e, hc, hd⟩
  · exact ⟨its.toList, o, n, hv, KX _ _ e, hc, by simp [hd]⟩
mutual
theorem Dw.reads (hok : HOk P w H h) (KX : K.In h) : ∀ (d : WData) (v : V) (u : Value), Dw K H v d → RelV v u → ∃ as, ReadsW R cl h u d as
  | .none, _, _, x, r => by
    cases x
    cases r
    exact ⟨_, ReadsW.none⟩
  | .bool b, _, _, x, r => by
    cases x
    cases r
    exact ⟨_, ReadsW.bool b⟩
  | .int i, _, _, x, r => by
    cases x
    obtain ⟨t, rfl⟩ := r
    exact ⟨_, ReadsW.int i t⟩
  | .str s, _, _, x, r => by
    cases x
    obtain ⟨t, rfl⟩ := r
    exact ⟨_, ReadsW.str s t⟩
  | .bytes b, _, _, x, r => by
    cases x
    obtain ⟨t, rfl⟩ := r
    exact ⟨_, ReadsW.bytes _ t⟩
  | .list ds, _, _, x, r => by
    cases x with
    | lst hs ha =>
      cases r
      obtain ⟨its, o, n, rv, ho, hc, hd⟩ := sqL_at hok KX hs
      obtain ⟨as, hr⟩ := Dw.readsAll hok KX ds _ its ha rv
      exact ⟨_, ReadsW.list ho hc hd hr⟩
  | .tuple ds, _, _, x, r => by
    cases x with
    | tup hs ha =>
      cases r
      obtain ⟨its, o, n, rv, ho, hc, hd⟩ := sqT_at hok KX hs
      obtain ⟨as, hr⟩ := Dw.readsAll hok KX ds _ its ha rv
      exact ⟨_, ReadsW.tuple ho hc hd hr⟩
  | .float _, _, _, x, _ => by cases x
  | .dict _, _, _, x, _ => by cases x
  | .bytearray _, _, _, x, _ => by cases x
  | .set _, _, _, x, _ => by cases x
  | .frozenset _, _, _, x, _ => by cases x
  | .obj _ _, _, _, x, _ => by cases x
theorem Dw.readsAll (hok : HOk P w H h) (KX : K.In h) : ∀ (ds : List WData) (vs : List V) (us : List Value), DwAll K H vs ds → Vals vs us → ∃ as, ReadsAllW R cl h us ds as
  | [], _, _, x, r => by
    cases x
    cases r
    exact ⟨_, ReadsAllW.nil⟩
  | d :: ds, _, _, x, r => by
    cases x with
    | cons h1 h2 =>
      cases r with
      | cons r1 r2 =>
        obtain ⟨as, q1⟩ := Dw.reads hok KX d _ _ h1 r1
        obtain ⟨bs, q2⟩ := Dw.readsAll hok KX ds _ _ h2 r2
        exact ⟨_, ReadsAllW.cons q1 q2⟩
end
end
/-! ### the arguments -/
mutual
/-- data that a codec tells -/
def plW : WData → Bool
  | .none => true
  | .bool _ => true
  | .int _ => true
  | .str _ => true
  | .bytes _ => true
  | .list xs => plWs xs
  | .tuple xs => plWs xs
  | _ => false
def plWs : List WData → Bool
  | [] => true
  | x :: r => plW x && plWs r
end
theorem plWs_map {α : Type} {f : α → WData} (h : ∀ a, plW (f a) = true) : ∀ l : List α, plWs (l.map f) = true
  | [] => rfl
  | x :: r => by
    show (plW (f x) && plWs (r.map f)) = true
    rw [h x, plWs_map h r] <;> rfl
theorem pl_enc : ∀ (c : Codec) (a : c.denote), plW (c.enc a) = true
  | .unit, _ => rfl
  | .bool, _ => rfl
  | .int _ _, _ => rfl
  | .nat _ _, _ => rfl
  | .u8, _ => rfl
  | .bytes _ _, _ => rfl
  | .text _ _ _ _, _ => rfl
  | .list _ _ c, a => plWs_map (fun x => pl_enc c x) a
  | .pair c d, a => by
    show (plW (c.enc a.1) && (plW (d.enc a.2) && true)) = true
    rw [pl_enc c a.1, pl_enc d a.2] <;> rfl
  | .triple c d e, a => by
    show (plW (c.enc a.1) && (plW (d.enc a.2.1) && (plW (e.enc a.2.2) && true))) = true
    rw [pl_enc c a.1, pl_enc d a.2.1, pl_enc e a.2.2] <;> rfl
  | .option c, none => rfl
  | .option c, some x => pl_enc c x
theorem pl_encAll : ∀ (cs : List Codec) (a : Codec.denoteAll cs), plWs (Codec.encAll cs a) = true
  | [], _ => rfl
  | c :: cs, a => by
    show (plW (c.enc a.1) && plWs (Codec.encAll cs a.2)) = true
    rw [pl_enc c a.1, pl_encAll cs a.2] <;> rfl
theorem weight_mem : ∀ {xs : List WData} {d : WData}, d ∈ xs → d.weight ≤ WData.weightAll xs
  | [], d, h => absurd h (by simp)
  | x :: r, d, h => by
    show d.weight ≤ x.weight + 1 + WData.weightAll r
    rcases List.mem_cons.mp h with e | m
    · rw [e]
      omega
    · have z := weight_mem m
      omega
def toV : Value → V
  | .none => .non
  | .bool b => .bl b
  | .int i _ => .int i
  | .str x _ => .str x
  | .bytes b _ => .byt b
  | .ref a => .ref a
  | _ => .non
/-- a value of the arguments, its objects among A -/
def OkU (A : List Addr) : Value → Prop
  | .none => True
  | .bool _ => True
  | .int _ _ => True
  | .str _ _ => True
  | .bytes _ _ => True
  | .ref a => a ∈ A
  | _ => False
theorem OkU.mono {A B : List Addr} (h : ∀ a ∈ A, a ∈ B) : ∀ {u : Value}, OkU A u → OkU B u := fun {u} x => by
  cases u with
  | ref a => exact h a x
  | none => trivial
  | bool b => trivial
  | int i t => trivial
  | str s t => trivial
  | bytes b t => trivial
  | _ => exact False.elim x
theorem relV_toV {A : List Addr} {u : Value} (x : OkU A u) : RelV (toV u) u := by
  cases u with
  | ref a => rfl
  | none => rfl
  | bool b => rfl
  | int i t => exact ⟨t, rfl⟩
  | str s t => exact ⟨t, rfl⟩
  | bytes b t => exact ⟨t, rfl⟩
  | _ => exact False.elim x
theorem vals_toV {A : List Addr} : ∀ {vs : List Value}, (∀ u ∈ vs, OkU A u) → Vals (vs.map toV) vs
  | [], _ => .nil
  | u :: r, h => .cons (relV_toV (h u (List.mem_cons_self ..))) (vals_toV fun x hx => h x (List.mem_cons_of_mem _ hx))
/-- an object of the arguments -/
def ArgOb (h : Heap) (A : List Addr) (a : Addr) : Prop := ∃ vs : List Value, vs.length ≤ sizeLine ∧ (∀ u ∈ vs, OkU A u) ∧
  (h.get? a = some { cls := .type "list", data := .seq vs.toArray } ∨ h.get? a = some { cls := .type "tuple", data := .seq vs.toArray })
theorem ArgOb.mono {h : Heap} {A B : List Addr} {a : Addr} (k : ∀ a ∈ A, a ∈ B) (x : ArgOb h A a) : ArgOb h B a := by
  obtain ⟨vs, h1, h2, h3⟩ := x
  exact ⟨vs, h1, fun u hu => (h2 u hu).mono k, h3⟩
theorem wellAll_len {P : Params} {h : Heap} : ∀ {vs : List Value} {ds : List WData}, WellAll P h vs ds → vs.length = ds.length
  | _, _, .nil => rfl
  | _, _, .cons _ b => by
    show _ + 1 = _ + 1
    rw [wellAll_len b]
theorem well_list {P : Params} {h : Heap} {v : Value} {ds : List WData} (x : Well P h v (.list ds)) : ∃ (a : Addr) (vs : List Value), v = .ref a ∧ h.get? a = some { cls := .type "list", data := .seq vs.toArray } ∧ WellAll P h vs ds := by
  cases x with
  | list ho hall => exact ⟨_, _, rfl, ho, hall⟩
theorem well_tuple {P : Params} {h : Heap} {v : Value} {ds : List WData} (x : Well P h v (.tuple ds)) : ∃ (a : Addr) (vs : List Value), v = .ref a ∧ h.get? a = some { cls := .type "tuple", data := .seq vs.toArray } ∧ WellAll P h vs ds := by
  cases x with
  | tuple ho hall => exact ⟨_, _, rfl, ho, hall⟩
theorem well_cons {P : Params} {h : Heap} {us : List Value} {d : WData} {ds : List WData} (x : WellAll P h us (d :: ds)) : ∃ (v : Value) (vs : List Value), us = v :: vs ∧ Well P h v d ∧ WellAll P h vs ds := by
  cases x with
  | cons a b => exact ⟨_, _, rfl, a, b⟩
theorem line_of {n : Nat} (h : n ≤ 1048576) : n ≤ sizeLine := Nat.le_trans h (by decide)
section
variable {P : Params} {h : Heap}
mutual
theorem area_one : ∀ (d : WData) (v : Value), Well P h v d → plW d = true → d.weight ≤ 1048576 → ∃ A : List Addr, OkU A v ∧ ∀ a ∈ A, ArgOb h A a
  | .none, _, x, _, _ => by
    cases x
    exact ⟨[], trivial, fun a m => absurd m (by simp)⟩
  | .bool b, _, x, _, _ => by
    cases x
    exact ⟨[], trivial, fun a m => absurd m (by simp)⟩
  | .int i, _, x, _, _ => by
    cases x
    exact ⟨[], trivial, fun a m => absurd m (by simp)⟩
  | .str s, _, x, _, _ => by
    cases x
    exact ⟨[], trivial, fun a m => absurd m (by simp)⟩
  | .bytes b, _, x, _, _ => by
    cases x
    exact ⟨[], trivial, fun a m => absurd m (by simp)⟩
  | .list ds, _, x, p, z => by
    obtain ⟨a, vs, rfl, ho, hall⟩ := well_list x
    have z2 : WData.weightAll ds ≤ 1048576 := z
    obtain ⟨A, h1, h2⟩ := area_all ds _ hall p fun d hd => Nat.le_trans (weight_mem hd) z2
    have k : ∀ b ∈ A, b ∈ a :: A := fun b hb => List.mem_cons_of_mem _ hb
    refine ⟨a :: A, List.mem_cons_self .., fun b hb => ?_⟩
    rcases List.mem_cons.mp hb with e | m
    · rw [e]
      exact ⟨vs, line_of (by rw [wellAll_len hall]; exact Nat.le_trans (PySem.W.length_le_weightAllW ds) z2), fun u hu => (h1 u hu).mono k, .inl ho⟩
    · exact (h2 b m).mono k
  | .tuple ds, _, x, p, z => by
    obtain ⟨a, vs, rfl, ho, hall⟩ := well_tuple x
    have z2 : WData.weightAll ds ≤ 1048576 := z
    obtain ⟨A, h1, h2⟩ := area_all ds _ hall p fun d hd => Nat.le_trans (weight_mem hd) z2
    have k : ∀ b ∈ A, b ∈ a :: A := fun b hb => List.mem_cons_of_mem _ hb
    refine ⟨a :: A, List.mem_cons_self .., fun b hb => ?_⟩
    rcases List.mem_cons.mp hb with e | m
    · rw [e]
      exact ⟨vs, line_of (by rw [wellAll_len hall]; exact Nat.le_trans (PySem.W.length_le_weightAllW ds) z2), fun u hu => (h1 u hu).mono k, .inr ho⟩
    · exact (h2 b m).mono k
  | .float _, _, _, p, _ => Bool.noConfusion (show false = true from p)
  | .dict _, _, _, p, _ => Bool.noConfusion (show false = true from p)
  | .bytearray _, _, _, p, _ => Bool.noConfusion (show false = true from p)
  | .set _, _, _, p, _ => Bool.noConfusion (show false = true from p)
  | .frozenset _, _, _, p, _ => Bool.noConfusion (show false = true from p)
  | .obj _ _, _, _, p, _ => Bool.noConfusion (show false = true from p)
theorem area_all : ∀ (ds : List WData) (vs : List Value), WellAll P h vs ds → plWs ds = true → (∀ d ∈ ds, d.weight ≤ 1048576) → ∃ A : List Addr, (∀ u ∈ vs, OkU A u) ∧ ∀ a ∈ A, ArgOb h A a
  | [], _, x, _, _ => by
    cases x
    exact ⟨[], fun u m => absurd m (by simp), fun a m => absurd m (by simp)⟩
  | d :: ds, _, x, p, z => by
    obtain ⟨v, vs, rfl, x1, x2⟩ := well_cons x
    have q : plW d = true ∧ plWs ds = true := Bool.and_eq_true_iff.mp p
    obtain ⟨A, a1, a2⟩ := area_one d v x1 q.1 (z d (List.mem_cons_self ..))
    obtain ⟨B, b1, b2⟩ := area_all ds vs x2 q.2 fun e he => z e (List.mem_cons_of_mem _ he)
    have kA : ∀ b ∈ A, b ∈ A ++ B := fun b hb => List.mem_append.mpr (.inl hb)
    have kB : ∀ b ∈ B, b ∈ A ++ B := fun b hb => List.mem_append.mpr (.inr hb)
    refine ⟨A ++ B, fun u hu => ?_, fun b hb => ?_⟩
    · rcases List.mem_cons.mp hu with e | m
      · rw [e]
        exact a1.mono kA
      · exact (b1 u m).mono kB
    · rcases List.mem_append.mp hb with m | m
      · exact (a2 b m).mono kA
      · exact (b2 b m).mono kB
end
end
/-- what is tracked of an argument's object -/
def hoOf (o : Obj) : Option HO := match o.data with
  | .seq vs _ => if (o.cls == Value.type "list") = true then some (.frz o (.lst (vs.toList.map toV))) else some (.frz o (.tup (vs.toList.map toV)))
  | _ => none
def argH (K : PySem.W.Frag) (h : Heap) (A : List Addr) : Hp := fun b => if b ∈ A then (if (K.lookup b).isNone = true then (h.get? b).bind hoOf else none) else none
/-- nothing is tracked but what is known to the object -/
def OnlyF (H : Hp) : Prop := ∀ b, H b = none ∨ ∃ o u, H b = some (.frz o u)
theorem hoOf_lst (vs : List Value) : hoOf { cls := .type "list", data := .seq vs.toArray } = some (.frz { cls := .type "list", data := .seq vs.toArray } (.lst (vs.map toV))) := by
  show (if (Value.type "list" == Value.type "list") = true then some (HO.frz { cls := .type "list", data := .seq vs.toArray } (.lst (vs.toArray.toList.map toV))) else some (HO.frz { cls := .type "list", data := .seq vs.toArray } (.tup (vs.toArray.toList.map toV)))) = _
  rw [if_pos (beq_self_eq_true _)]
theorem hoOf_tup (vs : List Value) : hoOf { cls := .type "tuple", data := .seq vs.toArray } = some (.frz { cls := .type "tuple", data := .seq vs.toArray } (.tup (vs.map toV))) := by
  show (if (Value.type "tuple" == Value.type "list") = true then some (HO.frz { cls := .type "tuple", data := .seq vs.toArray } (.lst (vs.toArray.toList.map toV))) else some (HO.frz { cls := .type "tuple", data := .seq vs.toArray } (.tup (vs.toArray.toList.map toV)))) = _
  rw [if_neg (by decide)]
section
variable {P : Program} {w : World} {K : PySem.W.Frag} {h : Heap} {A : List Addr}
theorem argH_at {b : Addr} {o : Obj} (hb : b ∈ A) (hk : K.lookup b = none) (e : h.get? b = some o) : argH K h A b = hoOf o := by
  unfold argH
  rw [if_pos hb, hk, if_pos (show (none : Option Obj).isNone = true from rfl), e] <;> rfl
theorem of_argH {b : Addr} {u : HO} (q : argH K h A b = some u) : b ∈ A ∧ K.lookup b = none := by
  unfold argH at q
  by_cases hb : b ∈ A
  · rw [if_pos hb] at q
    cases hk : K.lookup b with
    | none => exact ⟨hb, rfl⟩
    | some o =>
      rw [hk, if_neg (by simp)] at q
      cases q
  · rw [if_neg hb] at q
    cases q
/-- what stands tracked -/
theorem argH_is (ar : ∀ a ∈ A, ArgOb h A a) {b : Addr} {u : HO} (q : argH K h A b = some u) : K.lookup b = none ∧ ∃ vs : List Value, vs.length ≤ sizeLine ∧ (∀ u ∈ vs, OkU A u) ∧
    ((h.get? b = some { cls := .type "list", data := .seq vs.toArray } ∧ u = .frz { cls := .type "list", data := .seq vs.toArray } (.lst (vs.map toV))) ∨
     (h.get? b = some { cls := .type "tuple", data := .seq vs.toArray } ∧ u = .frz { cls := .type "tuple", data := .seq vs.toArray } (.tup (vs.map toV)))) := by
  obtain ⟨hb, hk⟩ := of_argH q
  obtain ⟨vs, h1, h2, h3⟩ := ar b hb
  refine ⟨hk, vs, h1, h2, ?_⟩
  rcases h3 with e | e
  · rw [argH_at hb hk e, hoOf_lst] at q
    exact .inl ⟨e, (Option.some.inj q).symm⟩
  · rw [argH_at hb hk e, hoOf_tup] at q
    exact .inr ⟨e, (Option.some.inj q).symm⟩
theorem argH_only (ar : ∀ a ∈ A, ArgOb h A a) : OnlyF (argH K h A) := fun b => by
  cases q : argH K h A b with
  | none => exact .inl rfl
  | some u =>
    obtain ⟨_, vs, _, _, ⟨_, e⟩ | ⟨_, e⟩⟩ := argH_is ar q
    · exact .inr ⟨_, _, by rw [e]⟩
    · exact .inr ⟨_, _, by rw [e]⟩
theorem argH_ok (ar : ∀ a ∈ A, ArgOb h A a) : HOk P w (argH K h A) h := fun b u q => by
  obtain ⟨_, vs, h1, h2, ⟨e, rfl⟩ | ⟨e, rfl⟩⟩ := argH_is ar q
  · exact ⟨e, by rw [List.length_map]; exact h1, vs, _, vals_toV h2, e⟩
  · exact ⟨e, by rw [List.length_map]; exact h1, vs, vals_toV h2, _, e, rfl, _, rfl⟩
theorem seq_inj {c c' : Value} {vs us : List Value} (e : (some { cls := c, data := .seq vs.toArray } : Option Obj) = some { cls := c', data := .seq us.toArray }) : c = c' ∧ vs = us := by
  have e1 := Option.some.inj e
  have e2 : c = c' := congrArg Obj.cls e1
  have e3 : Data.seq vs.toArray = Data.seq us.toArray := congrArg Obj.data e1
  injection e3 with e4
  refine ⟨e2, ?_⟩
  have e5 := congrArg Array.toList e4
  simpa using e5
/-- a list argument -/
theorem argL (KX : K.In h) (ar : ∀ a ∈ A, ArgOb h A a) {a : Addr} {vs : List Value} (ha : a ∈ A) (e : h.get? a = some { cls := .type "list", data := .seq vs.toArray }) : (∀ u ∈ vs, OkU A u) ∧ SqL K (argH K h A) a (vs.map toV) := by
  obtain ⟨us, h1, h2, h3⟩ := ar a ha
  have hu : us = vs := by
    rcases h3 with q | q
    · rw [e] at q
      exact (seq_inj q).2.symm
    · rw [e] at q
      exact absurd (Value.type.inj (seq_inj q).1) (by decide)
  subst hu
  refine ⟨h2, ?_⟩
  cases hk : K.lookup a with
  | none => exact .inl (.inr ⟨_, by rw [argH_at ha hk e, hoOf_lst]⟩)
  | some o =>
    have e2 := KX a o hk
    rw [e] at e2
    obtain rfl := Option.some.inj e2
    exact .inr ⟨_, us.toArray, _, hk, rfl, rfl, rfl, by rw [List.size_toArray]; exact h1, by simpa using vals_toV h2⟩
theorem argT (KX : K.In h) (ar : ∀ a ∈ A, ArgOb h A a) {a : Addr} {vs : List Value} (ha : a ∈ A) (e : h.get? a = some { cls := .type "tuple", data := .seq vs.toArray }) : (∀ u ∈ vs, OkU A u) ∧ SqT K (argH K h A) a (vs.map toV) := by
  obtain ⟨us, h1, h2, h3⟩ := ar a ha
  have hu : us = vs := by
    rcases h3 with q | q
    · rw [e] at q
      exact absurd (Value.type.inj (seq_inj q).1) (by decide)
    · rw [e] at q
      exact (seq_inj q).2.symm
  subst hu
  refine ⟨h2, ?_⟩
  cases hk : K.lookup a with
  | none => exact .inl (.inr ⟨_, by rw [argH_at ha hk e, hoOf_tup]⟩)
  | some o =>
    have e2 := KX a o hk
    rw [e] at e2
    obtain rfl := Option.some.inj e2
    exact .inr ⟨_, us.toArray, _, hk, rfl, rfl, by rw [List.size_toArray]; exact h1, by simpa using vals_toV h2⟩
mutual
theorem dw_one {Pm : Params} (KX : K.In h) (ar : ∀ a ∈ A, ArgOb h A a) : ∀ (d : WData) (v : Value), Well Pm h v d → plW d = true → OkU A v → Dw K (argH K h A) (toV v) d
  | .none, _, x, _, _ => by
    cases x
    exact .non
  | .bool b, _, x, _, _ => by
    cases x
    exact .bl b
  | .int i, _, x, _, _ => by
    cases x
    exact .int i
  | .str s, _, x, _, _ => by
    cases x
    exact .str s
  | .bytes b, _, x, _, _ => by
    cases x
    have z := Dw.byt (K := K) (H := argH K h A) b.toArray
    exact z
  | .list ds, _, x, p, hu => by
    obtain ⟨a, vs, rfl, ho, hall⟩ := well_list x
    obtain ⟨h2, hs⟩ := argL KX ar hu ho
    exact .lst hs (dw_all KX ar ds _ hall p h2)
  | .tuple ds, _, x, p, hu => by
    obtain ⟨a, vs, rfl, ho, hall⟩ := well_tuple x
    obtain ⟨h2, hs⟩ := argT KX ar hu ho
    exact .tup hs (dw_all KX ar ds _ hall p h2)
  | .float _, _, _, p, _ => Bool.noConfusion (show false = true from p)
  | .dict _, _, _, p, _ => Bool.noConfusion (show false = true from p)
  | .bytearray _, _, _, p, _ => Bool.noConfusion (show false = true from p)
  | .set _, _, _, p, _ => Bool.noConfusion (show false = true from p)
  | .frozenset _, _, _, p, _ => Bool.noConfusion (show false = true from p)
  | .obj _ _, _, _, p, _ => Bool.noConfusion (show false = true from p)
theorem dw_all {Pm : Params} (KX : K.In h) (ar : ∀ a ∈ A, ArgOb h A a) : ∀ (ds : List WData) (vs : List Value), WellAll Pm h vs ds → plWs ds = true → (∀ u ∈ vs, OkU A u) → DwAll K (argH K h A) (vs.map toV) ds
  | [], _, x, _, _ => by
    cases x
    exact .nil
  | d :: ds, _, x, p, hu => by
    obtain ⟨v, vs, rfl, x1, x2⟩ := well_cons x
    have q : plW d = true ∧ plWs ds = true := Bool.and_eq_true_iff.mp p
    exact .cons (dw_one KX ar d v x1 q.1 (hu _ (List.mem_cons_self ..))) (dw_all KX ar ds vs x2 q.2 fun u m => hu u (List.mem_cons_of_mem _ m))
end
end
/-! ### the call -/
theorem spec_call {P : Program} {w : World} {K : PySem.W.Frag} {mg mb : Str → Option Value} {CX : CXT} {k : Nat} {fa : Addr} {fd : FuncData} {ps : List Str} {sp : Sp} {s₁ : Shared} {vals : List Value} {ds : List WData} {R : PySem.W.WRecords} {cl : Str → Option Addr} {d0 : WData}
    (KX : K.In s₁.heap) (hns : s₁.heap.Ns mainGlobals mg) (hb : s₁.heap.Ns builtinsNs mb) (hbb : ∀ x : Str, x ≠ "__name__" → mb x = bootBuiltins x) (hlim : s₁.heap.NoLimit) (hg : s₁.gens = #[])
    (hwl : WellAll w.params s₁.heap vals ds) (hpl : plWs ds = true) (hwt : ∀ d ∈ ds, d.weight ≤ 1048576) (hr : Room k callerA)
    (F : ∀ base : Heap, K.In base → base.Ns mainGlobals mg → FnOk P w K mg base CX k fa fd ps sp) (hbind : ∀ (s : Shared) (us : List Value), us.length = ps.length → BindsTo s fd ⟨us, []⟩ (ps.zip us)) (hlen : ds.length = ps.length)
    (hsp : ∀ (H : Hp) (xs : List V), OnlyF H → DwAll K H xs ds → sp xs H (fun v H' => Dw K H' v d0) fun _ _ _ => False)
    (hCX : ∀ H e s', CX [] H s₁ (fun _ _ _ => False) e s' → False) :
    codeAny (model P w) callerA (.call (.ref fa) ⟨vals, []⟩) (fun r s' => ∃ u as, r = .ok (.ret u) ∧ ReadsW R cl s'.heap u d0 as ∧ OldK s₁.heap s'.heap ∧ s'.os = s₁.os ∧ AllBare s'.gens) s₁ := by
  obtain ⟨A, ho, ar⟩ := area_all ds vals hwl hpl hwt
  have hO : OnlyF (argH K s₁.heap A) := argH_only ar
  have hok : HOk P w (argH K s₁.heap A) s₁.heap := argH_ok ar
  have hS := dw_all KX ar ds vals hwl hpl ho
  have hV := vals_toV ho
  have hK : ∀ b u, argH K s₁.heap A b = some u → K.lookup b = none := fun b u q => (argH_is ar q).1
  have noA : ∀ {b : Addr} {o : Obj} {es : Array DictEntry} {ep : Nat}, s₁.heap.get? b = some o → o.data = .dict es ep → argH K s₁.heap A b = none := fun {b o es ep} e d => by
    cases q : argH K s₁.heap A b with
    | none => rfl
    | some u =>
      obtain ⟨_, vs, _, _, ⟨e2, _⟩ | ⟨e2, _⟩⟩ := argH_is ar q
      · rw [e2] at e
        cases e
        have d' : Data.seq vs.toArray _ = Data.dict es ep := d
        cases d'
      · rw [e2] at e
        cases e
        have d' : Data.seq vs.toArray _ = Data.dict es ep := d
        cases d'
  generalize argH K s₁.heap A = H at hO hok hS hK noA
  have base_of : ∀ {b : Addr} {o : Obj}, s₁.heap.get? b = some o → H b = none → (hidT s₁.heap H).get? b = some o := fun e n => hidT_get e n
  have nsK : ∀ {b : Addr} {m : Str → Option Value}, s₁.heap.Ns b m → (hidT s₁.heap H).Ns b m := fun {b m} ⟨o, es, ep, e, d, r⟩ => ⟨o, es, ep, base_of e (noA e d), d, r⟩
  have nK : ∀ b o, K.lookup b = some o → H b = none := fun b o e => by
    cases q : H b with
    | none => rfl
    | some u =>
      rw [hK b u q] at e
      cases e
  have hKb : K.In (hidT s₁.heap H) := fun b o e => base_of (KX b o e) (nK b o e)
  have hM : Mod K mg (hidT s₁.heap H) := ⟨hKb, nsK hns, ⟨mb, nsK hb, hbb⟩, let ⟨mc, h1, h2⟩ := hlim; ⟨mc, nsK h1, h2⟩⟩
  have e0 : Env0 P w K mg (hidT s₁.heap H) callerA [] s₁ H := ⟨rfl, hM, fun b o e => of_hidT e, Nat.le_of_eq (hidT_size _ _), trivial, fun b hb => absurd (show b ∈ ([] : List Addr) from hb) (by simp), hok, .of_eq hg⟩
  have hl : vals.length = ps.length := by rw [wellAll_len hwl]; exact hlen
  refine codeAny_mono ((F _ hKb (nsK hns)).run callerA [] s₁ H ⟨vals, []⟩ vals (vals.map toV) _ _ hr e0 (hbind s₁ vals hl) hV (hsp H _ hO hS)) fun r s' x => ?_
  cases r with
  | error e => exact (hCX H e s' x).elim
  | ok fl =>
    cases fl with
    | next => exact False.elim x
    | brk => exact False.elim x
    | cont => exact False.elim x
    | ret u =>
      obtain ⟨v, H', os, bare, un, hok', r', q⟩ := x
      have kept : ∀ b o, s₁.heap.get? b = some o → s'.heap.get? b = some o := fun b o e => by
        cases q2 : H b with
        | none => exact un.keep b o e q2 (by intro z; exact absurd (show b ∈ ([] : List Addr) from z) (by simp)) (by simp)
        | some u2 =>
          rcases hO b with z | ⟨ob, u3, z⟩
          · rw [q2] at z
            cases z
          · have z2 := un.frzs b ob _ z
            obtain ⟨e1, _⟩ := hok b _ z
            obtain ⟨e2, _⟩ := hok' b _ z2
            rw [e] at e1
            cases e1
            exact e2
      have KX' : K.In s'.heap := fun b o e => kept b o (KX b o e)
      obtain ⟨as, hrd⟩ := Dw.reads (R := R) (cl := cl) hok' KX' d0 v u q r'
      exact ⟨u, as, rfl, hrd, OldK.of_keep kept, os, bare⟩
/-! ### the row -/
theorem layable_weight {ds : List WData} (h : WData.layableAll ds = true) : ∀ d ∈ ds, d.weight ≤ 1048576 := fun d hd =>
  (PySem.W.layableW_iff.mp (List.all_eq_true.mp h d hd)).2.2
theorem encAll_len : ∀ (cs : List Codec) (a : Codec.denoteAll cs), (Codec.encAll cs a).length = cs.length
  | [], _ => rfl
  | c :: cs, a => by
    show (Codec.encAll cs a.2).length + 1 = cs.length + 1
    rw [encAll_len cs a.2]
/-- the goal that k_headS leaves (case hc), from the promise of the row's def: whatever the arguments that the codecs let and the row asks for, the def gives what stands for enc (f ..) -/
theorem walk_spec {r : OpenSpec} {k : Nat} {q : Program} {loose : List Str} {XP : (Str → Option Value) → Heap → Prop} {YP : World → Heap → Prop} {d : DefRec} {K : Params → PySem.W.Frag} {CX : World → CXT} {ps : List Str} {sp : World → Sp}
    (hwell : r.wellSaid = true) (hdf : d.params.defaults = []) (hlen : r.args.length = ps.length) (hr : Room k callerA)
    (hY : ∀ (w : World) (h : Heap), YP w h → (K w.params).In h)
    (F : ∀ (w : World) (mg : Str → Option Value) (fa : Addr) (h : Heap), YP w h → (K w.params).In h → h.Ns mainGlobals mg → mg d.name = some (.ref fa) →
      ∃ fd : FuncData, (∀ (s : Shared) (us : List Value), us.length = ps.length → BindsTo s fd ⟨us, []⟩ (ps.zip us)) ∧
        ∀ base : Heap, (K w.params).In base → base.Ns mainGlobals mg → FnOk r.prog w (K w.params) mg base (CX w) k fa fd ps (sp w))
    (hsp : ∀ (w : World) (H : Hp) (xs : List V) (a : Codec.denoteAll r.args), OnlyF H → Codec.withinAll r.args a = true → Codec.app r.args r.asked a = true → DwAll (K w.params) H xs (Codec.encAll r.args a) →
      sp w xs H (fun v H' => Dw (K w.params) H' v (r.ret.enc (Codec.app r.args r.f a))) fun _ _ _ => False)
    (hCX : ∀ (w : World) (H : Hp) (s : Shared) (e : Value) (s' : Shared), CX w [] H s (fun _ _ _ => False) e s' → False) :
    PySem.W.WalkOS q loose XP YP r d [] (fun f vs => PySem.call f vs) := by
  intro w s_0 s₁ mg mb G Y fa o pm cd doc dV kV ho hd hcd hD hmg hg args vals as hpre hlay hrd hwl hlo
  obtain ⟨a, e1, e2⟩ := PySem.W.os_pre_some hpre
  obtain ⟨e3, hwi⟩ := Codec.encAll_of_decAll r.args args a e1
  subst e3
  have KX := hY w _ Y
  obtain ⟨fd, hb, hF⟩ := F w mg fa _ Y KX G.T.g hmg
  refine PySem.W.enter_call (codeAny_mono (spec_call (R := []) (cl := classAt s_0.heap) (d0 := r.ret.enc (Codec.app r.args r.f a)) KX G.T.g G.T.b G.T.builtins G.T.nolimit hg hwl (pl_encAll _ _) (layable_weight hlay) hr hF hb (by rw [encAll_len]; exact hlen)
    (fun H xs hO hS => hsp w H xs a hO hwi e2 hS) fun H e s' => hCX w H s₁ e s') fun r' s' hq => ?_)
  obtain ⟨u, as', rfl, h1, h2, h3, h4⟩ := hq
  exact ⟨.inl ⟨u, _, as', rfl, fun _ => rfl, h1, (OpenSpec.post_iff hwell hwi _ _).mpr rfl, fun z => Bool.noConfusion (show false = true from z)⟩, h2, h3, h4⟩
/-- the same where the promise hangs on the written part alone -/
theorem walk_specK {r : OpenSpec} {k : Nat} {q : Program} {loose : List Str} {XP : (Str → Option Value) → Heap → Prop} {YP : World → Heap → Prop} {d : DefRec} {K : Params → PySem.W.Frag} {CX : CXT} {ps : List Str} {sp : PySem.W.Frag → Sp}
    (hwell : r.wellSaid = true) (hdf : d.params.defaults = []) (hlen : r.args.length = ps.length) (hr : Room k callerA)
    (hY : ∀ (w : World) (h : Heap), YP w h → (K w.params).In h)
    (F : ∀ (w : World) (mg : Str → Option Value) (fa : Addr) (h : Heap), YP w h → (K w.params).In h → h.Ns mainGlobals mg → mg d.name = some (.ref fa) →
      ∃ fd : FuncData, (∀ (s : Shared) (us : List Value), us.length = ps.length → BindsTo s fd ⟨us, []⟩ (ps.zip us)) ∧
        ∀ base : Heap, (K w.params).In base → base.Ns mainGlobals mg → FnOk r.prog w (K w.params) mg base CX k fa fd ps (sp (K w.params)))
    (hsp : ∀ (K : PySem.W.Frag) (H : Hp) (xs : List V) (a : Codec.denoteAll r.args), OnlyF H → Codec.withinAll r.args a = true → Codec.app r.args r.asked a = true → DwAll K H xs (Codec.encAll r.args a) →
      sp K xs H (fun v H' => Dw K H' v (r.ret.enc (Codec.app r.args r.f a))) fun _ _ _ => False)
    (hCX : ∀ (H : Hp) (s : Shared) (e : Value) (s' : Shared), CX [] H s (fun _ _ _ => False) e s' → False) :
    PySem.W.WalkOS q loose XP YP r d [] (fun f vs => PySem.call f vs) :=
  walk_spec (K := K) (CX := fun _ => CX) (sp := fun w => sp (K w.params)) hwell hdf hlen hr hY F (fun w H xs a h1 h2 h3 h4 => hsp (K w.params) H xs a h1 h2 h3 h4) fun _ H s e s' => hCX H s e s'
end L2
end
end
section
set_option Elab.async false
set_option linter.all false
set_option maxRecDepth 100000
set_option maxHeartbeats 2000000
/-! what the layer lacks: a walk over the items of a dict of tuple keys; max with a default; extend by a tuple -/
namespace Ext
open PySem PySem.Spec PyProof.Rows L2
section
variable {prog : Program} {w : World} {A : Around} {E : Value → Shared → Prop} {s : Shared}
theorem items_view {d : Addr} (hd : (d == sysModules) = false) : MeetsIn prog w (Builtin.«dict.items» ⟨[.ref d], []⟩) (fun _ R s => s.TypeIs (.ref d) "dict" ∧ R (.ok (.ret (.ref s.heap.objs.size))) { s with heap := s.heap.push { cls := .type "dict_items", data := .fields #[.ref d] } }) :=
  .of_wp fun A R s ⟨hm, h⟩ => by
    unfold Builtin.«dict.items»
    refine wpAny_bind ?_
    unfold Builtin.Dict.noArgs
    refine wpAny_bind (wpAny_notOrdered_dict hm ?_)
    show wpAny _ _ (pure d) _ _ s
    refine wpAny_pure ?_
    show wpAny _ _ (Builtin.Dict.showsAll d >>= _) _ _ s
    unfold Builtin.Dict.showsAll
    rw [if_neg (by rw [hd]; exact Bool.false_ne_true)]
    exact wpAny_bind (wpAny_pure (wpAny_bind (wpAny_newObj_type (wpAny_pure ⟨_, rfl, h⟩))))
theorem items_iter {v d : Addr} {o : Obj} {es : Array DictEntry} {ep : Nat} {Q : Value → Shared → Prop} (hv : s.heap.IsItemsView v d) (ho : s.heap.get? d = some o) (hdat : o.data = .dict es ep)
    (hQ : Q (.ref s.heap.objs.size) { s with heap := s.heap.push { cls := .type "dict_itemiterator", data := .fields #[.none, .bool false, .ref d, .int 0 0, .int es.size 0, .int ep 0, .none, .none] } }) :
    wpAny (model prog w) A (pyIter (.ref v)) Q E s := by
  obtain ⟨ov, hov, hcv, hdv⟩ := id hv
  refine wpAny_pyIter_slot hv.typeIs F.slot_dict_items_iter (wpAny_call_entry F.slot_dict_items_iter hv.typeIs F.entry_dict_items_iter ?_ (F.args_dict_items_iter_1 _))
  unfold Builtin.«dict_items.__iter__»
  refine wpAny_bind (wpAny_pure (wpAny_bind ?_))
  unfold Builtin.Dict_items.dictOf
  refine wpAny_bind (wpAny_field hov hdv (x := .ref d) rfl (wpAny_pure (wpAny_bind ?_)))
  unfold Builtin.Dict_items.newIterator
  refine wpAny_bind (wpAny_dictEntries ho hdat (wpAny_bind (wpAny_dictEpoch ho hdat ?_)))
  have own : Builtin.Dict_items.ownsTuple "dict_itemiterator" = true := by decide
  simp only [own, if_true]
  refine wpAny_newObj_type (wpAny_pure ⟨_, rfl, "dict_itemiterator", _, ⟨_, Heap.get?_push_size _ rfl, rfl⟩, F.slot_dict_itemiterator_next.lookup, ?_⟩) (by
    simp only [sizeOk, Builtin.Dict_items.ownedTupleFields, List.size_toArray, List.length_append, List.length_cons, List.length_nil, sizeLine_eq]; omega)
  simpa [rawInt, Builtin.Dict_items.ownedTupleFields] using hQ
theorem items_next {it d : Addr} {i n ep : Nat} {od : Obj} {es : Array DictEntry} {en : DictEntry} {ok ov : Value} {Q : Option Value → Shared → Prop} (hit : IsItemIter s.heap it d i n ep ok ov) (hod : s.heap.get? d = some od) (hdd : od.data = .dict es ep) (hsz : es.size = n) (hx : es[i]? = some en)
    (hQ : ∀ h', IsItemIterOut h' it d (i + 1) n ep en.key en.val s.heap.objs.size → h'.get? s.heap.objs.size = some { cls := .type "tuple", data := .seq #[en.key, en.val] } → h'.objs.size = s.heap.objs.size + 1 →
      (∀ b o, b ≠ it → s.heap.get? b = some o → h'.get? b = some o) → Q (some (.ref s.heap.objs.size)) { s with heap := h' }) : wpAny (model prog w) A (pyNext (.ref it)) Q E s := by
  obtain ⟨hp, g, dr, tk, os⟩ := s
  have hT : Shared.TypeIs ⟨hp, g, dr, tk, os⟩ (.ref it) "dict_itemiterator" := ⟨_, hit, rfl⟩
  unfold pyNext
  refine wpAny_bind (wpAny_attempt (wpAny_callSpecial?_slot (name := Str.ofString "__next__") hT F.slot_dict_itemiterator_next (wpAny_call_entry F.slot_dict_itemiterator_next hT F.entry_dict_itemiterator_next ?_ (F.args_dict_itemiterator_next_1 _))))
  refine wpAny_bind (wpAny_pure (wpAny_bind (wpAny_bind ?_)))
  first | refine wpAny_bind (wpAny_typeNameOfWhole_itemiter hT (wpAny_pure ?_)) | refine wpAny_bind (wpAny_typeNameOf_itemiter hT (wpAny_pure ?_))
  refine wpAny_bind (wpAny_fieldsOf hit rfl ?_)
  have own : Builtin.Dict_items.ownsTuple "dict_itemiterator" = true := by decide
  simp only [own, if_true]
  show wpAny _ _ (if (Value.ref d == Value.none) = true then _ else _) _ _ _
  rw [if_neg (show ¬ ((Value.ref d == Value.none) = true) from Bool.false_ne_true)]
  refine wpAny_bind (wpAny_pure (wpAny_bind (wpAny_dictEntries hod hdd ?_)))
  rw [if_neg (by rw [hsz]; simp)]
  refine wpAny_bind (wpAny_pure (wpAny_bind (wpAny_dictEpoch hod hdd ?_)))
  rw [if_neg (by simp)]
  refine wpAny_pure ?_
  obtain ⟨lt, hen⟩ := Array.getElem?_eq_some_iff.mp hx
  simp only [show ¬ ((i : Int) < 0) from by omega, if_false, Int.toNat_natCast, Array.getElem?_eq_getElem lt, hen]
  refine wpAny_bind ?_
  first | refine wpAny_bind (wpAny_typeNameOfWhole_itemiter hT (wpAny_pure ?_)) | refine wpAny_bind (wpAny_typeNameOf_itemiter hT (wpAny_pure ?_))
  refine wpAny_bind (wpAny_isOneOf_itemiter hT ?_)
  show wpAny _ _ (setField (.ref it) 3 (rawInt ((i : Int) + 1)) >>= _) _ _ ⟨hp, g, dr, tk, os⟩
  refine wpAny_bind (wpAny_setField_rec hit (by simp) fun h1 e1 s1 => ?_)
  replace s1 : Heap.SameBut it hp h1 := s1
  replace e1 : IsItemIter h1 it d (i + 1) n ep ok ov := by
    have e : ((i + 1 : Nat) : Int) = (i : Int) + 1 := by omega
    unfold IsItemIter; rw [e]; simpa [rawInt] using e1
  have hT1 : Shared.TypeIs ⟨h1, g, dr, tk, os⟩ (.ref it) "dict_itemiterator" := ⟨_, e1, rfl⟩
  refine wpAny_bind (wpAny_holding (wpAny_bind (wpAny_isOneOf_itemiter hT1 (wpAny_bind (wpAny_isOneOf_itemiter hT1 ?_)))))
  show wpAny _ _ (Builtin.Dict_items.pairFromOwner (.ref it) 6 en.key en.val) _ _ ⟨h1, g, dr, tk, os⟩
  unfold Builtin.Dict_items.pairFromOwner
  refine wpAny_bind (wpAny_newTuple ?_)
  have e2 : IsItemIter (h1.push { cls := .type "tuple", data := .seq #[en.key, en.val] }) it d (i + 1) n ep ok ov := Heap.get?_push_of_some _ e1
  generalize hh2 : h1.push { cls := .type "tuple", data := .seq #[en.key, en.val] } = h2 at e2
  have z1 : h1.objs.size = hp.objs.size := s1.1
  have hil : it < hp.objs.size := Heap.lt_size hit
  have t2 : h2.get? hp.objs.size = some { cls := .type "tuple", data := .seq #[en.key, en.val] } := by rw [← hh2, ← z1]; exact Heap.get?_push_size _ rfl
  have z2 : h2.objs.size = hp.objs.size + 1 := by rw [← hh2, Heap.size_push, z1]
  have k2 : ∀ b o, b ≠ it → hp.get? b = some o → h2.get? b = some o := fun b o hb e => by rw [← hh2]; exact Heap.get?_push_of_some _ (s1.extBut b o hb e)
  show wpAny _ _ (Builtin.Dict_items.ownedTupleIsFree (.ref it) >>= _) _ _ ⟨h2, g, dr, tk, os⟩
  rw [z1]
  clear hh2 e1 s1 hT1 z1 h1
  refine wpAny_bind ?_
  unfold Builtin.Dict_items.ownedTupleIsFree
  refine wpAny_bind (wpAny_field e2 rfl (x := .none) rfl (wpAny_pure ?_))
  simp only [if_true]
  refine wpAny_bind (wpAny_field e2 rfl (x := ok) rfl (wpAny_bind (wpAny_field e2 rfl (x := ov) rfl ?_)))
  refine wpAny_bind (wpAny_setField_rec e2 (by simp) fun h3 e3 s3 => ?_)
  replace s3 : Heap.SameBut it h2 h3 := s3
  replace e3 : IsItemIter h3 it d (i + 1) n ep en.key ov := e3
  refine wpAny_bind (wpAny_setField_rec e3 (by simp) fun h4 e4 s4 => ?_)
  replace s4 : Heap.SameBut it h3 h4 := s4
  replace e4 : IsItemIter h4 it d (i + 1) n ep en.key en.val := e4
  refine wpAny_bind (wpAny_setField_rec e4 (by simp) fun h5 e5 s5 => ?_)
  replace s5 : Heap.SameBut it h4 h5 := s5
  replace e5 : IsItemIterOut h5 it d (i + 1) n ep en.key en.val hp.objs.size := e5
  refine wpAny_bind (wpAny_setField_rec e5 (by simp) fun h6 e6 s6 => ?_)
  replace s6 : Heap.SameBut it h5 h6 := s6
  replace e6 : IsItemIterOut h6 it d (i + 1) n ep en.key en.val hp.objs.size := e6
  refine wpAny_bind (wpAny_letGo (wpAny_pure (wpAny_pure ⟨_, rfl, wpAny_pure (hQ h6 e6 ?_ ?_ ?_)⟩)))
  · have ne := Nat.ne_of_gt hil
    exact s6.extBut _ _ ne (s5.extBut _ _ ne (s4.extBut _ _ ne (s3.extBut _ _ ne t2)))
  · show h6.objs.size = hp.objs.size + 1
    rw [s6.1, s5.1, s4.1, s3.1, z2]
  · exact fun b o hb e => s6.extBut b o hb (s5.extBut b o hb (s4.extBut b o hb (s3.extBut b o hb (k2 b o hb e))))
theorem items_end {it d : Addr} {i n ep : Nat} {od : Obj} {es : Array DictEntry} {ok ov : Value} {Q : Option Value → Shared → Prop} (hh : A.handled = none) (hit : IsItemIter s.heap it d i n ep ok ov) (hod : s.heap.get? d = some od) (hdd : od.data = .dict es ep) (hsz : es.size = n) (hge : n ≤ i)
    (hQ : ∀ h', Heap.ExtBut it s.heap h' → Q none { s with heap := h' }) : wpAny (model prog w) A (pyNext (.ref it)) Q E s := by
  have hT : s.TypeIs (.ref it) "dict_itemiterator" := ⟨_, hit, rfl⟩
  unfold pyNext
  refine wpAny_bind (wpAny_attempt (wpAny_callSpecial?_slot (name := Str.ofString "__next__") hT F.slot_dict_itemiterator_next (wpAny_call_entry F.slot_dict_itemiterator_next hT F.entry_dict_itemiterator_next ?_ (F.args_dict_itemiterator_next_1 _))))
  refine wpAny_bind (wpAny_pure (wpAny_bind (wpAny_bind ?_)))
  first | refine wpAny_bind (wpAny_typeNameOfWhole_itemiter hT (wpAny_pure ?_)) | refine wpAny_bind (wpAny_typeNameOf_itemiter hT (wpAny_pure ?_))
  refine wpAny_bind (wpAny_fieldsOf hit rfl ?_)
  have own : Builtin.Dict_items.ownsTuple "dict_itemiterator" = true := by decide
  simp only [own, if_true]
  show wpAny _ _ (if (Value.ref d == Value.none) = true then _ else _) _ _ s
  rw [if_neg (show ¬ ((Value.ref d == Value.none) = true) from Bool.false_ne_true)]
  refine wpAny_bind (wpAny_pure (wpAny_bind (wpAny_dictEntries hod hdd ?_)))
  rw [if_neg (by rw [hsz]; simp)]
  refine wpAny_bind (wpAny_pure (wpAny_bind (wpAny_dictEpoch hod hdd ?_)))
  rw [if_neg (by simp)]
  refine wpAny_pure ?_
  have ge : es.size ≤ i := by rw [hsz]; exact hge
  simp only [show ¬ ((i : Int) < 0) from by omega, if_false, Int.toNat_natCast, Array.getElem?_eq_none ge]
  refine wpAny_bind ?_
  first | refine wpAny_bind (wpAny_typeNameOfWhole_itemiter hT (wpAny_pure ?_)) | refine wpAny_bind (wpAny_typeNameOf_itemiter hT (wpAny_pure ?_))
  show wpAny _ _ (setField (.ref it) 2 .none >>= _) _ _ s
  refine wpAny_bind (wpAny_setField hit rfl (by simp) ?_)
  show wpAny _ _ (newExc (.type "StopIteration") [] >>= _) _ _ _
  refine wpAny_bind ?_
  simp only [newExc, newTuple]
  refine wpAny_bind (wpAny_newObj_type ?_ (by size_fits))
  refine wpAny_bind (m := firstArgMember _ _) (wpAny_of_eq (a := Value.none) (by first | rfl | (simp only [firstArgMember]; rfl)) ?_)
  refine wpAny_newObj_type ?_ (by size_fits)
  simp only [raiseNew]
  refine wpAny_bind (wpAny_handled ?_)
  rw [show A.in1.handled = none from hh]
  refine wpAny_bind (wpAny_pure (wpAny_throw ?_))
  refine wpAny_bind (wpAny_isInstance (T := "StopIteration") (b := true) ⟨_, Heap.get?_push_size _ rfl, rfl⟩ isSubtype_stop ?_)
  exact wpAny_pure (hQ _ (((Heap.SameBut.update ..).extBut.push _).push _))
end
/-! ### .items() of a locked dict of tuple keys -/
section
variable {X : Cx} {pins : List (Addr × Obj)} {σ : L2.St} {H : Hp} {s : Shared} {d : Addr} {o : Obj}
theorem frzT {kvs : List (List Key × V)} (I : Inv X pins σ H s) (h : H d = some (.frz o (.dT kvs))) :
    (d == sysModules) = false ∧ s.heap.get? d = some o ∧ o.ExactDict ∧ ∃ (es : Array DictEntry) (ep : Nat), o.data = .dict es ep ∧ es.size = kvs.length ∧
      ∀ (i : Nat) (k : List Key) (v : V), kvs[i]? = some (k, v) → ∃ (en : DictEntry) (q : Addr), es[i]? = some en ∧ en.key = .ref q ∧ H q = some (.tup (k.map kV)) ∧ RelV v en.val := by
  obtain ⟨hd, z, hs, xs, pr, o', es, ep, ho, hx, hdt, he, _⟩ := I.hok d _ h
  rw [hd] at ho
  cases ho
  refine ⟨hs, hd, hx, es, ep, hdt, ?_, fun i k v e => ?_⟩
  · have l1 : es.size = xs.length := size_of_entries he
    have l2 : kvs.length = xs.length := Paired.length pr
    omega
  · obtain ⟨b, hb, e1, e2, e3⟩ := paired_get pr e
    have q := entry_at he i
    rw [hb] at q
    exact ⟨_, b.2.1, q, rfl, e2, e3⟩
end
/-- the pairs of the locked dict at d: each a new tuple of the key's own tuple and the value -/
def Itit (d : Addr) (o : Obj) (kvs : List (List Key × V)) : It :=
  ⟨fun i H => H d = some (.frz o (.dT kvs)) ∧ i < kvs.length, fun i H x H' => ∃ (T q : Addr) (k : List Key) (v : V), kvs[i]? = some (k, v) ∧ x = .ref T ∧ H q = some (.tup (k.map kV)) ∧ H T = none ∧ H' = upd H T (.tup [.ref q, v]), fun i H => H d = some (.frz o (.dT kvs)) ∧ kvs.length ≤ i⟩
theorem turn_itemsT {P : Program} {w : World} {K : PySem.W.Frag} {d : Addr} {o : Obj} {es : Array DictEntry} {ep : Nat} {kvs : List (List Key × V)} {elts : List Expr} {kk : Nat} {tpos : Pos} (it : Addr) (hod : o.data = .dict es ep) :
    Turn P w K (.Tuple elts kk tpos) (Itit d o kvs) [it] it (fun i h => ∃ ok ov, IsItemIter h it d i kvs.length ep ok ov) where
  mem := by simp
  obj := fun i h st b hb => by
    have e : b = it := by simpa using hb
    subst e
    obtain ⟨ok, ov, e⟩ := st
    exact ⟨_, e, fun v z => nomatch z⟩
  keep := fun i h h' st k => let ⟨ok, ov, e⟩ := st; ⟨ok, ov, k it (by simp) _ e⟩
  item := by
    intro X hP hw hK hc i pins s σ H E I hf st hg
    subst hP hw hK
    obtain ⟨hd, hi⟩ := hg
    obtain ⟨hs, hgd, hx, es', ep', hdt, hsz, ent⟩ := frzT I hd
    obtain ⟨rfl, rfl⟩ := dict_ep hod hdt
    obtain ⟨⟨k, v⟩, hkv⟩ : ∃ p, kvs[i]? = some p := ⟨kvs[i], List.getElem?_eq_getElem hi⟩
    obtain ⟨en, q, hen, hkey, hq, hrv⟩ := ent i k v hkv
    obtain ⟨ok, ov, he⟩ := st
    have hlt : it < s.heap.objs.size := Heap.lt_size he
    refine items_next he hgd hdt hsz hen fun h' ho hT hz hk => ?_
    refine ⟨_, rfl, wpAny_letOwnedTupleGo_items (s := { s with heap := h' }) ho fun h'' he' sb => ?_⟩
    have hT2 : h''.get? s.heap.objs.size = some { cls := .type "tuple", data := .seq #[en.key, en.val] } := (sb.2 _ (Nat.ne_of_gt hlt)).trans hT
    have new : ObjOk X.prog X.w (upd H s.heap.objs.size (.tup [.ref q, v])) h'' s.heap.objs.size (.tup [.ref q, v]) :=
      ⟨by show 2 ≤ sizeLine; decide, [en.key, en.val], .cons hkey (.cons hrv .nil), ⟨_, hT2, rfl, _, rfl⟩⟩
    have I1 : Inv X pins σ (upd H s.heap.objs.size (.tup [.ref q, v])) { s with heap := h'' } :=
      I.turnedNew (t' := s.toks) (ch := [it]) (fun b ob hb e => (sb.2 b (by simpa using hb)).trans (hk b ob (by simpa using hb) e)) hf (Nat.le_refl _) new
    refine ⟨.ref s.heap.objs.size, _, I1, rfl, ⟨_, q, k, v, hkv, rfl, hq, I.hok.fresh (Nat.le_refl _), rfl⟩, ⟨en.key, en.val, he'⟩, fun b hb => ?_⟩
    have e : b = it := by simpa using hb
    rw [e, upd_ne (Nat.ne_of_lt hlt)]
    exact (hf it (by simp)).1
  done := by
    intro X hP hw hK hc i pins s σ H E I hf st hg
    subst hP hw hK
    obtain ⟨hd, hi⟩ := hg
    obtain ⟨f0, f1, f2, f3, f4, f5⟩ := hf it (by simp)
    obtain ⟨hs, hgd, hx, es', ep', hdt, hsz, ent⟩ := frzT I hd
    obtain ⟨rfl, rfl⟩ := dict_ep hod hdt
    obtain ⟨ok, ov, he⟩ := st
    exact items_end (I.ok.hd hc) he hgd hdt hsz hi fun h' eb => ⟨rfl, I.turned (t' := s.toks) (fun b ob hb e => eb b ob hb e) f0 f1 f3 f4 f5⟩
  self := fun A i s Q E st h => let ⟨_, _, e⟩ := st; PySem.W.kcp_self e h
def iItemsT (td : TE) : TI := fun σ H R => td σ H fun x H1 => ∃ d o kvs, x = .ref d ∧ H1 d = some (.frz o (.dT kvs)) ∧ R (Itit d o kvs) H1
theorem pi_itemsT {X : Cx} {e : Expr} {td : TE} {apos cpos : Pos} {elts : List Expr} {kk : Nat} {tpos : Pos} (he : PE X e td) (hbase : attributeBase e "items" X.env (eval e X.env) = eval e X.env := by rfl) (hline : (apos.endLine == cpos.line) = true := by rfl) :
    PI X (.Tuple elts kk tpos) (.Call (.Attribute e "items" apos) [] [] cpos) (iItemsT td) := by
  intro pins s σ H R I h
  refine wpAny_Call_method (T := "dict") (id := "dict.items") hbase rfl hline F.plainAttrs_dict F.slot_dict_items F.type_dict_items (thn (he pins s σ H _ I h) fun u s1 ⟨x, H1, I1, rx, d, o, kvs, ex, hd, q⟩ => ?_)
  subst ex
  obtain rfl : u = Value.ref d := rx
  obtain ⟨hs, hgd, hx, es, ep, hdt, hsz, ent⟩ := frzT I1 hd
  have hT : s1.TypeIs (.ref d) "dict" := ⟨o, hgd, hx.1⟩
  refine ⟨hT, fun b z => by cases z; exact ⟨o, hgd, hx.2.1⟩, ?_⟩
  have I2 : Inv X pins σ H1 { s1 with heap := s1.heap.push { cls := .type "dict_items", data := .fields #[.ref d] } } := I1.kept (t' := s1.toks) fun b ob q => Heap.get?_push_of_some _ q
  have fin : wpAny (model X.prog X.w) X.A (pyIter (.ref s1.heap.objs.size)) (PIE X pins σ (.Tuple elts kk tpos) R) X.xe { s1 with heap := s1.heap.push { cls := .type "dict_items", data := .fields #[.ref d] } } := by
    refine items_iter (d := d) (o := o) (es := es) (ep := ep) ⟨_, Heap.get?_push_size _ rfl, rfl, rfl⟩ (Heap.get?_push_of_some _ hgd) hdt (pi_one (tk := s1.toks) I2 _ (turn_itemsT _ hdt) ⟨.none, .none, ?_⟩ q)
    rw [hsz]
    exact Heap.get?_push_size _ rfl
  show wpAny _ _ (callWith cpos (.builtin "dict.items") [.ref d] [] []) _ X.xe s1
  exact method_meetsIn F.slot_dict_items F.entry_dict_items rfl (PySem.evalArgs_none ⟨rfl, hT, F.args_dict_items_1 _, _, items_view hs, hT, fin⟩)
/-! ### max(xs, default=d) -/
section
variable {prog : Program} {w : World} {A : Around} {E : Value → Shared → Prop} {s : Shared}
theorem max_args (a v : Value) : argsOk "max" ⟨[a], [(Str.ofString "default", v)]⟩ := by unfold argsOk; kernel_rfl
def Best (bt : Nat → Nat → Bool) (P : Nat → Value → Prop) (j : Nat) (best : Array Value) : Prop := (j = 0 ∧ best = #[]) ∨ ∃ i vb, j = i + 1 ∧ best = #[vb, vb] ∧ P (argBest bt i) vb
theorem max_loop {R : Result → Shared → Prop} {I : Addr} {fp wr : List Addr} {n : Nat} {P : Nat → Value → Prop} {St : Nat → Heap → Prop} (W : Walks prog w A.in1 I fp wr n P St) (bt : Nat → Nat → Bool) (hcmp : CmpOf prog w A.in1 .Gt P bt) (S : Addr) (hSf : S ∉ fp) (dv : Value) :
    ∀ (k j : Nat) (s : Shared) (best : Array Value) (c : Nat), n - j = k → j ≤ n → St j s.heap → Best bt P j best → s.heap.get? S = some { cls := .type "list", dict := none, data := .seq best c, slots := #[] } →
    (∀ v h' tk, ((n = 0 ∧ v = dv) ∨ (0 < n ∧ P (argBest bt (n - 1)) v)) → (∀ b o, b ∉ wr → b ≠ S → s.heap.get? b = some o → h'.get? b = some o) → R (.ok (.ret v)) { s with heap := h', toks := tk }) →
    codeAny (model prog w) A (.builtin "max.loop" ⟨[.ref I, .none, .ref S], [(Str.ofString "default", dv)]⟩) R s := by
  have hSw : S ∉ wr := fun h => hSf (W.sub _ h)
  have hname : (toString "max" ++ toString ".loop" : String) = "max.loop" := by decide
  intro k
  induction k with
  | zero =>
    intro j s best c hk hj hst hb hS hR
    have hin : j = n := by omega
    refine codeAny_builtin F.entry_max_loop ?_
    rw [Around.under_plainId F.plain_max_loop _]
    rcases hb with ⟨j0, rfl⟩ | ⟨i, vb, ji, rfl, hP⟩
    · show wpAny _ A.in1 (seqItems? (.ref S) >>= _) _ _ s
      refine wpAny_bind (wpAny_seqItems hS rfl ?_)
      show wpAny _ A.in1 (tryCatch (pyNext (.ref I)) _ >>= _) _ _ s
      refine wpAny_bind (wpAny_tryCatch (W.done s _ _ (hin ▸ hst) fun h' tk hk' => ?_))
      exact wpAny_bind (wpAny_rule (wpAny_pure (hR dv h' tk (.inl ⟨by omega, rfl⟩) fun b o hbw _ e => hk' b o hbw e)))
    · show wpAny _ A.in1 (seqItems? (.ref S) >>= _) _ _ s
      refine wpAny_bind (wpAny_seqItems hS rfl ?_)
      show wpAny _ A.in1 (tryCatch (pyNext (.ref I)) _ >>= _) _ _ s
      refine wpAny_bind (wpAny_tryCatch (W.done s _ _ (hin ▸ hst) fun h' tk hk' => ?_))
      have hS' := hk' S _ hSw hS
      show wpAny _ A.in1 (updateSeq S (fun _ => #[]) >>= _) _ _ _
      refine wpAny_bind (wpAny_updateSeq hS' rfl (wpAny_bind (wpAny_letGo (wpAny_pure ?_))))
      refine hR vb _ tk (.inr ⟨by omega, ?_⟩) fun b o hbw hbS e => (Heap.get?_update_other _ _ (Ne.symm hbS)).trans (hk' b o hbw e)
      have : n - 1 = i := by omega
      rw [this]; exact hP
  | succ k ih =>
    intro j s best c hk hj hst hb hS hR
    have hlt : j < n := by omega
    refine codeAny_builtin F.entry_max_loop ?_
    rw [Around.under_plainId F.plain_max_loop _]
    rcases hb with ⟨j0, rfl⟩ | ⟨i, vb, ji, rfl, hPb⟩
    · subst j0
      show wpAny _ A.in1 (seqItems? (.ref S) >>= _) _ _ s
      refine wpAny_bind (wpAny_seqItems hS rfl ?_)
      show wpAny _ A.in1 (tryCatch (pyNext (.ref I)) _ >>= _) _ _ s
      refine wpAny_bind (wpAny_tryCatch (W.item 0 s _ _ hlt hst fun v h' tk hP hst' hk' => ?_))
      have hS' := hk' S _ hSw hS
      show wpAny _ A.in1 (updateSeq S (fun _ => #[v, v]) >>= _) _ _ _
      refine wpAny_bind (wpAny_updateSeq hS' rfl ?_)
      rw [hname]
      refine wpAny_pure ⟨plainId_quiet F.plain_max_loop _, ih 1 _ #[v, v] _ (by omega) hlt (W.frame _ _ _ hst' fun b hbf o e => ?_) (.inr ⟨0, v, rfl, rfl, hP⟩) (Heap.get?_update_self _ hS' rfl) fun v' h'' tk'' hv' hk'' => ?_⟩
      · exact (Heap.get?_update_other _ _ (fun h : S = b => hSf (by rw [h]; exact hbf))).trans e
      · exact hR v' h'' tk'' hv' fun b o hbw hbS e => hk'' b o hbw hbS ((Heap.get?_update_other _ _ (Ne.symm hbS)).trans (hk' b o hbw e))
    · subst ji
      show wpAny _ A.in1 (seqItems? (.ref S) >>= _) _ _ s
      refine wpAny_bind (wpAny_seqItems hS rfl ?_)
      show wpAny _ A.in1 (tryCatch (pyNext (.ref I)) _ >>= _) _ _ s
      refine wpAny_bind (wpAny_tryCatch (W.item (i + 1) s _ _ hlt hst fun v h' tk hP hst' hk' => ?_))
      have hS' := hk' S _ hSw hS
      show wpAny _ A.in1 (tryCatch (holding [v, v] (richCompare .Gt v vb >>= _)) _ >>= _) _ _ _
      refine wpAny_bind (wpAny_tryCatch (wpAny_holding (wpAny_bind (hcmp (i + 1) (argBest bt i) v vb _ _ _ hP hPb (wpAny_bind (wpAny_holding (wpAny_truthy_bool (wpAny_bind (wpAny_letGo (wpAny_pure ?_))))))))))
      cases hb : bt (i + 1) (argBest bt i) with
      | true =>
        simp only [if_true]
        refine wpAny_bind (wpAny_updateSeq hS' rfl (wpAny_bind (wpAny_letGo ?_)))
        rw [hname]
        refine wpAny_pure ⟨plainId_quiet F.plain_max_loop _, ih (i + 1 + 1) _ #[v, v] _ (by omega) hlt (W.frame _ _ _ hst' fun b hbf o e => ?_) (.inr ⟨i + 1, v, rfl, rfl, by simp only [argBest, hb, if_true]; exact hP⟩) (Heap.get?_update_self _ hS' rfl) fun v' h'' tk'' hv' hk'' => ?_⟩
        · exact (Heap.get?_update_other _ _ (fun h : S = b => hSf (by rw [h]; exact hbf))).trans e
        · exact hR v' h'' tk'' hv' fun b o hbw hbS e => hk'' b o hbw hbS ((Heap.get?_update_other _ _ (Ne.symm hbS)).trans (hk' b o hbw e))
      | false =>
        simp only [Bool.false_eq_true, if_false]
        refine wpAny_bind (wpAny_letGo ?_)
        rw [hname]
        refine wpAny_pure ⟨plainId_quiet F.plain_max_loop _, ih (i + 1 + 1) _ #[vb, vb] c (by omega) hlt hst' (.inr ⟨i + 1, vb, rfl, rfl, by simp only [argBest, hb, Bool.false_eq_true, if_false]; exact hPb⟩) hS' fun v' h'' tk'' hv' hk'' => ?_⟩
        exact hR v' h'' tk'' hv' fun b o hbw hbS e => hk'' b o hbw hbS (hk' b o hbw e)
theorem max_call {l : Addr} {its : List Value} {ns : List Int} {d : Int} {dt : Tok} {Q : Value → Shared → Prop} (hh : A.handled = none) (hl : s.heap.IsList l its.toArray) (hi : IntsAre its ns)
    (h : ∀ h' tk m t', (∀ b o, s.heap.get? b = some o → h'.get? b = some o) → ((ns = [] ∧ m = d) ∨ (m ∈ ns ∧ ∀ a, a ∈ ns → a ≤ m)) → Q (.int m t') { s with heap := h', toks := tk }) :
    wpAny (model prog w) A (call (.builtin "max") [.ref l] [(Str.ofString "default", .int d dt)]) Q E s := by
  obtain ⟨xs, e⟩ := hi.allInts.items
  have hn : numsOf (intItems xs).toList = ns := by rw [← e]; exact hi.numsOf
  rw [nums_intItems] at hn
  subst hn
  rw [e] at hl
  have hname : (toString "max" ++ toString ".loop" : String) = "max.loop" := by decide
  refine kmb_tree F.kind_max F.plain_max F.entry_max (max_args _ _) ?_
  show wpAny _ A.in1 (Builtin.Builtins.bindParams "max" ["key", "default"] 0 ⟨[], [(Str.ofString "default", .int d dt)]⟩ >>= _) _ _ s
  refine wpAny_bind (wpAny_of_eq (show Builtin.Builtins.bindParams "max" ["key", "default"] 0 ⟨[], [(Str.ofString "default", .int d dt)]⟩ = pure [none, some (.int d dt)] from rfl) ?_)
  refine wpAny_bind (wpAny_pure (wpAny_bind (iter_intList hl fun s2 e2 st hfp hlI => ?_)))
  subst e2
  refine wpAny_bind (wpAny_newList ?_ (Nat.zero_le _))
  rw [hname]
  have W := Walks.list (prog := prog) (w := w) (A := A.in1) hh s.heap.objs.size l hlI (intItems xs)
  have hSf : (s.heap.push { cls := .type "list_iterator", data := .fields #[.ref l, .int 0 0] }).objs.size ∉ [s.heap.objs.size, l] := fun hm => Nat.lt_irrefl _ (hfp _ hm)
  refine wpAny_pure ⟨plainId_quiet F.plain_max_loop _, max_loop W _ (CmpOf.ints_gt (numAt xs) (fun _ _ => intItems_at)) _ hSf (.int d dt) _ 0 _ #[] 0 rfl (Nat.zero_le _) (W.frame _ _ _ st fun b _ o e => Heap.get?_push_of_some _ e) (.inl ⟨rfl, rfl⟩) (Heap.get?_push_size _ rfl) fun v h' tk hv hk => ?_⟩
  have old : ∀ b o, s.heap.get? b = some o → h'.get? b = some o := fun b o e => by
    refine hk b o (fun hm => ?_) (fun z => ?_) (Heap.get?_push_of_some _ (Heap.get?_push_of_some _ e))
    · rcases List.mem_cons.mp hm with e1 | hm
      · exact absurd (e1 ▸ Heap.lt_size e) (Nat.lt_irrefl _)
      · cases hm
    · have := Heap.lt_size e
      rw [z, Heap.size_push] at this
      exact absurd this (Nat.not_lt.mpr (Nat.le_succ _))
  have hsz : (intItems xs).size = xs.size := by simp [intItems]
  rcases hv with ⟨n0, rfl⟩ | ⟨n1, hP⟩
  · rw [hsz] at n0
    exact h h' tk d dt old (.inl ⟨by rw [Array.size_eq_zero_iff.mp n0]; rfl, rfl⟩)
  · rw [hsz] at n1 hP
    obtain ⟨t, rfl⟩ := intItems_at hP
    obtain ⟨g1, g2⟩ := argBest_gt (numAt xs) (xs.size - 1)
    refine h h' tk _ t old (.inr ⟨?_, fun a ha => ?_⟩)
    · rw [numAt_eq]; exact PySem.getD_mem (by rw [List.length_map, Array.length_toList]; omega)
    · obtain ⟨j, hj, rfl⟩ := mem_getD ha
      rw [List.length_map, Array.length_toList] at hj
      rw [← numAt_eq]; exact g2 j (by omega)
end
section
variable {X : Cx} {p pos kpos cpos : Pos} {e : Expr} {t : TA} {d : Int}
def tMaxD (K : PySem.W.Frag) (d : Int) (t : TA) : TE := fun σ H Q => t σ H fun vs H1 => ∃ (a : Addr) (ns : List Int), vs = [.ref a] ∧ SqL K H1 a (ns.map V.int) ∧ (ns = [] → Q (.int d) H1) ∧ ∀ m, m ∈ ns → (∀ y, y ∈ ns → y ≤ m) → Q (.int m) H1
theorem pe_maxD {jk} (hc : X.calm = true) (hg : Gl X "max") (hm : X.mg "max" = none) (ha : PA X [e] t) (he : backTo pos (starEach [e] X.env) = (false, eval e X.env) :: backTo pos (starEach [] X.env) := by rfl)
    (hpl : (backTo pos (starEach [e] X.env)).any (·.1) = false := by rfl) : PE X (.Call (.Name "max" p) [e] [⟨some "default", .Constant (.int d) jk cpos, kpos⟩] pos) (tMaxD X.K d t) := by
  intro pins s σ H Q I h
  refine wpAny_Call_Name_kw (ld_blt I hg hm boot_max ?_ (by decide) (by decide))
  refine callWith_kw (thn (ha pos pins s σ H _ I h) fun us s1 ⟨vs, H1, I1, r1, a, ns, ev, hs, q0, q1⟩ => ?_) he hpl
  subst ev
  refine kws_cons (wpAny_Constant_int (kws_nil ?_))
  have I2 := I1.tok (s1.toks + 1)
  obtain ⟨its, rv, hl, _⟩ := I2.list hs
  rw [Vals.ref1 r1]
  refine max_call (I.ok.hd hc) hl.isList rv.ints fun h' tk m t' hk hm => ⟨.int m, H1, I2.kept hk, ⟨_, rfl⟩, ?_⟩
  rcases hm with ⟨e0, rfl⟩ | ⟨m1, m2⟩
  · exact q0 e0
  · exact q1 m m1 m2
end
/-! ### xs.extend(t), t a tuple -/
theorem ext_tup (l : Addr) (items : Array Value) (n : Nat) (b : Addr) (od : Option Addr) (items2 : Array Value) (n2 : Nat) (sl : Array (Option Value)) (z0 : ¬ (!items.isEmpty && Builtin.List.listTooLong (items.size + items2.size)) = true) (z1 : items.size ≤ sizeLine) (z2 : items.size + items2.size ≤ sizeLine + 1) :
    Meets (Builtin.«list.extend» ⟨[.ref l, .ref b], []⟩) (fun _ R s => s.heap.get? l = some { cls := .type "list", dict := none, data := .seq items n, slots := #[] } ∧ s.heap.get? b = some { cls := .type "tuple", dict := od, data := .seq items2 n2, slots := sl } ∧
      R (.ok (.ret Value.none)) { s with heap := s.heap.update l (Obj.mapSeq fun x => x ++ items2), toks := s.toks }) :=
  .of_wp fun prog w A R s h => by
    obtain ⟨hp, g, d, tk, os⟩ := s
    obtain ⟨hl, hb, h⟩ := h
    have f1 := AutoSeq1.idx_int
    have f2 := AutoSeq1.sub_tuple_tuple
    have f3 := AutoSeq1.sub_list_list
    have f4 := AutoSeq1.sub_tuple_list
    have f5 := AutoSeq1.sub_list_tuple
    have z3 : (items ++ items2).size ≤ sizeLine + 1 := by rw [Array.size_append]; exact z2
    wp_walk using (wpAny_updateSeq hl rfl (hz := z1) (_hz' := z3)), AutoSeq1.wpAny_loadPart' hl, AutoSeq1.wpAny_loadPart' hb; exact ⟨_, rfl, h⟩
def rExtT (K : PySem.W.Frag) : V → List V → Hp → VK → Prop := fun x vs H Q => ∃ l b xs zs, x = .ref l ∧ vs = [.ref b] ∧ H l = some (.lst xs) ∧ SqT K H b zs ∧ xs.length + zs.length ≤ sizeLine ∧ Q .non (upd H l (.lst (xs ++ zs)))
theorem mt_extT {X : Cx} : MtM X "list.extend" (rExtT X.K) := by
  intro pins s σ H x vs v us Q I rx rv h
  obtain ⟨l, b, xs, zs, rfl, rfl, hH, hB, hz, q⟩ := h
  cases rx
  obtain ⟨u, rfl, ru⟩ := rv.one
  cases ru
  obtain ⟨z, its, n, r, hl, e⟩ := I.lstM hH
  obtain ⟨its2, r2, ⟨ob, e2, hc2, n2, hd2⟩, z2⟩ := I.tuple hB
  obtain ⟨oc, od, odt, osl⟩ := ob
  dsimp only at hc2 hd2
  subst hc2 hd2
  have l2 := r2.length
  have hsz : its.toArray.size + its2.toArray.size ≤ sizeLine := by rw [List.size_toArray, List.size_toArray]; omega
  have hlong : ¬ (!its.toArray.isEmpty && Builtin.List.listTooLong (its.toArray.size + its2.toArray.size)) = true := by
    rw [notLongL hsz, Bool.and_false]
    exact Bool.false_ne_true
  refine call_meets F.slot_list_extend ⟨_, e, rfl⟩ F.entry_list_extend (F.args_list_extend_2 _ _) (ext_tup l its.toArray n b od its2.toArray n2 osl hlong (by rw [List.size_toArray]; omega) (by omega)) ⟨e, e2, ?_⟩
  refine ⟨.non, _, I.lset (its' := its ++ its2) hH e (by simp) (r.append r2) ?_, rfl, q⟩
  rw [List.length_append]
  omega
end Ext
end
section
set_option Elab.async false
set_option linter.all false
set_option maxRecDepth 100000
set_option maxHeartbeats 2000000
namespace G
open PySem PySem.Spec PyProof.Rows L2
def Ev (t : TE) (σ : L2.St) (H : Hp) (v : V) : Prop := ∀ Q : VK, Q v H → t σ H Q
def EvT (t : TT) (σ : L2.St) (H : Hp) (b : Bool) : Prop := ∀ Q : Bool → Hp → Prop, Q b H → t σ H Q
def EvA (t : TA) (σ : L2.St) (H : Hp) (vs : List V) : Prop := ∀ Q : List V → Hp → Prop, Q vs H → t σ H Q
/-- a class with attributes of its instances -/
structure ClsN (K : PySem.W.Frag) (C : Addr) (ns : List Str) : Prop where
  cl : Cls K C
  no : ∀ f ∈ ns, NoAttr K C f
theorem ClsN.na {K : PySem.W.Frag} {C : Addr} {ns : List Str} (c : ClsN K C ns) {f : Str} (m : ns.contains f = true) : NoAttr K C f := c.no f (by simpa using m)
section
variable {σ : L2.St} {H : Hp} {Q : VK} {ta tb te : TE} {v x y : V} {K : PySem.W.Frag}
theorem use (h : Ev te σ H v) (q : Q v H) : te σ H Q := h Q q
theorem ev_var {i : Nat} (e : σ[i]? = some (some v)) : Ev (tVar i) σ H v := fun _ q => ⟨v, e, q⟩
theorem ev_c : Ev (tC v) σ H v := fun _ q => q
theorem ev_i0 {g : Int → Int → V} {i j : Int} (ha : Ev ta σ H (.int i)) (hb : Ev tb σ H (.int j)) : Ev (tOp (rI0 g) ta tb) σ H (g i j) := fun _ q => ha _ (hb _ ⟨i, j, rfl, rfl, q⟩)
theorem ev_iC {C : Int → Int → Prop} {g : Int → Int → V} {i j : Int} (ha : Ev ta σ H (.int i)) (hb : Ev tb σ H (.int j)) (hc : C i j) : Ev (tOp (rI C g) ta tb) σ H (g i j) := fun _ q => ha _ (hb _ ⟨i, j, rfl, rfl, hc, q⟩)
theorem ev_u {g : Int → V} {i : Int} (ha : Ev ta σ H (.int i)) : Ev (tUn (rU g) ta) σ H (g i) := fun _ q => ha _ ⟨i, rfl, q⟩
theorem dec_inj {i j : Int} : decide (V.int i = V.int j) = decide (i = j) := by
  by_cases e : i = j
  · subst e; simp
  · rw [decide_eq_false e, decide_eq_false fun q => e (V.int.inj q)]
theorem ev_eqI {i j : Int} (ha : Ev ta σ H (.int i)) (hb : Ev tb σ H (.int j)) : Ev (tOp rEq ta tb) σ H (.bl (decide (i = j))) := fun _ q => ha _ (hb _ ⟨rfl, by rw [dec_inj]; exact q⟩)
theorem ev_neI {i j : Int} (ha : Ev ta σ H (.int i)) (hb : Ev tb σ H (.int j)) : Ev (tOp rNe ta tb) σ H (.bl (!decide (i = j))) := fun _ q => ha _ (hb _ ⟨rfl, by rw [dec_inj]; exact q⟩)
theorem ev_fld {a C dx : Addr} {fs : List (Str × V)} {f : Str} {ns : List Str} (ha : Ev ta σ H (.ref a)) (h : H a = some (.ins C dx fs)) (c : ClsN K C ns) (m : ns.contains f = true) (l : fs.lookup f = some v) : Ev (tFld K ta f) σ H v :=
  fun _ q => ha _ ⟨a, C, dx, fs, v, rfl, h, c.cl, c.na m, l, q⟩
theorem ev_orV {c d : Bool} (ha : Ev ta σ H (.bl c)) (hb : c = false → Ev tb σ H (.bl d)) : Ev (tOrV ta tb) σ H (.bl (c || d)) := fun _ q => ha _ ⟨c, rfl, by
  cases c with
  | true => exact q
  | false => exact hb rfl _ q⟩
theorem ev_andV {c d : Bool} (ha : Ev ta σ H (.bl c)) (hb : c = true → Ev tb σ H (.bl d)) : Ev (tAndV ta tb) σ H (.bl (c && d)) := fun _ q => ha _ ⟨c, rfl, by
  cases c with
  | true => exact hb rfl _ q
  | false => exact q⟩
theorem ev_if {t : TT} {b : Bool} {x y : V} (ht : EvT t σ H b) (h1 : b = true → Ev ta σ H x) (h2 : b = false → Ev tb σ H y) : Ev (tIf t ta tb) σ H (if b = true then x else y) := fun _ q => ht _ (by
  cases b with
  | true => exact h1 rfl _ q
  | false => exact h2 rfl _ q)
theorem evt_test {b : Bool} (h : Ev te σ H (.bl b)) : EvT (tTest te) σ H b := fun _ q => h _ ⟨b, rfl, q⟩
theorem evt_tB {b : Bool} (h : Ev te σ H (.bl b)) : EvT (tB te) σ H b := fun _ q => h _ ⟨b, rfl, q⟩
theorem evt_or {t u : TT} {b c : Bool} (ht : EvT t σ H b) (hu : b = false → EvT u σ H c) : EvT (tOr t u) σ H (b || c) := fun _ q => ht _ (by
  cases b with
  | true => exact q
  | false => exact hu rfl _ q)
theorem evt_and {t u : TT} {b c : Bool} (ht : EvT t σ H b) (hu : b = true → EvT u σ H c) : EvT (tAnd t u) σ H (b && c) := fun _ q => ht _ (by
  cases b with
  | true => exact hu rfl _ q
  | false => exact q)
theorem evt_not {t : TT} {b : Bool} (ht : EvT t σ H b) : EvT (tNot t) σ H (!b) := fun _ q => ht _ q
theorem eva_nil : EvA tNil σ H [] := fun _ q => q
theorem eva_cons {t : TA} {vs : List V} (ha : Ev ta σ H v) (ht : EvA t σ H vs) : EvA (tCons ta t) σ H (v :: vs) := fun _ q => ha _ (ht _ q)
/-- a call that only answers -/
theorem ev_call {sp : Sp} {t : TA} {vs : List V} (ha : EvA t σ H vs) (h : ∀ Q : VK, Q v H → sp vs H Q E0) : Ev (tCall sp [] E0 t) σ H v := fun _ q => ha _ (by rw [List.append_nil]; exact h _ q)
theorem ev_lenL {p : Addr} {ys : List V} {t : TA} (ha : EvA t σ H [.ref p]) (s : SqL K H p ys) : Ev (tCB (fun xs H Q => ∃ p ys, xs = [.ref p] ∧ (SqL K H p ys ∨ SqT K H p ys) ∧ Q (.int ys.length) H) t) σ H (.int ys.length) := fun _ q => ha _ ⟨p, ys, rfl, .inl s, q⟩
theorem ev_abs {i : Int} {t : TA} (ha : EvA t σ H [.int i]) : Ev (tCB (fun xs H Q => ∃ i, xs = [V.int i] ∧ Q (.int (if i < 0 then -i else i)) H) t) σ H (.int (if i < 0 then -i else i)) := fun _ q => ha _ ⟨i, rfl, q⟩
variable {D : Ends} {t u : TS}
theorem s_seq (h : t { D with nx := u D } σ H) : tSeq t u D σ H := h
theorem s_ret (h : te σ H D.rt) : tRet te D σ H := h
theorem s_next (h : D.nx σ H) : tNext D σ H := h
theorem s_drop (h : te σ H fun _ H1 => D.nx σ H1) : tDrop te D σ H := h
theorem s_if {c : TT} {b : Bool} (hc : EvT c σ H b) (h1 : b = true → t D σ H) (h2 : b = false → u D σ H) : tIfS c t u D σ H := hc _ (by
  cases b with
  | true => exact h1 rfl
  | false => exact h2 rfl)
theorem s_set {i : Nat} (h : Ev te σ H v) (q : D.nx (σ.set i (some v)) H) : tAsg te (gName i) D σ H := h _ q
theorem s_setE {i : Nat} (h : te σ H fun x H1 => D.nx (σ.set i (some x)) H1) : tAsg te (gName i) D σ H := h
theorem s_fld {a C dx : Addr} {fs : List (Str × V)} {f : Str} {ns : List Str} (hv : Ev te σ H v) (ha : Ev ta σ H (.ref a)) (h : H a = some (.ins C dx fs)) (c : ClsN K C ns) (m : ns.contains f = true) (l : fs.length < 1000)
    (q : D.nx σ (upd H a (.ins C dx (putF f v fs)))) : sFld K ta te f D σ H := hv _ (ha _ ⟨a, C, dx, fs, rfl, h, c.cl, c.na m, l, q⟩)
end
structure Fd (P : Program) (w : World) (K : PySem.W.Frag) (mg : Str → Option Value) (base : Heap) (x : Str) (k : Nat) (sp : Sp) : Prop where
  ex : ∃ (f : Addr) (fd : FuncData) (ps : List Str), FnOk P w K mg base CX0 k f fd ps sp ∧ mg x = some (.ref f) ∧ PySem.W.keepIn K (.ref f) = true ∧ Binds K fd ps []
structure Md (P : Program) (w : World) (K : PySem.W.Frag) (mg : Str → Option Value) (base : Heap) (x : Str) (C : Addr) (k : Nat) (sp : Sp) : Prop where
  ex : ∃ (f : Addr) (fd : FuncData) (ps : List Str), Mk K C f ∧ FnOk P w K mg base CX0 k f fd ps sp ∧ mg x = some (.ref C) ∧ Binds K fd ps []
section
variable {X : Cx} {x : Str} {k : Nat} {sp : Sp} {C : Addr} {e : Expr} {es : List Expr} {t : TA} {p pos : Pos}
theorem pe_fd (F : Fd X.prog X.w X.K X.mg X.base x k sp) (hr : Room k X.A) (hg : Gl X x) (ha : PA X (e :: es) t) (hdb : (x == ("__debug__" : Str)) = false := by decide) (he : starEach (e :: es) X.env = (false, eval e X.env) :: starEach es X.env := by rfl)
    (hpl : (backTo pos (starEach es X.env)).any (·.1) = false := by rfl) : PE X (.Call (.Name x p) (e :: es) [] pos) (tCall sp [] E0 t) := by
  obtain ⟨f, fd, ps, F, hm, hk, hb⟩ := F.ex
  exact pe_call F hr hg hm hk hb .nil pass0 ha hdb he hpl
theorem pe_md (F : Md X.prog X.w X.K X.mg X.base x C k sp) (hr : Room (k + 1) X.A) (hg : Gl X x) (ha : PA X (e :: es) t) (hdb : (x == ("__debug__" : Str)) = false := by decide) (he : starEach (e :: es) X.env = (false, eval e X.env) :: starEach es X.env := by rfl)
    (hpl : (backTo pos (starEach es X.env)).any (·.1) = false := by rfl) : PE X (.Call (.Name x p) (e :: es) [] pos) (tMake C sp [] E0 t) := by
  obtain ⟨f, fd, ps, M, F, hm, hb⟩ := F.ex
  exact pe_make M F hr hg hm hb .nil pass0 ha hdb he hpl
theorem pe_md0 (F : Md X.prog X.w X.K X.mg X.base x C k sp) (hr : Room (k + 1) X.A) (hg : Gl X x) (hdb : (x == ("__debug__" : Str)) = false := by decide) : PE X (.Call (.Name x p) [] [] pos) (tMake C sp [] E0 tNil) := by
  obtain ⟨f, fd, ps, M, F, hm, hb⟩ := F.ex
  exact pe_make0 M F hr hg hm hb .nil pass0 hdb
/-- the slot of a name -/
def fixL (x : Str) : List Str → List Nat → Option Nat
  | y :: r, n :: ns => if y = x then some n else fixL x r ns
  | _, _ => none
def fix (x : Str) (l : List Str) : Option Nat := fixL x l [0, 1, 2, 3, 4, 5, 6, 7, 8, 9, 10, 11, 12, 13, 14, 15, 16, 17, 18, 19, 20, 21, 22, 23]
theorem fixL_at {x : Str} : ∀ {l : List Str} {k m i : Nat}, fixL x l (List.range' k m) = some i → ∃ j, i = k + j ∧ l[j]? = some x
  | [], k, m, i, h => by cases m <;> cases h
  | y :: r, k, 0, i, h => by cases h
  | y :: r, k, m + 1, i, h => by
    rw [List.range'_succ] at h
    unfold fixL at h
    by_cases e : y = x
    · rw [if_pos e] at h
      cases h
      exact ⟨0, rfl, by rw [e]; rfl⟩
    · rw [if_neg e] at h
      obtain ⟨j, e1, e2⟩ := fixL_at h
      exact ⟨j + 1, by omega, e2⟩
theorem fix_at {x : Str} {l : List Str} {i : Nat} (h : fix x l = some i) : l[i]? = some x := by
  obtain ⟨j, e, q⟩ := fixL_at (k := 0) (m := 24) (show fixL x l (List.range' 0 24) = some i from h)
  rw [Nat.zero_add] at e
  rw [e]; exact q
theorem pvx {i : Nat} (h : fix x X.N = some i) (hv : Vis X.env.scope x := by first | exact Or.inl rfl | exact Or.inr (Or.inl rfl) | exact Or.inr (Or.inr rfl)) (hd : (x == ("__debug__" : Str)) = false := by decide)
    (hcd : (x == ("__classdict__" : Str)) = false := by decide) : PE X (.Name x pos) (tVar i) := pe_var (fix_at h) hv hd hcd
theorem pgx {i : Nat} (hN : X.N.Nodup) (h : fix x X.N = some i) (hx : Loc X.env.scope x) (hf : X.fn x = true ∨ X.env.scope.names.lookup x = some .local := by first | exact .inl rfl | exact .inr rfl | assumption) : PG X (.Name x pos) (gName i) := pg_name hN (fix_at h) hx hf
theorem psx {i : Nat} {e : Expr} {te : TE} {pos' : Pos} (hN : X.N.Nodup) (h : fix x X.N = some i) (hx : Loc X.env.scope x) (he : PE X e te) (hs : swapsWith e (some (.Name x pos')) pos.line X.env = pure false := by rfl)
    (hf : X.fn x = true ∨ X.env.scope.names.lookup x = some .local := by first | exact .inl rfl | exact .inr rfl | assumption) : PS X (.Assign [.Name x pos'] e pos) (tAsg te (gName i)) := ps_set hN (fix_at h) hx he hs hf
/-- a whole number of the text's top -/
structure Num (mg : Str → Option Value) (x : Str) (i : Int) : Prop where
  ex : ∃ t, mg x = some (.int i t)
theorem pe_num {i : Int} (n : Num X.mg x i) (hg : Gl X x) (hd : (x == ("__debug__" : Str)) = false := by decide) : PE X (.Name x pos) (tC (.int i)) := by
  obtain ⟨t, e⟩ := n.ex
  exact pe_glob hg e ⟨t, rfl⟩ hd
/-- an object of the text's top (a tuple, a list) -/
structure Top (mg : Str → Option Value) (x : Str) (a : Addr) : Prop where
  ex : mg x = some (.ref a)
theorem pe_top {a : Addr} (n : Top X.mg x a) (hg : Gl X x) (hd : (x == ("__debug__" : Str)) = false := by decide) : PE X (.Name x pos) (tC (.ref a)) := pe_glob hg n.ex rfl hd
end
end G
namespace G
open PySem PySem.Spec PyProof.Rows L2
section
variable {σ : L2.St} {H : Hp} {Q : VK} {K : PySem.W.Frag} {D : Ends}
theorem cut_nat {xs : List V} {a b : Nat} (ha : a ≤ b) (hb : b ≤ xs.length) : cutV xs (some (a : Int)) (some (b : Int)) = (xs.drop a).take (b - a) := by
  unfold cutV
  rw [HT.sIx_nat, HT.sIx_nat, Nat.min_eq_left hb, Nat.min_eq_left (Nat.le_trans ha hb)]
/-- xs[a:b] -/
theorem sl_nat {ta tl th : TE} {p : Addr} {xs : List V} {i j : Int} {a b : Nat} (h1 : Ev ta σ H (.ref p)) (h2 : Ev tl σ H (.int i)) (h3 : Ev th σ H (.int j)) (s : SqL K H p xs) (ei : i = (a : Int)) (ej : j = (b : Int)) (ha : a ≤ b) (hb : b ≤ xs.length)
    (q : ∀ q, H q = none → Q (.ref q) (upd H q (.lst ((xs.drop a).take (b - a))))) : tSl (rSlL K) ta (tPart tl) (tPart th) σ H Q := by
  refine h1 _ (h2 _ ⟨i, rfl, h3 _ ⟨j, rfl, p, xs, rfl, s, fun z hz => ?_⟩⟩)
  rw [ei, ej, cut_nat ha hb]
  exact q z hz
theorem s_app {to te : TE} {l : Addr} {xs : List V} {v : V} (h1 : Ev to σ H (.ref l)) (h2 : Ev te σ H v) (hl : H l = some (.lst xs)) (hs : xs.length < sizeLine) (q : D.nx σ (upd H l (.lst (xs ++ [v])))) : tDrop (tBM K "list" rAppend to (tCons te tNil)) D σ H :=
  h1 _ ⟨.inl ⟨rfl, _, SqL.of hl⟩, h2 _ ⟨l, xs, v, rfl, rfl, hl, hs, q⟩⟩
theorem s_ext {to te : TE} {l b : Addr} {xs zs : List V} (h1 : Ev to σ H (.ref l)) (h2 : Ev te σ H (.ref b)) (hl : H l = some (.lst xs)) (hb : H b = some (.lst zs)) (hs : xs.length + zs.length ≤ sizeLine) (q : D.nx σ (upd H l (.lst (xs ++ zs)))) : tDrop (tBM K "list" rExtend to (tCons te tNil)) D σ H :=
  h1 _ ⟨.inl ⟨rfl, _, SqL.of hl⟩, h2 _ ⟨l, b, xs, zs, rfl, rfl, hl, hb, hs, q⟩⟩
theorem lst_new {t : TA} {vs : List V} (h : EvA t σ H vs) (hl : vs.length ≤ sizeLine) (q : ∀ p, H p = none → Q (.ref p) (upd H p (.lst vs))) : tLst t σ H Q := h _ ⟨hl, q⟩
theorem call_ {sp : Sp} {t : TA} {vs : List V} (h : EvA t σ H vs) (q : sp vs H Q E0) : tCall sp [] E0 t σ H Q := h _ (by rw [List.append_nil]; exact q)
theorem make_ {C : Addr} {sp : Sp} {t : TA} {vs : List V} (h : EvA t σ H vs) (q : ∀ x dx, H x = none → H dx = none → dx ≠ x → sp (.ref x :: vs) (upd (upd H dx (.own x)) x (.ins C dx [])) (fun v H2 => v = .non ∧ Q (.ref x) H2) E0) : tMake C sp [] E0 t σ H Q := h _ fun x dx n1 n2 n3 => by
  rw [List.append_nil]
  exact q x dx n1 n2 n3
end
theorem size16 : (1100000 : Nat) ≤ sizeLine := by decide
end G
namespace G
open PySem PySem.Spec PyProof.Rows L2
/-- while: Pv by a number that falls -/
theorem s_while {c : TT} {tb : TS} {D : Ends} {σ : L2.St} {H : Hp} (Pv : Nat → L2.St → Hp → Prop) (m0 : Nat) (h0 : Pv m0 σ H)
    (hs : ∀ m σ H, Pv m σ H → ∃ b, EvT c σ H b ∧ (b = true → tb { D with nx := fun σ' H' => ∃ m', m' < m ∧ Pv m' σ' H', ct := fun σ' H' => ∃ m', m' < m ∧ Pv m' σ' H', bk := D.nx } σ H) ∧ (b = false → D.nx σ H)) : tWhile c tb D σ H := by
  refine ⟨Pv, ⟨m0, h0⟩, fun m σ H p => ?_⟩
  obtain ⟨b, e, h1, h2⟩ := hs m σ H p
  refine e _ ?_
  cases b with
  | true => exact ⟨_, fun σ' H' q => q, h1 rfl⟩
  | false => exact h2 rfl
/-- for over a list that the body leaves as it is -/
theorem s_for {K : PySem.W.Frag} {tl : TE} {g : TG} {tb : TS} {D : Ends} {σ : L2.St} {H : Hp} {a : Addr} {xs : List V} (Pv : Nat → L2.St → Hp → Prop) (he : Ev tl σ H (.ref a)) (hl : ∀ i σ H, i ≤ xs.length → Pv i σ H → SqL K H a xs) (h0 : Pv 0 σ H)
    (hs : ∀ i x σ H, xs[i]? = some x → Pv i σ H → g x σ H fun σ2 H2 => tb { D with nx := Pv (i + 1), ct := Pv (i + 1), bk := D.nx } σ2 H2) (hd : ∀ σ H, Pv xs.length σ H → D.nx σ H) : tFor (iList K tl) g tb D σ H :=
  he _ ⟨a, rfl, ⟨xs, hl 0 σ H (Nat.zero_le _) h0⟩, for_list Pv h0 hl hs hd⟩
end G
namespace G
open PySem PySem.Spec PyProof.Rows L2
def rIxA (K : PySem.W.Frag) : R2 := fun x y H Q => rIxL K x y H Q ∨ rIxT K x y H Q
theorem ix_any {X : Cx} : IxR X (rIxA X.K) := ix_list.or ix_tup
theorem ev_ixAL {σ : L2.St} {H : Hp} {ta tb : TE} {v : V} {K : PySem.W.Frag} {p : Addr} {xs : List V} {i : Int} {j : Nat} (ha : Ev ta σ H (.ref p)) (hb : Ev tb σ H (.int i)) (s : SqL K H p xs) (e : i = (j : Int)) (h : xs[j]? = some v) : Ev (tOp (rIxA K) ta tb) σ H v :=
  fun _ q => ha _ (hb _ (.inl ⟨p, xs, i, v, rfl, rfl, s, at_of e h, q⟩))
theorem ev_ixAT {σ : L2.St} {H : Hp} {ta tb : TE} {v : V} {K : PySem.W.Frag} {p : Addr} {xs : List V} {i : Int} {j : Nat} (ha : Ev ta σ H (.ref p)) (hb : Ev tb σ H (.int i)) (s : SqT K H p xs) (e : i = (j : Int)) (h : xs[j]? = some v) : Ev (tOp (rIxA K) ta tb) σ H v :=
  fun _ q => ha _ (hb _ (.inr ⟨p, xs, i, v, rfl, rfl, s, at_of e h, q⟩))
end G
namespace G
open PySem PySem.Spec PyProof.Rows L2
def startL : List Str → List V → L2.St
  | [], _ => []
  | _ :: N, [] => none :: startL N []
  | _ :: N, v :: vs => some v :: startL N vs
theorem startL_nil : ∀ N : List Str, startL N [] = List.replicate N.length none
  | [] => rfl
  | _ :: N => by
    show none :: startL N [] = _
    rw [startL_nil N]; rfl
theorem start_eq : ∀ {N : List Str} {vs : List V}, vs.length ≤ N.length → L2.start N vs = startL N vs
  | N, [], _ => by
    rw [startL_nil]; rfl
  | [], v :: vs, h => by cases h
  | _ :: N, v :: vs, h => by
    have ih := start_eq (N := N) (vs := vs) (Nat.le_of_succ_le_succ h)
    unfold L2.start at *
    show some v :: (vs.map some ++ List.replicate ((N.length + 1) - (vs.length + 1)) none) = some v :: startL N vs
    rw [Nat.add_sub_add_right, ih]
end G
namespace G
open PySem PySem.Spec PyProof.Rows L2
section
variable {σ : L2.St} {H : Hp} {Q : VK} {QA : List V → Hp → Prop} {K : PySem.W.Frag} {D : Ends} {ta : TE} {t : TA} {v : V}
theorem consV (h : Ev ta σ H v) (q : t σ H fun vs H2 => QA (v :: vs) H2) : tCons ta t σ H QA := h _ q
theorem call2 {sp : Sp} {t1 t2 : TE} (h : t1 σ H fun x H1 => t2 σ H1 fun y H2 => sp [x, y] H2 Q E0) : tCall sp [] E0 (tCons t1 (tCons t2 tNil)) σ H Q := h
theorem call3 {sp : Sp} {t1 t2 t3 : TE} (h : t1 σ H fun x H1 => t2 σ H1 fun y H2 => t3 σ H2 fun z H3 => sp [x, y, z] H3 Q E0) : tCall sp [] E0 (tCons t1 (tCons t2 (tCons t3 tNil))) σ H Q := h
end
end G
namespace G
open PySem PySem.Spec PyProof.Rows L2
section
variable {K : PySem.W.Frag} {mg : Str → Option Value} {h : Heap}
structure Def (K : PySem.W.Frag) (mg : Str → Option Value) (x : Str) (st : Stmt) (ps : List Str) : Prop where
  ex : ∃ (f : Addr) (fd : FuncData), Fun K x x st f fd ∧ mg x = some (.ref f) ∧ PySem.W.keepIn K (.ref f) = true ∧ Binds K fd ps []
structure Cla (K : PySem.W.Frag) (mg : Str → Option Value) (x : Str) (C : Addr) (q : Str) (st : Stmt) (ps : List Str) : Prop where
  ex : ∃ (f : Addr) (fd : FuncData), Mk K C f ∧ Fun K "__init__" q st f fd ∧ mg x = some (.ref C) ∧ Binds K fd ps []
structure Met (K : PySem.W.Frag) (C : Addr) (m q : Str) (st : Stmt) (ps : List Str) : Prop where
  ex : ∃ (f : Addr) (fd : FuncData), Meth K C m f ∧ Fun K m q st f fd ∧ Binds K fd ps []
structure MetOk (P : Program) (w : World) (K : PySem.W.Frag) (mg : Str → Option Value) (base : Heap) (C : Addr) (m : Str) (k : Nat) (sp : Sp) : Prop where
  ex : ∃ (f : Addr) (fd : FuncData) (ps : List Str), Meth K C m f ∧ FnOk P w K mg base CX0 k f fd ps sp ∧ Binds K fd ps []
structure TupI (K : PySem.W.Frag) (mg : Str → Option Value) (x : Str) (a : Addr) (vs : List V) : Prop where
  top : Top mg x a
  sq : ∀ H, SqT K H a vs
theorem Def.fd {P : Program} {w : World} {base : Heap} {x : Str} {st : Stmt} {ps : List Str} {k : Nat} {sp : Sp} (d : Def K mg x st ps) (h : ∀ f fd, Fun K x x st f fd → FnOk P w K mg base CX0 k f fd ps sp) : Fd P w K mg base x k sp := by
  obtain ⟨f, fd, F, h1, h2, h3⟩ := d.ex
  exact ⟨f, fd, ps, h f fd F, h1, h2, h3⟩
theorem Cla.md {P : Program} {w : World} {base : Heap} {x q : Str} {C : Addr} {st : Stmt} {ps : List Str} {k : Nat} {sp : Sp} (d : Cla K mg x C q st ps) (h : ∀ f fd, Fun K "__init__" q st f fd → FnOk P w K mg base CX0 k f fd ps sp) : Md P w K mg base x C k sp := by
  obtain ⟨f, fd, M, F, h1, h2⟩ := d.ex
  exact ⟨f, fd, ps, M, h f fd F, h1, h2⟩
theorem Met.ok {P : Program} {w : World} {base : Heap} {m q : Str} {C : Addr} {st : Stmt} {ps : List Str} {k : Nat} {sp : Sp} (d : Met K C m q st ps) (h : ∀ f fd, Fun K m q st f fd → FnOk P w K mg base CX0 k f fd ps sp) : MetOk P w K mg base C m k sp := by
  obtain ⟨f, fd, M, F, h1⟩ := d.ex
  exact ⟨f, fd, ps, M, h f fd F, h1⟩
theorem def_mk {x : Str} {st : Stmt} {ps : List Str} {f : Addr} {oc : Value} {od an : Option Addr} {osl : Array (Option Value)} {kV doc pm cdv ct : Value} (X : K.In h) (G : h.Ns mainGlobals mg) (a : PySem.W.nsIn K mainGlobals x = some (some (.ref f)))
    (l : K.lookup f = some ⟨oc, od, .func (PySem.W.fnOf x x (defArgs st) (defBody st) (defScope st) .none kV doc pm an cdv ct), osl⟩) (c : PySem.W.codeIn K cdv x = true) (k : PySem.W.keepIn K (.ref f) = true)
    (b : ∀ (kV doc pm : Value) (an : Option Addr) (cdv ct : Value) (us : List Value), us.length = ps.length → bindArgs (PySem.W.fnOf x x (defArgs st) (defBody st) (defScope st) .none kV doc pm an cdv ct) ⟨us, []⟩ = pure (ps.zip us)) : Def K mg x st ps :=
  ⟨f, _, fun_mk (st := st) l c k, PySem.W.mg_of X G a, k, (fun_mk (st := st) l c k).binds b⟩
theorem cla_mk {x q : Str} {C : Addr} {st : Stmt} {ps : List Str} {f : Addr} {oc : Value} {od an : Option Addr} {osl : Array (Option Value)} {kV doc pm cdv ct : Value} (X : K.In h) (G : h.Ns mainGlobals mg) (aC : PySem.W.nsIn K mainGlobals x = some (some (.ref C)))
    (a : PySem.W.findIn K (.ref C) "__init__" = some (some (.ref f))) (i : PySem.W.isFn K (.ref f) = true) (l : K.lookup f = some ⟨oc, od, .func (PySem.W.fnOf "__init__" q (defArgs st) (defBody st) (defScope st) .none kV doc pm an cdv ct), osl⟩)
    (c : PySem.W.codeIn K cdv q = true) (k : PySem.W.keepIn K (.ref f) = true) (mk : PySem.W.makesIn K C = true) (kc : PySem.W.keepIn K (.ref C) = true)
    (b : ∀ (kV doc pm : Value) (an : Option Addr) (cdv ct : Value) (us : List Value), us.length = ps.length → bindArgs (PySem.W.fnOf "__init__" q (defArgs st) (defBody st) (defScope st) .none kV doc pm an cdv ct) ⟨us, []⟩ = pure (ps.zip us)) : Cla K mg x C q st ps :=
  ⟨f, _, ⟨mk, a, i, kc⟩, fun_mk (st := st) l c k, PySem.W.mg_of X G aC, (fun_mk (st := st) l c k).binds b⟩
theorem met_mk {m q : Str} {C : Addr} {st : Stmt} {ps : List Str} {f : Addr} {oc : Value} {od an : Option Addr} {osl : Array (Option Value)} {kV doc pm cdv ct : Value} (a : PySem.W.findIn K (.ref C) m = some (some (.ref f))) (i : PySem.W.isFn K (.ref f) = true)
    (l : K.lookup f = some ⟨oc, od, .func (PySem.W.fnOf m q (defArgs st) (defBody st) (defScope st) .none kV doc pm an cdv ct), osl⟩) (c : PySem.W.codeIn K cdv q = true) (k : PySem.W.keepIn K (.ref f) = true)
    (b : ∀ (kV doc pm : Value) (an : Option Addr) (cdv ct : Value) (us : List Value), us.length = ps.length → bindArgs (PySem.W.fnOf m q (defArgs st) (defBody st) (defScope st) .none kV doc pm an cdv ct) ⟨us, []⟩ = pure (ps.zip us)) : Met K C m q st ps :=
  ⟨f, _, ⟨a, i, k⟩, fun_mk (st := st) l c k, (fun_mk (st := st) l c k).binds b⟩
theorem clsN_mk {C : Addr} {ns : List Str} (pg : PySem.W.plainGet K C Str.empty = true) (hd : PySem.W.hasDictIn K C = true) (po : PySem.W.plainOver K C = true) (sa : PySem.W.findIn K (.ref C) "__setattr__" = some (some (.builtin "object.__setattr__")))
    (no : ∀ f ∈ ns, NoAttr K C f) : ClsN K C ns := ⟨⟨pg, hd, po, sa⟩, no⟩
theorem num_mk {x : Str} {i : Int} {t : Tok} (X : K.In h) (G : h.Ns mainGlobals mg) (a : PySem.W.nsIn K mainGlobals x = some (some (.int i t))) : Num mg x i := ⟨t, PySem.W.mg_of X G a⟩
end
section
variable {X : Cx} {k : Nat} {sp : Sp} {C : Addr} {m : Str} {e o : Expr} {es : List Expr} {ta : TE} {t : TA} {p pos apos : Pos} {ns : List Str}
theorem pe_mt {pl : Sem Bool} (he : PE X o ta) (c : ClsN X.K C ns) (F : MetOk X.prog X.w X.K X.mg X.base C m k sp) (hr : Room k X.A) (ha : PA X (e :: es) t) (hst : starEach (e :: es) X.env = (false, eval e X.env) :: starEach es X.env := by rfl) (hpl : (backTo pos (starEach es X.env)).any (·.1) = false := by rfl)
    (ht : eval (.Call (.Attribute o m apos) (e :: es) [] pos) X.env = (do
      let ov ← eval o X.env
      standAt apos.atName
      let (f, first) ← holding [ov] (getMethod ov m pl)
      callWith pos f first (backTo pos (starEach (e :: es) X.env)) (backToKw pos (keywordEach [] X.env))) := by rfl) :
    PE X (.Call (.Attribute o m apos) (e :: es) [] pos) (tMeth C m sp [] E0 ta t) := by
  obtain ⟨f, fd, ps, M, F, hb⟩ := F.ex
  exact pe_meth (pl := pl) he c.cl M F hr hb .nil pass0 ha hst hpl ht
end
section
variable {σ : L2.St} {H : Hp} {Q : VK} {ta tb te : TE} {v x y : V} {K : PySem.W.Frag} {D : Ends} {t u : TS}
theorem ev_isN (h : Ev ta σ H v) : Ev (tIsN ta) σ H (.bl (decide (v = .non))) := fun _ q => h _ q
theorem ev_notN (h : Ev ta σ H v) : Ev (tNotN ta) σ H (.bl (!decide (v = .non))) := fun _ q => h _ q
theorem ev_fdiv {i j : Int} (ha : Ev ta σ H (.int i)) (hb : Ev tb σ H (.int j)) (hc : CDiv i j) : Ev (tOp (rI CDiv fun i j => .int (i / j)) ta tb) σ H (.int (i / j)) := ev_iC ha hb hc
/-- xs[-1] -/
theorem ev_last {p : Addr} {xs : List V} {i : Int} (ha : Ev ta σ H (.ref p)) (hb : Ev tb σ H (.int i)) (s : SqL K H p (xs ++ [v])) (e : i = -1) : Ev (tOp (rIxA K) ta tb) σ H v :=
  fun _ q => ha _ (hb _ (.inl ⟨p, xs ++ [v], i, v, rfl, rfl, s, by rw [e]; exact atI_last xs v, q⟩))
theorem ev_dnotinT {d b : Addr} {kvs : List (List Key × V)} {k : List Key} (hy : Ev ta σ H (.ref b)) (hd : Ev tb σ H (.ref d)) (e : H d = some (.dT kvs)) (eb : H b = some (.tup (k.map kV))) : Ev (tDNotIn ta tb) σ H (.bl (!(valV kvs k).isSome)) := fun _ q => hy _ (hd _ ⟨d, _, rfl, DGet.t e eb, q⟩)
theorem ev_dget1T {d b : Addr} {kvs : List (List Key × V)} {k : List Key} (hd : Ev ta σ H (.ref d)) (hy : Ev tb σ H (.ref b)) (e : H d = some (.dT kvs)) (eb : H b = some (.tup (k.map kV))) : Ev (tDGet1 ta tb) σ H ((valV kvs k).getD .non) :=
  fun _ q => hd _ ⟨d, rfl, .inr ⟨kvs, .inl e⟩, hy _ ⟨_, DGet.t e eb, q⟩⟩
theorem s_fldX {f : Str} (h : te σ H fun y H1 => sFld K ta (tC y) f D σ H1) : sFld K ta te f D σ H := h
theorem s_ifT {c : TT} {b : Bool} (hc : EvT c σ H b) (e : b = true) (h1 : t D σ H) : tIfS c t u D σ H := s_if hc (fun _ => h1) fun z => by rw [e] at z; cases z
theorem s_ifF {c : TT} {b : Bool} (hc : EvT c σ H b) (e : b = false) (h1 : u D σ H) : tIfS c t u D σ H := s_if hc (fun z => by rw [e] at z; cases z) fun _ => h1
/-- (a, b) -/
theorem tup_new {t : TA} {vs : List V} (h : EvA t σ H vs) (hl : vs.length ≤ sizeLine) (q : ∀ p, H p = none → Q (.ref p) (upd H p (.tup vs))) : tTup t σ H Q := h _ ⟨hl, q⟩
/-- o.m(..) -/
theorem meth_ {C a dx : Addr} {m : Str} {sp : Sp} {t : TA} {vs : List V} {fs : List (Str × V)} (h : Ev ta σ H (.ref a)) (hi : H a = some (.ins C dx fs)) (hm : fs.lookup m = none) (ha : EvA t σ H vs) (q : sp (.ref a :: vs) H Q E0) : tMeth C m sp [] E0 ta t σ H Q :=
  h _ ⟨a, dx, fs, rfl, hi, hm, ha _ (by rw [List.append_nil]; exact q)⟩
theorem cut_from {xs : List V} {i : Int} {a : Nat} (ei : i = (a : Int)) (ha : a ≤ xs.length) : cutV xs (some i) none = xs.drop a := by
  unfold cutV
  rw [ei, HT.sIx_nat, HT.sIx_none, Nat.min_eq_left ha, List.take_of_length_le]
  rw [List.length_drop]; exact Nat.le_refl _
theorem sl_hi0 {tl : TE} (h1 : Ev ta σ H x) (h2 : tl σ H fun v H1 => ∃ i, v = .int i ∧ rSlL K x (some i) none H1 Q) : tSl (rSlL K) ta (tPart tl) tNoPart σ H Q := h1 _ h2
/-- xs.pop(0) -/
theorem s_pop0 {to : TE} {l : Addr} {xs : List V} {y : V} (h1 : Ev to σ H (.ref l)) (hl : H l = some (.lst (y :: xs))) (q : D.nx σ (upd H l (.lst xs))) : tDrop (tBM K "list" rPopAt to (tCons (tC (.int 0)) tNil)) D σ H :=
  h1 _ ⟨.inl ⟨rfl, _, SqL.of hl⟩, l, y :: xs, 0, 0, y, rfl, rfl, hl, by decide, by decide, by unfold seqIndex?; simp, rfl, q⟩
/-- d[k] = v, of a dict of tuple keys -/
theorem s_dputT {td ty tv : TE} {d b : Addr} {kvs : List (List Key × V)} {k : List Key} (hv : Ev tv σ H v) (hd : Ev td σ H (.ref d)) (hy : Ev ty σ H (.ref b)) (e : H d = some (.dT kvs)) (eb : H b = some (.tup (k.map kV))) (hl : kvs.length < sizeLine)
    (q : D.nx σ (upd H d (.dT (putK kvs k v)))) : sDPut td ty tv D σ H := hv _ (hd _ (hy _ ⟨d, _, rfl, DPut.t e eb hl, q⟩))
/-- for i, x in enumerate(xs): the list stays as it is -/
theorem s_enum {te : TE} {tb : TS} {a : Addr} {xs : List V} {i j : Nat} (Pv : Nat → L2.St → Hp → Prop) (he : Ev te σ H (.ref a)) (hl : ∀ n σ H, n ≤ xs.length → Pv n σ H → SqL K H a xs) (h0 : Pv 0 σ H)
    (hs : ∀ n x σ H T, xs[n]? = some x → Pv n σ H → H T = none → tb { D with nx := Pv (n + 1), ct := Pv (n + 1), bk := D.nx } ((σ.set i (some (.int (n : Nat)))).set j (some x)) (upd H T (.tup [.int (n : Nat), x]))) (hd : ∀ σ H, Pv xs.length σ H → D.nx σ H) :
    tFor (iEnum K (tCons te tNil)) (gTup K 2 (gCons (gName i) (gCons (gName j) gNil))) tb D σ H := by
  refine he _ ⟨a, xs, rfl, hl 0 σ H (Nat.zero_le _) h0, fun n m σ H => m = xs.length - n ∧ n ≤ xs.length ∧ Pv n σ H, ⟨xs.length, by simp, Nat.zero_le _, h0⟩, ?_⟩
  rintro n m σ H ⟨rfl, hn, p⟩
  have q := hl n σ H hn p
  by_cases hlt : n < xs.length
  · refine .inr ⟨⟨xs, xs[n], q, by simp [hlt]⟩, Pv (n + 1), fun σ' H' p' => ⟨xs.length - (n + 1), by omega, rfl, hlt, p'⟩, fun v H' z => ?_⟩
    obtain ⟨T, x, rfl, hT, rfl, hx⟩ := z
    exact ⟨T, _, rfl, SqT.of upd_same, rfl, _, _, rfl, _, _, rfl, rfl, hs n x σ H T (hx xs q) p hT⟩
  · have e : n = xs.length := by omega
    subst e
    exact .inl ⟨⟨xs, q, Nat.le_refl _⟩, hd σ H p⟩
/-- [e for x in xs if t], item by item beside a list of what the items stand for: the block only looks -/
theorem lc_par {β : Type} {ys : List β} {R R' : V → β → Prop} {tl : TE} {tt : TT} {a : Addr} {xs : List V} {i : Nat} (p : β → Bool) (he : Ev tl σ H (.ref a)) (hs : SqL K H a xs) (hp : Paired R xs ys) (hlen : xs.length < sizeLine) (hw : ∀ x, wipe ((wipe σ [i]).set i (some x)) [i] = wipe σ [i])
    (hb : ∀ Dd acc x y, H Dd = none → R x y → y ∈ ys → EvT tt ((wipe σ [i]).set i (some x)) (upd H Dd (.lst acc)) (p y) ∧ (p y = true → ∃ z, R' z y ∧ Ev te ((wipe σ [i]).set i (some x)) (upd H Dd (.lst acc)) z))
    (q : ∀ Dd zs, H Dd = none → Paired R' zs (ys.filter p) → Q (.ref Dd) (upd H Dd (.lst zs))) : tLc (iList K tl) (gName i) tt te [i] σ H Q := by
  have snoc : ∀ {a : V} {b : β} (_ : R' a b) {l : List V} {m : List β}, Paired R' l m → Paired R' (l ++ [a]) (m ++ [b]) := by
    intro a b h l m r
    induction r with
    | nil => exact .cons h .nil
    | cons r _ ih => exact .cons r ih
  refine he _ ⟨a, rfl, ⟨xs, hs⟩, fun Dd hD => lc_list (K := K) (xs := xs) (fun n H' => ∃ zs, H' = upd H Dd (.lst zs) ∧ Paired R' zs ((ys.take n).filter p) ∧ zs.length ≤ n) ⟨[], rfl, .nil, Nat.le_refl _⟩ (fun n H' _ ⟨zs, e, _⟩ => ?_) (fun n x H' hx ⟨zs, e, r, hl⟩ => ?_) fun H' ⟨zs, e, r, hl⟩ => ?_⟩
  · rw [e]
    refine Same.seq (fun b o z => ?_) hs
    rw [upd_ne (ne_of_none z hD)]; exact z
  · subst e
    obtain ⟨y, hy, hR⟩ := paired_get hp hx
    obtain ⟨h1, h2⟩ := hb Dd zs x y hD hR (List.mem_of_getElem? hy)
    refine ⟨hw x, h1 _ ?_⟩
    have et : ys.take (n + 1) = ys.take n ++ [y] := by rw [List.take_add_one, hy]; rfl
    have hn : n < xs.length := (List.getElem?_eq_some_iff.mp hx).1
    cases hpy : p y with
    | true =>
      rw [if_pos rfl]
      obtain ⟨z, hz, ez⟩ := h2 hpy
      refine ez _ ⟨_, upd_same, Nat.lt_of_le_of_lt hl (Nat.lt_trans hn hlen), zs ++ [z], by rw [upd_upd], ?_, by rw [List.length_append, List.length_singleton]; omega⟩
      rw [et, List.filter_append, List.filter_cons, if_pos hpy]
      exact snoc hz r
    | false =>
      rw [if_neg Bool.false_ne_true]
      refine ⟨zs, rfl, ?_, Nat.le_succ_of_le hl⟩
      rw [et, List.filter_append, List.filter_cons, if_neg (by rw [hpy]; exact Bool.false_ne_true), List.filter_nil, List.append_nil]
      exact r
  · subst e
    rw [List.take_of_length_le (by rw [← Paired.length hp]; exact Nat.le_refl _)] at r
    exact q Dd zs hD r
/-- [[] for x in xs] -/
theorem lc_news {tl : TE} {a : Addr} {xs : List V} {i : Nat} (he : Ev tl σ H (.ref a)) (hs : SqL K H a xs) (hlen : xs.length < sizeLine) (hw : ∀ x, wipe ((wipe σ [i]).set i (some x)) [i] = wipe σ [i])
    (q : ∀ (Dd : Addr) (gs : List Addr) H', Same H H' → H Dd = none → H' Dd = some (.lst (gs.map V.ref)) → gs.length = xs.length → gs.Nodup → (∀ g ∈ gs, H g = none ∧ H' g = some (.lst []) ∧ g ≠ Dd) → Q (.ref Dd) H') : tLc (iList K tl) (gName i) tYes (tLst tNil) [i] σ H Q := by
  refine he _ ⟨a, rfl, ⟨xs, hs⟩, fun Dd hD => lc_list (K := K) (xs := xs) (fun n H' => ∃ gs : List Addr, Same H H' ∧ H' Dd = some (.lst (gs.map V.ref)) ∧ gs.length = n ∧ gs.Nodup ∧ ∀ g ∈ gs, H g = none ∧ H' g = some (.lst []) ∧ g ≠ Dd)
    ⟨[], (fun b o e => by rw [upd_ne (ne_of_none e hD)]; exact e), upd_same, rfl, List.nodup_nil, fun g hg => by cases hg⟩ (fun n H' _ ⟨gs, sm, _⟩ => sm.seq hs) (fun n x H' hx ⟨gs, sm, h1, h2, h3, h4⟩ => ?_) fun H' ⟨gs, sm, h1, h2, h3, h4⟩ => q Dd gs H' sm hD h1 h2 h3 h4⟩
  refine ⟨hw x, ?_⟩
  unfold tYes
  refine L2.iteT ?_
  have hn : n < xs.length := (List.getElem?_eq_some_iff.mp hx).1
  refine lst_new eva_nil (Nat.zero_le _) fun g hg => ?_
  have hgD : g ≠ Dd := fun z => by rw [z, h1] at hg; cases hg
  have hgs : g ∉ gs := fun z => by have := (h4 g z).2.1; rw [hg] at this; cases this
  refine ⟨gs.map V.ref, by rw [upd_ne (Ne.symm hgD)]; exact h1, by rw [List.length_map, h2]; exact Nat.lt_trans hn hlen, gs ++ [g], fun b o e => ?_, by rw [upd_same, List.map_append]; rfl, by rw [List.length_append, h2]; rfl, ?_, fun b hb => ?_⟩
  · rw [upd_ne (ne_of_none e hD), upd_ne (ne_of_none (sm b o e) hg)]; exact sm b o e
  · rw [List.nodup_append]
    exact ⟨h3, by simp, fun a ha b hb z => by rw [List.mem_singleton.mp hb] at z; rw [z] at ha; exact hgs ha⟩
  · rcases List.mem_append.mp hb with hb | hb
    · obtain ⟨z1, z2, z3⟩ := h4 b hb
      exact ⟨z1, by rw [upd_ne z3, upd_ne (fun z => hgs (by rw [← z]; exact hb))]; exact z2, z3⟩
    · rw [List.mem_singleton.mp hb]
      exact ⟨sm.free hg, by rw [upd_ne hgD]; exact upd_same, hgD⟩
theorem s_andL {A B : TT} {b : Bool} (hA : EvT A σ H b) (h1 : b = true → tIfS B t u D σ H) (h2 : b = false → u D σ H) : tIfS (tAnd A B) t u D σ H := hA _ (by
  cases b with
  | true => rw [if_pos rfl]; exact h1 rfl
  | false =>
    rw [if_neg Bool.false_ne_true]
    show (if (false : Bool) = true then t D σ H else u D σ H)
    rw [if_neg Bool.false_ne_true]
    exact h2 rfl)
theorem s_notcall {sp : Sp} {ts : TA} {vs : List V} (h : EvA ts σ H vs) (q : sp vs H (fun x H1 => ∃ c, x = .bl c ∧ if (!c) = true then t D σ H1 else u D σ H1) E0) : tIfS (tNot (tB (tCall sp [] E0 ts))) t u D σ H := h _ (by rw [List.append_nil]; exact q)
theorem lst1E (h : ta σ H fun x H1 => 1 ≤ sizeLine ∧ ∀ p, H1 p = none → Q (.ref p) (upd H1 p (.lst [x]))) : tLst (tCons ta tNil) σ H Q := h
theorem s_forE {g : TG} {tb : TS} (h : te σ H fun v H1 => tFor (iList K (tC v)) g tb D σ H1) : tFor (iList K te) g tb D σ H := h
theorem cat_new {l b : Addr} {xs zs : List V} (h1 : Ev ta σ H (.ref l)) (h2 : Ev tb σ H (.ref b)) (hl : H l = some (.lst xs)) (hb : H b = some (.lst zs)) (hz : xs.length + zs.length ≤ sizeLine) (q : ∀ p, H p = none → Q (.ref p) (upd H p (.lst (xs ++ zs)))) : tOp rCat ta tb σ H Q :=
  h1 _ (h2 _ ⟨l, b, xs, zs, rfl, rfl, hl, hb, hz, q⟩)
theorem s_extT {to : TE} {l b : Addr} {xs zs : List V} (h1 : Ev to σ H (.ref l)) (h2 : Ev te σ H (.ref b)) (hl : H l = some (.lst xs)) (hb : SqT K H b zs) (hs : xs.length + zs.length ≤ sizeLine) (q : D.nx σ (upd H l (.lst (xs ++ zs)))) : tDrop (tBM K "list" (Ext.rExtT K) to (tCons te tNil)) D σ H :=
  h1 _ ⟨.inl ⟨rfl, _, SqL.of hl⟩, h2 _ ⟨l, b, xs, zs, rfl, rfl, hl, hb, hs, q⟩⟩
/-- d.get((a, b)) -/
theorem dget_tup2 {td : TE} {i j : Int} {d : Addr} {kvs : List (List Key × V)} (hd : Ev td σ H (.ref d)) (h1 : Ev ta σ H (.int i)) (h2 : Ev tb σ H (.int j)) (hD : H d = some (.dT kvs)) (q : ∀ p, H p = none → Q ((valV kvs [.inl i, .inl j]).getD .non) (upd H p (.tup [.int i, .int j]))) :
    tDGet1 td (tTup (tCons ta (tCons tb tNil))) σ H Q :=
  hd _ ⟨d, rfl, .inr ⟨kvs, .inl hD⟩, tup_new (eva_cons h1 (eva_cons h2 eva_nil)) (by show 2 ≤ sizeLine; decide) fun p hp => ⟨_, DGet.t (kvs := kvs) (k := [.inl i, .inl j]) (by rw [upd_ne (ne_of_none hD hp)]; exact hD) upd_same, q p hp⟩⟩
theorem s_enumE {g : TG} {tb : TS} (h : te σ H fun v H1 => tFor (iEnum K (tCons (tC v) tNil)) g tb D σ H1) : tFor (iEnum K (tCons te tNil)) g tb D σ H := h
theorem maxD {d : Int} {ta : TE} (h : ta σ H fun v H1 => ∃ (a : Addr) (ns : List Int), [v] = [V.ref a] ∧ SqL K H1 a (ns.map V.int) ∧ (ns = [] → Q (.int d) H1) ∧ ∀ m, m ∈ ns → (∀ y, y ∈ ns → y ≤ m) → Q (.int m) H1) : Ext.tMaxD K d (tCons ta tNil) σ H Q := h
/-- (a, b) in d -/
theorem din_tup {t : TA} {td : TE} {vs : List V} {k : List Key} {d : Addr} {kvs : List (List Key × V)} (h : EvA t σ H vs) (hl : vs.length ≤ sizeLine) (e : vs = k.map kV) (hd : ∀ p, H p = none → Ev td σ (upd H p (.tup vs)) (.ref d)) (hD : H d = some (.dT kvs))
    (q : ∀ p, H p = none → Q (.bl (valV kvs k).isSome) (upd H p (.tup vs))) : tDIn (tTup t) td σ H Q := by
  refine tup_new h hl fun p hp => hd p hp _ ⟨d, _, rfl, DGet.t (kvs := kvs) (k := k) ?_ ?_, q p hp⟩
  · rw [upd_ne (ne_of_none hD hp)]; exact hD
  · rw [upd_same, e]
theorem tb_din {t : TA} {td : TE} {vs : List V} {k : List Key} {d : Addr} {kvs : List (List Key × V)} {Qb : Bool → Hp → Prop} (h : EvA t σ H vs) (hl : vs.length ≤ sizeLine) (e : vs = k.map kV) (hd : ∀ p, H p = none → Ev td σ (upd H p (.tup vs)) (.ref d)) (hD : H d = some (.dT kvs))
    (q : ∀ p, H p = none → Qb (valV kvs k).isSome (upd H p (.tup vs))) : tB (tDIn (tTup t) td) σ H Qb := din_tup h hl e hd hD fun p hp => ⟨_, rfl, q p hp⟩
theorem s_or {A B : TT} (h : A σ H fun b H1 => (b = true → t D σ H1) ∧ (b = false → tIfS B t u D σ H1)) (mono : ∀ Q Q' : Bool → Hp → Prop, (∀ v H1, Q v H1 → Q' v H1) → A σ H Q → A σ H Q') : tIfS (tOr A B) t u D σ H := by
  refine mono _ _ (fun b H1 ⟨h1, h2⟩ => ?_) h
  cases b with
  | true =>
    rw [if_pos rfl]
    show (if (true : Bool) = true then t D σ H1 else u D σ H1)
    rw [if_pos rfl]
    exact h1 rfl
  | false => rw [if_neg Bool.false_ne_true]; exact h2 rfl
theorem orV {A B : TE} (h : A σ H fun x H1 => ∃ b, x = .bl b ∧ (b = true → Q (.bl true) H1) ∧ (b = false → B σ H1 Q)) (mono : ∀ Q Q' : VK, (∀ v H1, Q v H1 → Q' v H1) → A σ H Q → A σ H Q') : tOrV A B σ H Q := by
  refine mono _ _ (fun x H1 ⟨b, e, h1, h2⟩ => ⟨b, e, ?_⟩) h
  cases b with
  | true => rw [if_pos rfl]; exact h1 rfl
  | false => rw [if_neg Bool.false_ne_true]; exact h2 rfl
theorem din_mono {t : TA} {td : TE} (h1 : ∀ H Q Q', (∀ v H1, Q v H1 → Q' v H1) → t σ H Q → t σ H Q') (h2 : ∀ H Q Q', (∀ v H1, Q v H1 → Q' v H1) → td σ H Q → td σ H Q') (Q Q' : VK) (hq : ∀ v H1, Q v H1 → Q' v H1) (h : tDIn (tTup t) td σ H Q) : tDIn (tTup t) td σ H Q' :=
  h1 _ _ _ (fun vs H1 ⟨hl, z⟩ => ⟨hl, fun p hp => h2 _ _ _ (fun x H2 ⟨a, o, e, g, y⟩ => ⟨a, o, e, g, hq _ _ y⟩) (z p hp)⟩) h
theorem tb_mono {te : TE} (h1 : ∀ Q Q' : VK, (∀ v H1, Q v H1 → Q' v H1) → te σ H Q → te σ H Q') (Q Q' : Bool → Hp → Prop) (hq : ∀ v H1, Q v H1 → Q' v H1) (h : tB te σ H Q) : tB te σ H Q' := h1 _ _ (fun x H1 ⟨c, e, y⟩ => ⟨c, e, hq _ _ y⟩) h
theorem var_mono {i : Nat} (H : Hp) (Q Q' : VK) (hq : ∀ v H1, Q v H1 → Q' v H1) (h : tVar i σ H Q) : tVar i σ H Q' := let ⟨v, e, q⟩ := h; ⟨v, e, hq _ _ q⟩
theorem c_mono (H : Hp) (Q Q' : VK) (hq : ∀ v H1, Q v H1 → Q' v H1) (h : tC v σ H Q) : tC v σ H Q' := hq _ _ h
theorem cons_mono {ta : TE} {t : TA} (h1 : ∀ H Q Q', (∀ v H1, Q v H1 → Q' v H1) → ta σ H Q → ta σ H Q') (h2 : ∀ H Q Q', (∀ v H1, Q v H1 → Q' v H1) → t σ H Q → t σ H Q') (H : Hp) (Q Q' : List V → Hp → Prop) (hq : ∀ v H1, Q v H1 → Q' v H1) (h : tCons ta t σ H Q) : tCons ta t σ H Q' :=
  h1 _ _ _ (fun x H1 z => h2 _ _ _ (fun xs H2 y => hq _ _ y) z) h
theorem nil_mono (H : Hp) (Q Q' : List V → Hp → Prop) (hq : ∀ v H1, Q v H1 → Q' v H1) (h : tNil σ H Q) : tNil σ H Q' := hq _ _ h
theorem din_tup2 {ta tb td : TE} {i j : Int} {d : Addr} {kvs : List (List Key × V)} (h1 : Ev ta σ H (.int i)) (h2 : Ev tb σ H (.int j)) (hd : ∀ p, H p = none → Ev td σ (upd H p (.tup [.int i, .int j])) (.ref d)) (hD : H d = some (.dT kvs))
    (q : ∀ p, H p = none → Q (.bl (valV kvs [.inl i, .inl j]).isSome) (upd H p (.tup [.int i, .int j]))) : tDIn (tTup (tCons ta (tCons tb tNil))) td σ H Q :=
  din_tup (k := [.inl i, .inl j]) (eva_cons h1 (eva_cons h2 eva_nil)) (by show 2 ≤ sizeLine; decide) rfl hd hD q
theorem tb_din2 {ta tb td : TE} {i j : Int} {d : Addr} {kvs : List (List Key × V)} {Qb : Bool → Hp → Prop} (h1 : Ev ta σ H (.int i)) (h2 : Ev tb σ H (.int j)) (hd : ∀ p, H p = none → Ev td σ (upd H p (.tup [.int i, .int j])) (.ref d)) (hD : H d = some (.dT kvs))
    (q : ∀ p, H p = none → Qb (valV kvs [.inl i, .inl j]).isSome (upd H p (.tup [.int i, .int j]))) : tB (tDIn (tTup (tCons ta (tCons tb tNil))) td) σ H Qb :=
  tb_din (k := [.inl i, .inl j]) (eva_cons h1 (eva_cons h2 eva_nil)) (by show 2 ≤ sizeLine; decide) rfl hd hD q
/-- d[a, b] = v -/
theorem s_dputN {t : TA} {td tv : TE} {vs : List V} {k : List Key} {d : Addr} {kvs : List (List Key × V)} (hv : Ev tv σ H v) (hd : Ev td σ H (.ref d)) (h : EvA t σ H vs) (hz : vs.length ≤ sizeLine) (e : vs = k.map kV) (hD : H d = some (.dT kvs)) (hl : kvs.length < sizeLine)
    (q : ∀ p, H p = none → D.nx σ (upd (upd H p (.tup vs)) d (.dT (putK kvs k v)))) : sDPut td (tTup t) tv D σ H := by
  refine hv _ (hd _ (tup_new h hz fun p hp => ⟨d, _, rfl, DPut.t (kvs := kvs) (k := k) ?_ ?_ hl, q p hp⟩))
  · rw [upd_ne (ne_of_none hD hp)]; exact hD
  · rw [upd_same, e]
/-- for k, v in d.items(): the dict is locked meanwhile -/
theorem s_itemsT {td : TE} {tb : TS} {d : Addr} {kvs : List (List Key × V)} {i j : Nat} (Pv : Obj → Nat → L2.St → Hp → Prop) (hd : H d = some (.dT kvs)) (he : ∀ od, Ev td σ (upd H d (.frz od (.dT kvs))) (.ref d)) (h0 : ∀ od, Pv od 0 σ (upd H d (.frz od (.dT kvs))))
    (hl : ∀ od n σ H, Pv od n σ H → H d = some (.frz od (.dT kvs)))
    (hs : ∀ od n k v σ H T q, kvs[n]? = some (k, v) → Pv od n σ H → H q = some (.tup (k.map kV)) → H T = none → ∀ D' : Ends, D'.nx = Pv od (n + 1) → tb D' ((σ.set i (some (.ref q))).set j (some v)) (upd H T (.tup [.ref q, v])))
    (hend : ∀ od σ H, Pv od kvs.length σ H → D.nx σ (upd H d (.dT kvs))) : tLock (tFor (Ext.iItemsT td) (gTup K 2 (gCons (gName i) (gCons (gName j) gNil))) tb) D σ H := by
  refine ⟨d, .dT kvs, hd, trivial, fun od => he od _ ⟨d, od, kvs, rfl, upd_same, fun n m σ H => m = kvs.length - n ∧ n ≤ kvs.length ∧ Pv od n σ H, ⟨kvs.length, by simp, Nat.zero_le _, h0 od⟩, ?_⟩⟩
  rintro n m σ H ⟨rfl, hn, p⟩
  have q := hl od n σ H p
  by_cases hlt : n < kvs.length
  · refine .inr ⟨⟨q, hlt⟩, Pv od (n + 1), fun σ' H' p' => ⟨kvs.length - (n + 1), by omega, rfl, hlt, p'⟩, fun v H' z => ?_⟩
    obtain ⟨T, b, k, v, hkv, rfl, hb, hT, rfl⟩ := z
    exact ⟨T, _, rfl, SqT.of upd_same, rfl, _, _, rfl, _, _, rfl, rfl, hs od n k v σ H T b hkv p hb hT _ rfl⟩
  · have e : n = kvs.length := by omega
    subst e
    exact .inl ⟨⟨q, Nat.le_refl _⟩, q, hend od σ H p⟩
end
end G
namespace G
open PySem PySem.Spec PyProof.Rows L2
theorem abs_rel {u : Value} {x : V} (h : absV u = some x) : RelV x u := by
  cases u <;> first | (cases h; rfl) | (cases h; exact ⟨_, rfl⟩) | cases h
theorem vals_abs : ∀ {us : List Value} {vs : List V}, us.map absV = vs.map some → Vals vs us
  | [], [], _ => .nil
  | [], _ :: _, h => by cases h
  | _ :: _, [], h => by cases h
  | u :: us, v :: vs, h => by
    rw [List.map_cons, List.map_cons] at h
    exact .cons (abs_rel (List.cons.inj h).1) (vals_abs (List.cons.inj h).2)
theorem tup_mk {K : PySem.W.Frag} {mg : Str → Option Value} {h : Heap} {x : Str} {a : Addr} {o : Obj} {its : Array Value} {n : Nat} {vs : List V} (X : K.In h) (G : h.Ns mainGlobals mg) (e : PySem.W.nsIn K mainGlobals x = some (some (.ref a))) (l : K.lookup a = some o) (c : o.cls = .type "tuple") (d : o.data = .seq its n)
    (z : its.size ≤ sizeLine) (v : its.toList.map absV = vs.map some) : TupI K mg x a vs := ⟨⟨PySem.W.mg_of X G e⟩, fun _ => .inr ⟨o, its, n, l, c, d, z, vals_abs v⟩⟩
end G
namespace G
open PySem PySem.Spec PyProof.Rows L2
/-- the def that is called from outside -/
structure DefB (K : PySem.W.Frag) (mg : Str → Option Value) (x : Str) (st : Stmt) (ps : List Str) : Prop where
  ex : ∃ (f : Addr) (fd : FuncData), Fun K x x st f fd ∧ mg x = some (.ref f) ∧ ∀ (s : Shared) (us : List Value), us.length = ps.length → BindsTo s fd ⟨us, []⟩ (ps.zip us)
theorem defB_mk {K : PySem.W.Frag} {mg : Str → Option Value} {h : Heap} {x : Str} {st : Stmt} {ps : List Str} {f : Addr} {oc : Value} {od an : Option Addr} {osl : Array (Option Value)} {kV doc pm cdv ct : Value} (X : K.In h) (G : h.Ns mainGlobals mg) (a : PySem.W.nsIn K mainGlobals x = some (some (.ref f)))
    (l : K.lookup f = some ⟨oc, od, .func (PySem.W.fnOf x x (defArgs st) (defBody st) (defScope st) .none kV doc pm an cdv ct), osl⟩) (c : PySem.W.codeIn K cdv x = true) (k : PySem.W.keepIn K (.ref f) = true)
    (b : ∀ (kV doc pm : Value) (an : Option Addr) (cdv ct : Value) (us : List Value), us.length = ps.length → bindArgs (PySem.W.fnOf x x (defArgs st) (defBody st) (defScope st) .none kV doc pm an cdv ct) ⟨us, []⟩ = pure (ps.zip us)) : DefB K mg x st ps :=
  ⟨f, _, fun_mk (st := st) l c k, PySem.W.mg_of X G a, fun s us hl => .of_eq (b kV doc pm an cdv ct us hl)⟩
end G
end
section
set_option Elab.async false
set_option linter.all false
set_option maxHeartbeats 2000000
namespace Dec
open PyFlat
theorem whole_id (c : List (List Int)) : PyKct7.whole c = c := by
  unfold PyKct7.whole
  split <;> rfl
theorem shape_zero {p : Int} {n k : Nat} (h : PyKct7.shape p = some (n, k)) : k = 0 := by
  unfold PyKct7.shape at h
  repeat' (split at h)
  all_goals first
    | (cases h; rfl)
    | cases h
theorem put_rows : ∀ rs : List (List Int), put (rs.map fun r => [r]) = rs.flatten
  | [] => rfl
  | r :: rs => by
    show (r ++ []) ++ put (rs.map fun r => [r]) = r ++ rs.flatten
    rw [List.append_nil, put_rows rs]
theorem rows_of : ∀ cs : List (List (List Int)), (∀ c ∈ cs, okCall PyKct7.shape c) → ∃ rs : List (List Int), cs = rs.map (fun r => [r])
  | [], _ => ⟨[], rfl⟩
  | c :: cs, h => by
    obtain ⟨rs, e⟩ := rows_of cs fun d hd => h d (List.mem_cons_of_mem _ hd)
    obtain ⟨p, a, xs, ec, hs⟩ := h c List.mem_cons_self
    have z := shape_zero hs
    have e2 : xs = [] := List.eq_nil_of_length_eq_zero z
    subst e2
    exact ⟨(p :: a) :: rs, by rw [ec, e]; rfl⟩
def steps (s : Kct7.Abs) (rs : List (List Int)) : List (List Int) := played Kct7Neutral.step s (rs.map fun r => [r])
def told (s : Kct7.Abs) (rs : List (List Int)) : List Int := PyFlat.told (steps s rs)
theorem told_nil (s : Kct7.Abs) : told s [] = [] := rfl
theorem told_cons (s : Kct7.Abs) (r : List Int) (rs : List (List Int)) :
    told s (r :: rs) = (((Kct7Neutral.step s [r]).2.length : Int) :: (Kct7Neutral.step s [r]).2) ++ told (Kct7Neutral.step s [r]).1 rs := by
  unfold told steps PyFlat.told
  rw [List.map_cons]
  show List.flatMap _ ((Kct7Neutral.step s [r]).2 :: played Kct7Neutral.step (Kct7Neutral.step s [r]).1 _) = _
  rw [List.flatMap_cons]
theorem played_from : ∀ (s : Kct7.Abs) (cs : List (List (List Int))), Kct7Neutral.answersFrom s cs = played Kct7Neutral.step s cs
  | s, [] => rfl
  | s, c :: cs => by
    show (Kct7Neutral.step s c).2 :: Kct7Neutral.answersFrom (Kct7Neutral.step s c).1 cs = (Kct7Neutral.step s c).2 :: played Kct7Neutral.step (Kct7Neutral.step s c).1 cs
    rw [played_from]
theorem foldl_add : ∀ (l : List Nat) (a : Nat), l.foldl (fun x y => x + y) a = a + l.sum
  | [], a => rfl
  | x :: l, a => by
    rw [List.foldl_cons, foldl_add l, List.sum_cons]
    omega
theorem told_length : ∀ l : List (List Int), (PyFlat.told l).length = (l.map List.length).sum + l.length
  | [] => rfl
  | a :: l => by
    show (List.flatMap _ (a :: l)).length = _
    rw [List.flatMap_cons, List.length_append, List.map_cons, List.sum_cons, List.length_cons, List.length_cons]
    have := told_length l
    unfold PyFlat.told at this
    omega
theorem steps_length : ∀ (s : Kct7.Abs) (rs : List (List Int)), (steps s rs).length = rs.length
  | _, [] => rfl
  | s, r :: rs => by
    show (steps (Kct7Neutral.step s [r]).1 rs).length + 1 = rs.length + 1
    rw [steps_length]
/-- what a list that may be handed in is: rows, one behind another -/
theorem decode {l : List Int} (h : PyKct7.answers_asked l = true) : ∃ rs : List (List Int), l = rs.flatten ∧ PyKct7.answers l = told Kct7Neutral.start rs ∧ (∀ r ∈ rs, Kct7Neutral.asked1 [r] = true) ∧ (told Kct7Neutral.start rs).length < 1003000 := by
  unfold PyKct7.answers_asked at h
  cases e : PyKct7.calls l with
  | none => rw [e] at h; cases h
  | some cs =>
    rw [e] at h
    have h : (atMost 2000 cs && Kct7Neutral.asked cs) = true := h
    obtain ⟨h1, h2⟩ := Bool.and_eq_true_iff.mp h
    unfold PyKct7.calls at e
    cases q : PyFlat.calls PyKct7.shape l.length l with
    | none => rw [q] at e; cases e
    | some ds =>
      rw [q] at e
      have e : some (ds.map PyKct7.whole) = some cs := e
      have e : ds.map PyKct7.whole = cs := Option.some.inj e
      have ew : ds.map PyKct7.whole = ds := by
        have : PyKct7.whole = id := funext whole_id
        rw [this, List.map_id]
      rw [ew] at e
      subst e
      obtain ⟨hl, hk⟩ := put_calls _ _ _ q
      obtain ⟨rs, er⟩ := rows_of ds hk
      subst er
      rw [put_rows] at hl
      unfold Kct7Neutral.asked at h2
      obtain ⟨h3, h4⟩ := Bool.and_eq_true_iff.mp h2
      obtain ⟨h5, h6⟩ := Bool.and_eq_true_iff.mp h3
      obtain ⟨h7, h8⟩ := Bool.and_eq_true_iff.mp h6
      refine ⟨rs, hl, ?_, fun r hr => ?_, ?_⟩
      · unfold PyKct7.answers PyKct7.calls
        rw [q]
        show PyFlat.told (played Kct7Neutral.step Kct7Neutral.start (List.map PyKct7.whole (rs.map fun r => [r]))) = _
        rw [ew]
        rfl
      · exact List.all_eq_true.mp h7 [r] (List.mem_map.mpr ⟨r, hr, rfl⟩)
      · have h9 := of_decide_eq_true h4
        have h10 := of_decide_eq_true h1
        unfold Kct7Neutral.answers at h9
        rw [foldl_add, played_from] at h9
        unfold told
        rw [told_length, steps_length]
        rw [List.length_map] at h10
        unfold steps
        omega
theorem told_le (s : Kct7.Abs) (r : List Int) (rs : List (List Int)) : (told (Kct7Neutral.step s [r]).1 rs).length ≤ (told s (r :: rs)).length := by
  rw [told_cons, List.length_append]
  omega
/-- one row by its cases -/
inductive Row : List Int → Prop
  | begin_ (a b : Nat) : Row [0, a, b]
  | series (a b : Nat) : Row [1, a, b]
  | rule (a b c d : Nat) (e f : Int) (g h : Nat) : Row [2, a, b, c, d, e, f, g, h]
  | silence (a b c d : Nat) : Row [3, a, b, c, d]
  | end_ (a : Nat) : Row [4, a]
  | sample (a : Nat) (v : Int) : Row [5, a, v]
  | tick (a : Nat) : Row [6, a]
  | note (a : Nat) : Row [7, a]
  | phase (a b : Nat) : Row [8, a, b]
  | value (a b : Nat) : Row [9, a, b]
theorem nat_of {z : Int} {b : Nat} (h : Kct7Neutral.natural z b = true) : ∃ n : Nat, z = n := by
  unfold Kct7Neutral.natural at h
  obtain ⟨h1, _⟩ := Bool.and_eq_true_iff.mp h
  have := of_decide_eq_true h1
  exact ⟨z.toNat, by omega⟩
theorem row_of {r : List Int} (h : Kct7Neutral.asked1 [r] = true) : Row r := by
  unfold Kct7Neutral.asked1 at h
  split at h
  all_goals try cases h; done
  all_goals try simp only [Bool.and_eq_true] at h
  all_goals rename_i e
  all_goals (have e := (List.cons.inj e).1; subst e)
  · obtain ⟨a, rfl⟩ := nat_of h.1; obtain ⟨b, rfl⟩ := nat_of h.2; exact .begin_ a b
  · obtain ⟨a, rfl⟩ := nat_of h.1; obtain ⟨b, rfl⟩ := nat_of h.2; exact .series a b
  · obtain ⟨⟨⟨⟨⟨⟨⟨h1, h2⟩, h3⟩, h4⟩, h5⟩, h6⟩, h7⟩, h8⟩ := h
    obtain ⟨a, rfl⟩ := nat_of h1; obtain ⟨b, rfl⟩ := nat_of h2; obtain ⟨c, rfl⟩ := nat_of h3; obtain ⟨d, rfl⟩ := nat_of h4; obtain ⟨g, rfl⟩ := nat_of h7; obtain ⟨k, rfl⟩ := nat_of h8
    exact .rule a b c d _ _ g k
  · obtain ⟨⟨⟨h1, h2⟩, h3⟩, h4⟩ := h
    obtain ⟨a, rfl⟩ := nat_of h1; obtain ⟨b, rfl⟩ := nat_of h2; obtain ⟨c, rfl⟩ := nat_of h3; obtain ⟨d, rfl⟩ := nat_of h4
    exact .silence a b c d
  · obtain ⟨a, rfl⟩ := nat_of h; exact .end_ a
  · obtain ⟨a, rfl⟩ := nat_of h.1; exact .sample a _
  · obtain ⟨a, rfl⟩ := nat_of h; exact .tick a
  · obtain ⟨a, rfl⟩ := nat_of h; exact .note a
  · obtain ⟨a, rfl⟩ := nat_of h.1; obtain ⟨b, rfl⟩ := nat_of h.2; exact .phase a b
  · obtain ⟨a, rfl⟩ := nat_of h.1; obtain ⟨b, rfl⟩ := nat_of h.2; exact .value a b
end Dec
namespace Dec
def sizes : List Int := [2, 2, 8, 4, 1, 2, 1, 1, 2, 2]
theorem row_cons {r : List Int} (h : Row r) : ∃ (j : Nat) (args : List Int), r = (j : Int) :: args ∧ sizes[j]? = some (args.length : Int) ∧ args.length ≤ 8 ∧ j < 10 := by
  cases h
  · exact ⟨0, _, rfl, rfl, Nat.le_of_ble_eq_true rfl, by decide⟩
  · exact ⟨1, _, rfl, rfl, Nat.le_of_ble_eq_true rfl, by decide⟩
  · exact ⟨2, _, rfl, rfl, Nat.le_of_ble_eq_true rfl, by decide⟩
  · exact ⟨3, _, rfl, rfl, Nat.le_of_ble_eq_true rfl, by decide⟩
  · exact ⟨4, _, rfl, rfl, Nat.le_of_ble_eq_true rfl, by decide⟩
  · exact ⟨5, _, rfl, rfl, Nat.le_of_ble_eq_true rfl, by decide⟩
  · exact ⟨6, _, rfl, rfl, Nat.le_of_ble_eq_true rfl, by decide⟩
  · exact ⟨7, _, rfl, rfl, Nat.le_of_ble_eq_true rfl, by decide⟩
  · exact ⟨8, _, rfl, rfl, Nat.le_of_ble_eq_true rfl, by decide⟩
  · exact ⟨9, _, rfl, rfl, Nat.le_of_ble_eq_true rfl, by decide⟩
theorem at_flat {pre rest : List (List Int)} {c : Int} {args : List Int} : (pre ++ (c :: args) :: rest).flatten[pre.flatten.length]? = some c := by
  rw [List.flatten_append, List.getElem?_append_right (Nat.le_refl _), Nat.sub_self]
  rfl
theorem cut_flat {pre rest : List (List Int)} {c : Int} {args : List Int} : ((pre ++ (c :: args) :: rest).flatten.drop (pre.flatten.length + 1)).take args.length = args := by
  rw [List.flatten_append, ← List.drop_drop, List.drop_append_of_le_length (Nat.le_refl _), List.drop_length, List.nil_append, List.flatten_cons]
  show ((args ++ rest.flatten)).take args.length = args
  rw [List.take_append_of_le_length (Nat.le_refl _), List.take_length]
end Dec
end
section
set_option Elab.async false
set_option linter.all false
set_option maxHeartbeats 2000000
namespace Stp
open Kct7
/-! what one row does, by its numbers -/
theorem s_begin (s : Abs) (w a : Nat) : Kct7Neutral.step s [[0, w, a]] = (if LONG < w ∨ LONG < a then (s, [-22]) else (first w a, [0])) := by
  show ((Kct7.step s (.begin_ w a)).1, Kct7Neutral.tell (Kct7.step s (.begin_ w a)).2) = _
  unfold Kct7.step; dsimp only; split <;> rfl
theorem s_series (s : Abs) (k g : Nat) : Kct7Neutral.step s [[1, k, g]] = (if KINDS ≤ k ∨ GROUPS ≤ g then (s, [-22]) else if SERIES ≤ s.series.length then (s, [-28]) else ({ s with series := s.series ++ [⟨k, g, []⟩] }, [(s.series.length : Int)])) := by
  show ((Kct7.step s (.series k g)).1, Kct7Neutral.tell (Kct7.step s (.series k g)).2) = _
  unfold Kct7.step; dsimp only; (split; · rfl); (split <;> rfl)
theorem s_rule (s : Abs) (k w u n : Nat) (b o : Int) (h l : Nat) : Kct7Neutral.step s [[2, k, w, u, n, b, o, h, l]] =
    (if KINDS ≤ k ∨ 5 < w ∨ 1 < u ∨ n = 0 ∨ LONG < n ∨ LONG < h ∨ 3 < l ∨ off BOUND b = true ∨ off BOUND o = true ∨ (u = 1 ∧ b < o) ∨ (u = 0 ∧ o < b) then (s, [-22]) else if RULES ≤ s.rules.length then (s, [-28]) else ({ s with rules := s.rules ++ [⟨k, w, u == 1, n, b, o, h, l⟩] }, [(s.rules.length : Int)])) := by
  show ((Kct7.step s (.rule k w u n b o h l)).1, Kct7Neutral.tell (Kct7.step s (.rule k w u n b o h l)).2) = _
  unfold Kct7.step; dsimp only; (split; · rfl); (split <;> rfl)
theorem s_silence (s : Abs) (r g a b : Nat) : Kct7Neutral.step s [[3, r, g, a, b]] =
    (if (r ≠ ANY ∧ s.rules.length ≤ r) ∨ (g ≠ ANY ∧ GROUPS ≤ g) ∨ b ≤ a ∨ END < b then (s, [-22]) else if SILENCES ≤ s.silences.length then (s, [-28]) else ({ s with silences := s.silences ++ [some ⟨r, g, a, b⟩] }, [(s.silences.length : Int)])) := by
  show ((Kct7.step s (.silence r g a b)).1, Kct7Neutral.tell (Kct7.step s (.silence r g a b)).2) = _
  unfold Kct7.step; dsimp only; (split; · rfl); (split <;> rfl)
theorem s_end_none (s : Abs) (k : Nat) (h : ∀ z, s.silences[k]? ≠ some (some z)) : Kct7Neutral.step s [[4, k]] = (s, [-2]) := by
  show ((Kct7.step s (.end_ k)).1, Kct7Neutral.tell (Kct7.step s (.end_ k)).2) = _
  unfold Kct7.step; dsimp only; split
  · rename_i z e; exact absurd e (h z)
  · rfl
theorem s_end_some (s : Abs) (k : Nat) {z : Silence} (h : s.silences[k]? = some (some z)) : Kct7Neutral.step s [[4, k]] = ({ s with silences := s.silences.set k none }, [0]) := by
  show ((Kct7.step s (.end_ k)).1, Kct7Neutral.tell (Kct7.step s (.end_ k)).2) = _
  unfold Kct7.step; dsimp only; rw [h]; rfl
theorem s_sample_none (s : Abs) (k : Nat) (v : Int) (h : s.series[k]? = none) : Kct7Neutral.step s [[5, k, v]] = (s, [-2]) := by
  show ((Kct7.step s (.sample k v)).1, Kct7Neutral.tell (Kct7.step s (.sample k v)).2) = _
  unfold Kct7.step; dsimp only; rw [h]; rfl
theorem s_sample_some (s : Abs) (k : Nat) (v : Int) {x : Series} (h : s.series[k]? = some x) : Kct7Neutral.step s [[5, k, v]] =
    (if off VALUE v = true then (s, [-22]) else ({ s with series := s.series.set k { x with samples := newest (x.samples ++ [⟨s.now, v⟩]) } }, [0])) := by
  show ((Kct7.step s (.sample k v)).1, Kct7Neutral.tell (Kct7.step s (.sample k v)).2) = _
  unfold Kct7.step; dsimp only; rw [h]; dsimp only; split <;> rfl
theorem s_tick (s : Abs) (t : Nat) : Kct7Neutral.step s [[6, t]] = (if t < s.now ∨ END < t then (s, [-22]) else (tick s t, [((tick s t).notes.length : Int)])) := by
  show ((Kct7.step s (.tick t)).1, Kct7Neutral.tell (Kct7.step s (.tick t)).2) = _
  unfold Kct7.step; dsimp only; split <;> rfl
theorem s_note_none (s : Abs) (k : Nat) (h : s.notes[k]? = none) : Kct7Neutral.step s [[7, k]] = (s, [0]) := by
  show ((Kct7.step s (.note k)).1, Kct7Neutral.tell (Kct7.step s (.note k)).2) = _
  unfold Kct7.step; dsimp only; rw [h]; rfl
def pairs (l : List Pair) : List Int := l.flatMap fun p => [(p.1 : Int), (p.2 : Int)]
theorem nums_pairs : ∀ l : List Pair, Kct7Neutral.nums (l.flatMap fun p => [p.1, p.2]) = pairs l
  | [] => rfl
  | p :: l => by
    have := nums_pairs l
    unfold Kct7Neutral.nums pairs at *
    rw [List.flatMap_cons, List.flatMap_cons, List.map_append, this]
    rfl
def b2n (b : Bool) : Int := if b = true then 1 else 0
theorem s_note_some (s : Abs) (k : Nat) {x : Note} (h : s.notes[k]? = some x) : Kct7Neutral.step s [[7, k]] = (s, 1 :: (x.group : Int) :: b2n x.again :: (x.new.length : Int) :: (x.gone.length : Int) :: pairs (x.new ++ x.gone)) := by
  show ((Kct7.step s (.note k)).1, Kct7Neutral.tell (Kct7.step s (.note k)).2) = _
  unfold Kct7.step; dsimp only; rw [h]; dsimp only
  unfold Kct7Neutral.tell; dsimp only
  unfold Kct7Neutral.nums
  rw [List.map_append]
  have e := nums_pairs (x.new ++ x.gone)
  unfold Kct7Neutral.nums at e
  rw [e]
  cases x.again <;> rfl
theorem s_phase_none (s : Abs) (i k : Nat) (h : s.rules.length ≤ i ∨ s.series.length ≤ k) : Kct7Neutral.step s [[8, i, k]] = (s, [-2]) := by
  show ((Kct7.step s (.phase i k)).1, Kct7Neutral.tell (Kct7.step s (.phase i k)).2) = _
  unfold Kct7.step; dsimp only; rw [if_pos h]; rfl
def phaseRow : Phase → List Int
  | .quiet => [0]
  | .holds a => [1, (a : Int)]
  | .fires a => [2, (a : Int)]
theorem s_phase_some (s : Abs) (i k : Nat) (h : ¬ (s.rules.length ≤ i ∨ s.series.length ≤ k)) : Kct7Neutral.step s [[8, i, k]] = (s, phaseRow (s.phase i k)) := by
  show ((Kct7.step s (.phase i k)).1, Kct7Neutral.tell (Kct7.step s (.phase i k)).2) = _
  unfold Kct7.step; dsimp only; rw [if_neg h]
  cases s.phase i k <;> rfl
theorem s_value_none (s : Abs) (i k : Nat) (h : s.rules[i]? = none ∨ s.series[k]? = none) : Kct7Neutral.step s [[9, i, k]] = (s, [-2]) := by
  show ((Kct7.step s (.value i k)).1, Kct7Neutral.tell (Kct7.step s (.value i k)).2) = _
  unfold Kct7.step; dsimp only
  rcases h with h | h
  · rw [h]; rfl
  · rw [h]; cases s.rules[i]? <;> rfl
def valueRow : Option Int → List Int
  | none => [0]
  | some v => [1, v]
theorem s_value_some (s : Abs) (i k : Nat) {r : Rule} {x : Series} (hr : s.rules[i]? = some r) (hx : s.series[k]? = some x) : Kct7Neutral.step s [[9, i, k]] = (s, valueRow (valueOf r s.now x)) := by
  show ((Kct7.step s (.value i k)).1, Kct7Neutral.tell (Kct7.step s (.value i k)).2) = _
  unfold Kct7.step; dsimp only; rw [hr, hx]; dsimp only
  cases valueOf r s.now x <;> rfl
end Stp
end
section
set_option Elab.async false
set_option linter.all false
set_option maxHeartbeats 2000000
namespace Mth
open Kct7
/-! ### windows -/
theorem inWindow_drop {w t : Nat} : ∀ {l : List Sample} {p : Nat}, (∀ (i : Nat) (x : Sample), l[i]? = some x → i < p → x.time + w ≤ t) → (∀ (i : Nat) (x : Sample), l[i]? = some x → p ≤ i → t < x.time + w) → (∀ x ∈ l, x.time ≤ t) →
    inWindow w t l = (l.drop p).map Sample.value
  | [], p, _, _, _ => by simp [inWindow]
  | a :: l, 0, h1, h2, h3 => by
    have ih := inWindow_drop (w := w) (t := t) (l := l) (p := 0) (fun i x e h => absurd h (Nat.not_lt_zero _)) (fun i x e _ => h2 (i + 1) x (by simpa using e) (Nat.zero_le _)) (fun x hx => h3 x (List.mem_cons_of_mem _ hx))
    have ha := h2 0 a rfl (Nat.le_refl _)
    have hb := h3 a List.mem_cons_self
    unfold inWindow at ih ⊢
    rw [List.filter_cons, if_pos (by simp [ha, hb]), List.map_cons, ih]
    rfl
  | a :: l, p + 1, h1, h2, h3 => by
    have ih := inWindow_drop (w := w) (t := t) (l := l) (p := p) (fun i x e h => h1 (i + 1) x (by simpa using e) (Nat.succ_lt_succ h)) (fun i x e h => h2 (i + 1) x (by simpa using e) (Nat.succ_le_succ h)) (fun x hx => h3 x (List.mem_cons_of_mem _ hx))
    have ha := h1 0 a rfl (Nat.succ_pos _)
    unfold inWindow at ih ⊢
    rw [List.filter_cons, if_neg (by simp; omega), ih]
    rfl
theorem least_min : ∀ {l : List Int} {m : Int}, m ∈ l → (∀ y, y ∈ l → m ≤ y) → least l = some m
  | [], m, h, _ => by cases h
  | a :: l, m, h, k => by
    unfold least
    cases e : least l with
    | none =>
      cases l with
      | nil =>
        rcases List.mem_cons.mp h with rfl | h
        · rfl
        · cases h
      | cons b l =>
        unfold least at e
        split at e <;> cases e
    | some b =>
      dsimp only
      have hb : ∃ z ∈ l, b = z ∧ ∀ y ∈ l, z ≤ y := by
        clear h k
        induction l generalizing b with
        | nil => cases e
        | cons c l ih =>
          unfold least at e
          cases e2 : least l with
          | none =>
            rw [e2] at e
            have e : c = b := Option.some.inj e
            refine ⟨c, List.mem_cons_self, e.symm, fun y hy => ?_⟩
            rcases List.mem_cons.mp hy with rfl | hy
            · exact Int.le_refl _
            · cases l with
              | nil => cases hy
              | cons d l =>
                unfold least at e2
                split at e2 <;> cases e2
          | some d =>
            rw [e2] at e
            have e : (if d < c then d else c) = b := Option.some.inj e
            obtain ⟨z, hz, rfl, hm⟩ := ih d e2
            by_cases hc : d < c
            · rw [if_pos hc] at e
              refine ⟨d, List.mem_cons_of_mem _ hz, e.symm, fun y hy => ?_⟩
              rcases List.mem_cons.mp hy with rfl | hy
              · omega
              · exact hm y hy
            · rw [if_neg hc] at e
              refine ⟨c, List.mem_cons_self, e.symm, fun y hy => ?_⟩
              rcases List.mem_cons.mp hy with rfl | hy
              · exact Int.le_refl _
              · have := hm y hy
                omega
      obtain ⟨z, hz, rfl, hm⟩ := hb
      have h1 := k a List.mem_cons_self
      have h2 := k b (List.mem_cons_of_mem _ hz)
      rcases List.mem_cons.mp h with rfl | h
      · congr 1
        split <;> omega
      · have := hm m h
        congr 1
        split <;> omega
theorem greatest_neg : ∀ l : List Int, greatest l = (least (l.map fun x => -x)).map fun x => -x
  | [] => rfl
  | a :: l => by
    have ih := greatest_neg l
    rw [List.map_cons]
    unfold greatest least
    rw [ih]
    cases least (l.map fun x => -x) with
    | none =>
      show some a = some (- -a)
      rw [Int.neg_neg]
    | some b =>
      show some (if a < -b then -b else a) = some (-(if b < -a then b else -a))
      congr 1
      split <;> split <;> omega
theorem greatest_max {l : List Int} {m : Int} (h : m ∈ l) (k : ∀ y, y ∈ l → y ≤ m) : greatest l = some m := by
  rw [greatest_neg, least_min (m := -m) (List.mem_map.mpr ⟨m, h, rfl⟩) fun y hy => by
    obtain ⟨z, hz, rfl⟩ := List.mem_map.mp hy
    have := k z hz
    omega]
  show some (- -m) = some m
  rw [Int.neg_neg]
theorem sum_eq : ∀ l : List Int, l.sum = sumOf l
  | [] => rfl
  | a :: l => by rw [List.sum_cons, sum_eq l]; rfl
/-! ### the newest -/
theorem newest_full {l : List Sample} {x : Sample} (h : l.length = 64) : newest (l ++ [x]) = l.drop 1 ++ [x] := by
  unfold newest KEPT
  rw [List.length_append, h]
  show (l ++ [x]).drop 1 = _
  rw [List.drop_append_of_le_length (by omega)]
theorem newest_less {l : List Sample} {x : Sample} (h : l.length < 64) : newest (l ++ [x]) = l ++ [x] := by
  unfold newest KEPT
  have : (l ++ [x]).length - 64 = 0 := by rw [List.length_append, List.length_singleton]; omega
  rw [this, List.drop_zero]
/-! ### what every state is -/
def Sorted (l : List Sample) : Prop := ∀ (i j : Nat) (x y : Sample), i ≤ j → l[i]? = some x → l[j]? = some y → x.time ≤ y.time
structure Ser (now : Nat) (x : Series) : Prop where
  grp : x.group < 16
  len : x.samples.length ≤ 64
  srt : Sorted x.samples
  old : ∀ y ∈ x.samples, y.time ≤ now
structure Ok (s : Abs) : Prop where
  ns : s.series.length ≤ 64
  nr : s.rules.length ≤ 32
  nz : s.silences.length ≤ 32
  ser : ∀ x ∈ s.series, Ser s.now x
  pha : ∀ i k, s.phase i k ≠ .quiet → ∃ r x, s.rules[i]? = some r ∧ s.series[k]? = some x ∧ r.kind = x.kind
  tld : ∀ g, (s.told g).pairs.length ≤ 2048
  tln : ∀ g, (s.told g).pairs ≠ [] → (s.told g).last ≠ none
  nnt : s.notes.length ≤ 16
  nts : ∀ n ∈ s.notes, n.new.length ≤ 2048 ∧ n.gone.length ≤ 2048
theorem ok_first (w a : Nat) : Ok (first w a) := ⟨by simp [first], by simp [first], by simp [first], by simp [first], by simp [first], by simp [first], by simp [first], by simp [first], by simp [first]⟩
theorem flat_len {α β : Type} (f : α → List β) (m : Nat) (h : ∀ a, (f a).length ≤ m) : ∀ l : List α, (l.flatMap f).length ≤ l.length * m
  | [] => by simp
  | a :: l => by
    rw [List.flatMap_cons, List.length_append, List.length_cons, Nat.succ_mul]
    have := flat_len f m h l
    have := h a
    omega
theorem fm_len {α β : Type} (f : α → Option β) : ∀ l : List α, (l.filterMap f).length ≤ l.length
  | [] => by simp
  | a :: l => by
    rw [List.filterMap_cons]
    have := fm_len f l
    cases f a with
    | none => dsimp only; rw [List.length_cons]; omega
    | some b => dsimp only; rw [List.length_cons, List.length_cons]; omega
theorem firing_len {s : Abs} (h : Ok s) (p : Nat → Nat → Phase) (g : Nat) : (firing s p g).length ≤ 2048 := by
  unfold firing
  refine Nat.le_trans (flat_len _ 64 (fun i => ?_) _) ?_
  · refine Nat.le_trans (fm_len _ _) ?_
    rw [List.length_range]
    exact h.ns
  · rw [List.length_range]
    have := h.nr
    omega
theorem seen_len {s : Abs} (h : Ok s) (p : Nat → Nat → Phase) (t g : Nat) : (seen s p t g).length ≤ 2048 := by
  unfold seen
  exact Nat.le_trans (List.length_filter_le _ _) (Nat.le_trans (List.length_filter_le _ _) (firing_len h p g))
theorem less_len (a b : List Pair) : (less a b).length ≤ a.length := List.length_filter_le _ _
theorem noteOf_some {s : Abs} {p : Nat → Nat → Phase} {t g : Nat} {n : Note} (h : noteOf s p t g = some n) : n = ⟨g, [], [], true⟩ ∨ n = ⟨g, less (seen s p t g) (s.told g).pairs, less (s.told g).pairs (seen s p t g), false⟩ := by
  unfold noteOf at h
  dsimp only at h
  split at h
  · split at h
    · exact .inl (Option.some.inj h).symm
    · cases h
  · split at h
    · exact .inr (Option.some.inj h).symm
    · cases h
theorem ok_tick {s : Abs} (h : Ok s) {t : Nat} (ht : s.now ≤ t) : Ok (tick s t) where
  ns := h.ns
  nr := h.nr
  nz := h.nz
  ser := fun x hx => ⟨(h.ser x hx).grp, (h.ser x hx).len, (h.ser x hx).srt, fun y hy => Nat.le_trans ((h.ser x hx).old y hy) ht⟩
  pha := fun i k e => by
    have e : phases s t i k ≠ .quiet := e
    show ∃ r x, s.rules[i]? = some r ∧ s.series[k]? = some x ∧ r.kind = x.kind
    unfold phases at e
    split at e
    · rename_i r x hr hx
      split at e
      · rename_i hk
        exact ⟨r, x, hr, hx, hk⟩
      · exact h.pha i k e
    · exact h.pha i k e
  tld := fun g => by
    show (if (noteOf s (phases s t) t g).isSome = true then (⟨seen s (phases s t) t g, some t⟩ : Told) else s.told g).pairs.length ≤ 2048
    split
    · exact seen_len h _ _ _
    · exact h.tld g
  tln := fun g => by
    show (if (noteOf s (phases s t) t g).isSome = true then (⟨seen s (phases s t) t g, some t⟩ : Told) else s.told g).pairs ≠ [] → (if (noteOf s (phases s t) t g).isSome = true then (⟨seen s (phases s t) t g, some t⟩ : Told) else s.told g).last ≠ none
    split
    · exact fun _ z => nomatch z
    · exact h.tln g
  nnt := by
    show ((List.range GROUPS).filterMap (noteOf s (phases s t) t)).length ≤ 16
    exact Nat.le_trans (fm_len _ _) (by rw [List.length_range]; decide)
  nts := fun n hn => by
    have hn : n ∈ (List.range GROUPS).filterMap (noteOf s (phases s t) t) := hn
    obtain ⟨g, _, e⟩ := List.mem_filterMap.mp hn
    rcases noteOf_some e with rfl | rfl
    · exact ⟨by simp, by simp⟩
    · exact ⟨Nat.le_trans (less_len _ _) (seen_len h _ _ _), Nat.le_trans (less_len _ _) (h.tld g)⟩
theorem ok_series {s : Abs} (h : Ok s) {k g : Nat} (hg : g < 16) (hl : s.series.length < 64) : Ok { s with series := s.series ++ [⟨k, g, []⟩] } where
  ns := by show (s.series ++ [_]).length ≤ 64; rw [List.length_append, List.length_singleton]; omega
  nr := h.nr
  nz := h.nz
  ser := fun x hx => by
    rcases List.mem_append.mp (show x ∈ s.series ++ [_] from hx) with hx | hx
    · exact h.ser x hx
    · rw [List.mem_singleton.mp hx]
      exact ⟨hg, by simp, fun i j x y _ e => by simp at e, fun y hy => by cases hy⟩
  pha := fun i k e => by
    obtain ⟨r, x, h1, h2, h3⟩ := h.pha i k e
    exact ⟨r, x, h1, (List.getElem?_append_left (List.getElem?_eq_some_iff.mp h2).1).trans h2, h3⟩
  tld := h.tld
  tln := h.tln
  nnt := h.nnt
  nts := h.nts
theorem ok_rule {s : Abs} (h : Ok s) (r : Rule) (hl : s.rules.length < 32) : Ok { s with rules := s.rules ++ [r] } where
  ns := h.ns
  nr := by show (s.rules ++ [_]).length ≤ 32; rw [List.length_append, List.length_singleton]; omega
  nz := h.nz
  ser := h.ser
  pha := fun i k e => by
    obtain ⟨r, x, h1, h2, h3⟩ := h.pha i k e
    exact ⟨r, x, (List.getElem?_append_left (List.getElem?_eq_some_iff.mp h1).1).trans h1, h2, h3⟩
  tld := h.tld
  tln := h.tln
  nnt := h.nnt
  nts := h.nts
theorem ok_silence {s : Abs} (h : Ok s) (z : Option Silence) (hl : s.silences.length < 32) : Ok { s with silences := s.silences ++ [z] } where
  ns := h.ns
  nr := h.nr
  nz := by show (s.silences ++ [_]).length ≤ 32; rw [List.length_append, List.length_singleton]; omega
  ser := h.ser
  pha := h.pha
  tld := h.tld
  tln := h.tln
  nnt := h.nnt
  nts := h.nts
theorem ok_end {s : Abs} (h : Ok s) (k : Nat) : Ok { s with silences := s.silences.set k none } where
  ns := h.ns
  nr := h.nr
  nz := by show (s.silences.set k none).length ≤ 32; rw [List.length_set]; exact h.nz
  ser := h.ser
  pha := h.pha
  tld := h.tld
  tln := h.tln
  nnt := h.nnt
  nts := h.nts
theorem sorted_drop {l : List Sample} (h : Sorted l) (n : Nat) : Sorted (l.drop n) := fun i j x y hij h1 h2 => by
  rw [List.getElem?_drop] at h1 h2
  exact h (n + i) (n + j) x y (by omega) h1 h2
theorem sorted_snoc {l : List Sample} (h : Sorted l) {x : Sample} (hx : ∀ y ∈ l, y.time ≤ x.time) : Sorted (l ++ [x]) := fun i j a b hij h1 h2 => by
  rw [List.getElem?_append] at h1 h2
  split at h2
  · rename_i hj
    rw [if_pos (by omega)] at h1
    exact h i j a b hij h1 h2
  · rename_i hj
    have hj0 : j - l.length = 0 := by
      have := (List.getElem?_eq_some_iff.mp h2).1
      rw [List.length_singleton] at this
      omega
    rw [hj0] at h2
    have e : x = b := Option.some.inj h2
    subst e
    split at h1
    · exact hx a (List.mem_of_getElem? h1)
    · have hi0 : i - l.length = 0 := by
        have := (List.getElem?_eq_some_iff.mp h1).1
        rw [List.length_singleton] at this
        omega
      rw [hi0] at h1
      have e : x = a := Option.some.inj h1
      subst e
      exact Nat.le_refl _
theorem newest_len (l : List Sample) : (newest l).length ≤ 64 := by
  unfold newest KEPT
  rw [List.length_drop]
  omega
theorem ok_sample {s : Abs} (h : Ok s) {k : Nat} {x : Series} (hx : s.series[k]? = some x) (v : Int) : Ok { s with series := s.series.set k { x with samples := newest (x.samples ++ [⟨s.now, v⟩]) } } where
  ns := by show (s.series.set k _).length ≤ 64; rw [List.length_set]; exact h.ns
  nr := h.nr
  nz := h.nz
  ser := fun y hy => by
    have hx' := h.ser x (List.mem_of_getElem? hx)
    rcases List.mem_or_eq_of_mem_set (show y ∈ s.series.set k _ from hy) with hy | rfl
    · exact h.ser y hy
    · refine ⟨hx'.grp, newest_len _, ?_, fun z hz => ?_⟩
      · unfold newest
        exact sorted_drop (sorted_snoc hx'.srt hx'.old) _
      · have hz : z ∈ newest (x.samples ++ [⟨s.now, v⟩]) := hz
        unfold newest at hz
        rcases List.mem_append.mp (List.mem_of_mem_drop hz) with hz | hz
        · exact hx'.old z hz
        · rw [List.mem_singleton.mp hz]
          exact Nat.le_refl _
  pha := fun i j e => by
    obtain ⟨r, y, h1, h2, h3⟩ := h.pha i j e
    by_cases hj : k = j
    · subst hj
      rw [hx] at h2
      cases h2
      exact ⟨r, _, h1, List.getElem?_set_self (List.getElem?_eq_some_iff.mp hx).1, h3⟩
    · exact ⟨r, y, h1, (List.getElem?_set_ne hj).trans h2, h3⟩
  tld := h.tld
  tln := h.tln
  nnt := h.nnt
  nts := h.nts
end Mth
end
section
set_option Elab.async false
set_option linter.all false
set_option maxHeartbeats 2000000
namespace Mth
open Kct7
/-! ### what is known, in its order -/
def inRow (P : Nat → Nat → Phase) (i n : Nat) : List Pair := (List.range n).filterMap fun k => if P i k = .quiet then none else some (i, k)
def inAll (P : Nat → Nat → Phase) (m n : Nat) : List Pair := (List.range m).flatMap fun i => inRow P i n
theorem inRow_zero (P : Nat → Nat → Phase) (i : Nat) : inRow P i 0 = [] := rfl
theorem inRow_succ (P : Nat → Nat → Phase) (i n : Nat) : inRow P i (n + 1) = inRow P i n ++ (if P i n = .quiet then [] else [(i, n)]) := by
  unfold inRow
  rw [List.range_succ, List.filterMap_append]
  congr 1
  rw [List.filterMap_cons]
  split
  · rename_i h
    split at h
    · rename_i q
      rw [if_pos q]; rfl
    · cases h
  · rename_i h
    split at h
    · cases h
    · rename_i q
      rw [if_neg q, ← Option.some.inj h]; rfl
theorem inAll_zero (P : Nat → Nat → Phase) (n : Nat) : inAll P 0 n = [] := rfl
theorem inAll_succ (P : Nat → Nat → Phase) (m n : Nat) : inAll P (m + 1) n = inAll P m n ++ inRow P m n := by
  unfold inAll
  rw [List.range_succ, List.flatMap_append, List.flatMap_singleton]
theorem mem_inRow {P : Nat → Nat → Phase} {i n : Nat} {p : Pair} : p ∈ inRow P i n ↔ p.1 = i ∧ p.2 < n ∧ P p.1 p.2 ≠ .quiet := by
  unfold inRow
  rw [List.mem_filterMap]
  constructor
  · rintro ⟨k, hk, e⟩
    split at e
    · cases e
    · rename_i q
      cases e
      exact ⟨rfl, List.mem_range.mp hk, q⟩
  · rintro ⟨h1, h2, h3⟩
    obtain ⟨a, b⟩ := p
    dsimp only at h1 h2 h3
    subst h1
    exact ⟨b, List.mem_range.mpr h2, by rw [if_neg h3]⟩
theorem mem_inAll {P : Nat → Nat → Phase} {m n : Nat} {p : Pair} : p ∈ inAll P m n ↔ p.1 < m ∧ p.2 < n ∧ P p.1 p.2 ≠ .quiet := by
  unfold inAll
  rw [List.mem_flatMap]
  constructor
  · rintro ⟨i, hi, e⟩
    obtain ⟨h1, h2, h3⟩ := mem_inRow.mp e
    exact ⟨by rw [h1]; exact List.mem_range.mp hi, h2, h3⟩
  · rintro ⟨h1, h2, h3⟩
    exact ⟨p.1, List.mem_range.mpr h1, mem_inRow.mpr ⟨rfl, h2, h3⟩⟩
theorem inRow_len (P : Nat → Nat → Phase) (i n : Nat) : (inRow P i n).length ≤ n := by
  unfold inRow
  exact Nat.le_trans (fm_len _ _) (by rw [List.length_range]; exact Nat.le_refl _)
theorem inAll_len (P : Nat → Nat → Phase) (m n : Nat) : (inAll P m n).length ≤ m * n := by
  unfold inAll
  exact Nat.le_trans (flat_len _ n (fun i => inRow_len P i n) _) (by rw [List.length_range]; exact Nat.le_refl _)
theorem filter_fm {α β : Type} (f : α → Option β) (q : β → Bool) : ∀ l : List α, (l.filterMap f).filter q = l.filterMap fun a => (f a).filter q
  | [] => rfl
  | a :: l => by
    rw [List.filterMap_cons, List.filterMap_cons]
    cases h : f a with
    | none => dsimp only [Option.filter]; exact filter_fm f q l
    | some b =>
      dsimp only [Option.filter]
      rw [List.filter_cons]
      by_cases hq : q b = true
      · rw [if_pos hq, if_pos hq]; dsimp only; rw [filter_fm f q l]; rfl
      · rw [if_neg hq, if_neg hq]; dsimp only; exact filter_fm f q l
/-- of what fires and is not silenced, as a part of what is known -/
def open_ (s : Abs) (P : Nat → Nat → Phase) (t g : Nat) (x : Pair) : Bool := isFiring (P x.1 x.2) && ((s.series[x.2]?).any fun y => y.group == g) && !silenced s t g x
theorem firing_eq (s : Abs) (P : Nat → Nat → Phase) (t g : Nat) : ((firing s P g).filter fun x => !silenced s t g x) = (inAll P s.rules.length s.series.length).filter (open_ s P t g) := by
  unfold firing inAll
  rw [List.filter_flatMap, List.filter_flatMap]
  congr 1
  funext i
  unfold inRow
  show List.filter _ _ = List.filter _ _
  rw [filter_fm, filter_fm]
  congr 1
  funext k
  have e : ∀ (c : Bool) (p : Pair), (if c = true then some p else none : Option Pair).filter (fun x => !silenced s t g x) = if (c && !silenced s t g p) = true then some p else none := by
    intro c p
    cases c with
    | false => rfl
    | true =>
      show (if (!silenced s t g p) = true then some p else none) = _
      rw [Bool.true_and]
  rw [e]
  by_cases h : P i k = .quiet
  · rw [if_pos h, h]; rfl
  · rw [if_neg h]
    show _ = if open_ s P t g (i, k) = true then some (i, k) else none
    unfold open_
    rfl
/-! ### the gravest -/
theorem gravest_eq (s : Abs) (l : List Pair) (top : Nat) (h1 : l ≠ [] → ∃ x ∈ l, levelOf s x = top) (h2 : ∀ x ∈ l, levelOf s x ≤ top) :
    (l.filter fun x => !(l.any fun y => decide (levelOf s x < levelOf s y))) = l.filter fun x => decide (levelOf s x = top) := by
  apply List.filter_congr
  intro x hx
  have hx2 := h2 x hx
  obtain ⟨y, hy, ey⟩ := h1 (List.ne_nil_of_mem hx)
  by_cases e : levelOf s x = top
  · rw [decide_eq_true e, Bool.not_eq_true', List.any_eq_false]
    intro z hz
    have := h2 z hz
    simp only [decide_eq_true_eq]
    omega
  · rw [decide_eq_false e, Bool.not_eq_false', List.any_eq_true]
    exact ⟨y, hy, by simp only [decide_eq_true_eq]; omega⟩
/-! ### silences -/
def zActive (t : Nat) (z : Silence) : Bool := decide (z.from_ ≤ t) && decide (t < z.till)
def zKeys (s : Abs) (t n : Nat) : List Pair := (s.silences.take n).filterMap fun o => match o with
  | some z => if zActive t z = true then some (z.rule, z.group) else none
  | none => none
theorem mem_zKeys {s : Abs} {t : Nat} {p : Pair} : p ∈ zKeys s t s.silences.length ↔ ∃ z, some z ∈ s.silences ∧ zActive t z = true ∧ (z.rule, z.group) = p := by
  unfold zKeys
  rw [List.take_length, List.mem_filterMap]
  constructor
  · rintro ⟨o, ho, e⟩
    cases o with
    | none => cases e
    | some z =>
      dsimp only at e
      split at e
      · rename_i h
        exact ⟨z, ho, h, Option.some.inj e⟩
      · cases e
  · rintro ⟨z, hz, ha, e⟩
    exact ⟨some z, hz, by dsimp only; rw [if_pos ha, e]⟩
theorem silenced_eq (s : Abs) (t g i k : Nat) : silenced s t g (i, k) = ((decide ((i, g) ∈ zKeys s t s.silences.length) || decide ((i, 255) ∈ zKeys s t s.silences.length)) || (decide ((255, g) ∈ zKeys s t s.silences.length) || decide ((255, 255) ∈ zKeys s t s.silences.length))) := by
  rw [Bool.eq_iff_iff]
  unfold silenced
  simp only [Bool.or_eq_true, decide_eq_true_eq, mem_zKeys, List.any_eq_true, Option.any_eq_true]
  constructor
  · rintro ⟨o, ho, z, rfl, hz⟩
    simp only [Bool.and_eq_true, Bool.or_eq_true, beq_iff_eq, decide_eq_true_eq] at hz
    obtain ⟨⟨⟨hr, hg⟩, h1⟩, h2⟩ := hz
    have ha : zActive t z = true := by unfold zActive; simp [h1, h2]
    unfold ANY at hr hg
    rcases hr with hr | hr <;> rcases hg with hg | hg
    · exact .inr (.inr ⟨z, ho, ha, by rw [hr, hg]⟩)
    · exact .inr (.inl ⟨z, ho, ha, by rw [hr, hg]⟩)
    · exact .inl (.inr ⟨z, ho, ha, by rw [hr, hg]⟩)
    · exact .inl (.inl ⟨z, ho, ha, by rw [hr, hg]⟩)
  · rintro ((⟨z, ho, ha, e⟩ | ⟨z, ho, ha, e⟩) | (⟨z, ho, ha, e⟩ | ⟨z, ho, ha, e⟩)) <;>
    · obtain ⟨e1, e2⟩ := Prod.mk.inj e
      unfold zActive at ha
      simp only [Bool.and_eq_true, decide_eq_true_eq] at ha
      exact ⟨some z, ho, z, rfl, by simp [e1, e2, ha.1, ha.2, ANY]⟩
def zOne (t : Nat) : Option Silence → List Pair
  | some z => if zActive t z = true then [(z.rule, z.group)] else []
  | none => []
theorem zKeys_succ {s : Abs} {t n : Nat} {o : Option Silence} (h : s.silences[n]? = some o) : zKeys s t (n + 1) = zKeys s t n ++ zOne t o := by
  unfold zKeys
  rw [List.take_add_one, h, List.filterMap_append]
  congr 1
  cases o with
  | none => rfl
  | some z =>
    show List.filterMap _ [some z] = zOne t (some z)
    unfold zOne
    rw [List.filterMap_cons]
    dsimp only
    by_cases q : zActive t z = true
    · rw [if_pos q, if_pos q]; rfl
    · rw [if_neg q, if_neg q]; rfl
/-! ### a tick, by parts -/
theorem tick_notes (s : Abs) (t : Nat) : (tick s t).notes = (List.range 16).filterMap (noteOf s (phases s t) t) := rfl
def toldTo (s : Abs) (P : Nat → Nat → Phase) (t n g : Nat) : Told := if g < n ∧ (noteOf s P t g).isSome = true then ⟨seen s P t g, some t⟩ else s.told g
def notesTo (s : Abs) (P : Nat → Nat → Phase) (t n : Nat) : List Note := (List.range n).filterMap (noteOf s P t)
theorem notesTo_succ (s : Abs) (P : Nat → Nat → Phase) (t n : Nat) : notesTo s P t (n + 1) = notesTo s P t n ++ (noteOf s P t n).toList := by
  unfold notesTo
  rw [List.range_succ, List.filterMap_append]
  congr 1
theorem phase_next {s : Abs} (h : Ok s) {t i k : Nat} {r : Rule} {x : Series} (hr : s.rules[i]? = some r) (hx : s.series[k]? = some x) :
    phases s t i k = if x.kind = r.kind then nextPhase r.hold (s.phase i k) t (isSo r (valueOf r t x)) (isOver r (valueOf r t x)) else .quiet := by
  unfold phases
  rw [hr, hx]
  dsimp only
  by_cases e : r.kind = x.kind
  · rw [if_pos e, if_pos e.symm]
  · rw [if_neg e, if_neg (fun q => e q.symm)]
    cases q : s.phase i k with
    | quiet => rfl
    | holds a =>
      obtain ⟨r', x', h1, h2, h3⟩ := h.pha i k (by rw [q]; exact fun z => nomatch z)
      rw [hr] at h1; rw [hx] at h2; cases h1; cases h2
      exact absurd h3 e
    | fires a =>
      obtain ⟨r', x', h1, h2, h3⟩ := h.pha i k (by rw [q]; exact fun z => nomatch z)
      rw [hr] at h1; rw [hx] at h2; cases h1; cases h2
      exact absurd h3 e
theorem phase_out {s : Abs} (h : Ok s) {t i k : Nat} (ho : s.rules.length ≤ i ∨ s.series.length ≤ k) : phases s t i k = .quiet := by
  have e : phases s t i k = s.phase i k := by
    unfold phases
    rcases ho with ho | ho
    · rw [List.getElem?_eq_none ho]
    · rw [List.getElem?_eq_none ho]
      cases s.rules[i]? <;> rfl
  rw [e]
  cases q : s.phase i k with
  | quiet => rfl
  | holds a =>
    obtain ⟨r', x', h1, h2, h3⟩ := h.pha i k (by rw [q]; exact fun z => nomatch z)
    have := (List.getElem?_eq_some_iff.mp h1).1
    have := (List.getElem?_eq_some_iff.mp h2).1
    omega
  | fires a =>
    obtain ⟨r', x', h1, h2, h3⟩ := h.pha i k (by rw [q]; exact fun z => nomatch z)
    have := (List.getElem?_eq_some_iff.mp h1).1
    have := (List.getElem?_eq_some_iff.mp h2).1
    omega
end Mth
end
section
set_option Elab.async false
set_option linter.all false
set_option maxRecDepth 100000
set_option maxHeartbeats 2000000
namespace My
open PySem PySem.Spec PyProof.Rows L2
def top (i : Nat) : Stmt := PySem.Challenge.pw_toldonce_s01_answers.main.body.getD i (.Pass ⟨0, 0, 0, 0⟩)
abbrev s_value_of : Stmt := top 22
abbrev p_value_of : List Str := ["rule", "series", "now"]
abbrev n_value_of : List Str := ["rule", "series", "now", "measured"]
theorem sc_value_of : FnScope n_value_of p_value_of (defScope s_value_of) := ⟨rfl, rfl, rfl, by decide +kernel, rfl, by decide +kernel, by decide +kernel⟩
abbrev s_first_later : Stmt := top 23
abbrev p_first_later : List Str := ["times", "time"]
abbrev n_first_later : List Str := ["times", "time", "low", "high", "middle"]
theorem sc_first_later : FnScope n_first_later p_first_later (defScope s_first_later) := ⟨rfl, rfl, rfl, by decide +kernel, rfl, by decide +kernel, by decide +kernel⟩
abbrev s_is_so : Stmt := top 24
abbrev p_is_so : List Str := ["rule", "value"]
abbrev n_is_so : List Str := ["rule", "value"]
theorem sc_is_so : FnScope n_is_so p_is_so (defScope s_is_so) := ⟨rfl, rfl, rfl, by decide +kernel, rfl, by decide +kernel, by decide +kernel⟩
abbrev s_is_over : Stmt := top 25
abbrev p_is_over : List Str := ["rule", "value"]
abbrev n_is_over : List Str := ["rule", "value"]
theorem sc_is_over : FnScope n_is_over p_is_over (defScope s_is_over) := ⟨rfl, rfl, rfl, by decide +kernel, rfl, by decide +kernel, by decide +kernel⟩
abbrev s_note_answer : Stmt := top 27
abbrev p_note_answer : List Str := ["state", "number"]
abbrev n_note_answer : List Str := ["state", "number", "note", "answer", "pair"]
theorem sc_note_answer : FnScope n_note_answer p_note_answer (defScope s_note_answer) := ⟨rfl, rfl, rfl, by decide +kernel, rfl, by decide +kernel, by decide +kernel⟩
abbrev s_phase_answer : Stmt := top 28
abbrev p_phase_answer : List Str := ["state", "rule_number", "series_number"]
abbrev n_phase_answer : List Str := ["state", "rule_number", "series_number", "known"]
theorem sc_phase_answer : FnScope n_phase_answer p_phase_answer (defScope s_phase_answer) := ⟨rfl, rfl, rfl, by decide +kernel, rfl, by decide +kernel, by decide +kernel⟩
abbrev s_value_answer : Stmt := top 29
abbrev p_value_answer : List Str := ["state", "rule_number", "series_number"]
abbrev n_value_answer : List Str := ["state", "rule_number", "series_number", "value"]
theorem sc_value_answer : FnScope n_value_answer p_value_answer (defScope s_value_answer) := ⟨rfl, rfl, rfl, by decide +kernel, rfl, by decide +kernel, by decide +kernel⟩
abbrev s_is_there : Stmt := top 30
abbrev p_is_there : List Str := ["state", "rule_number", "series_number"]
abbrev n_is_there : List Str := ["state", "rule_number", "series_number"]
theorem sc_is_there : FnScope n_is_there p_is_there (defScope s_is_there) := ⟨rfl, rfl, rfl, by decide +kernel, rfl, by decide +kernel, by decide +kernel⟩
abbrev s_Series : Stmt := inClass (top 32) 0
abbrev p_Series : List Str := ["self", "kind", "group"]
abbrev n_Series : List Str := ["self", "kind", "group"]
abbrev a_Series : List Str := ["kind", "group", "times", "measured"]
theorem sc_Series : FnScope n_Series p_Series (defScope s_Series) := ⟨rfl, rfl, rfl, by decide +kernel, rfl, by decide +kernel, by decide +kernel⟩
abbrev s_Rule : Stmt := inClass (top 33) 0
abbrev p_Rule : List Str := ["self", "kind", "what", "above", "window", "bound", "over", "hold", "level"]
abbrev n_Rule : List Str := ["self", "kind", "what", "above", "window", "bound", "over", "hold", "level"]
abbrev a_Rule : List Str := ["kind", "what", "above", "window", "bound", "over", "hold", "level"]
theorem sc_Rule : FnScope n_Rule p_Rule (defScope s_Rule) := ⟨rfl, rfl, rfl, by decide +kernel, rfl, by decide +kernel, by decide +kernel⟩
abbrev s_Silence : Stmt := inClass (top 34) 0
abbrev p_Silence : List Str := ["self", "rule", "group", "start", "till"]
abbrev n_Silence : List Str := ["self", "rule", "group", "start", "till"]
abbrev a_Silence : List Str := ["rule", "group", "start", "till", "ended"]
theorem sc_Silence : FnScope n_Silence p_Silence (defScope s_Silence) := ⟨rfl, rfl, rfl, by decide +kernel, rfl, by decide +kernel, by decide +kernel⟩
abbrev s_Told : Stmt := inClass (top 35) 0
abbrev p_Told : List Str := ["self"]
abbrev n_Told : List Str := ["self"]
abbrev a_Told : List Str := ["pairs", "last"]
theorem sc_Told : FnScope n_Told p_Told (defScope s_Told) := ⟨rfl, rfl, rfl, by decide +kernel, rfl, by decide +kernel, by decide +kernel⟩
abbrev s_Note : Stmt := inClass (top 36) 0
abbrev p_Note : List Str := ["self", "group", "again", "new", "over"]
abbrev n_Note : List Str := ["self", "group", "again", "new", "over"]
abbrev a_Note : List Str := ["group", "again", "new", "over"]
theorem sc_Note : FnScope n_Note p_Note (defScope s_Note) := ⟨rfl, rfl, rfl, by decide +kernel, rfl, by decide +kernel, by decide +kernel⟩
abbrev s_State : Stmt := inClass (top 37) 0
abbrev p_State : List Str := ["self"]
abbrev n_State : List Str := ["self"]
abbrev a_State : List Str := ["wait", "again", "now", "series", "rules", "silences", "known", "told", "notes"]
theorem sc_State : FnScope n_State p_State (defScope s_State) := ⟨rfl, rfl, rfl, by decide +kernel, rfl, by decide +kernel, by decide +kernel⟩
abbrev s_State_start_over : Stmt := inClass (top 37) 1
abbrev p_State_start_over : List Str := ["self", "wait", "again"]
abbrev n_State_start_over : List Str := ["self", "wait", "again", "group"]
theorem sc_State_start_over : FnScope n_State_start_over p_State_start_over (defScope s_State_start_over) := ⟨rfl, rfl, rfl, by decide +kernel, rfl, by decide +kernel, by decide +kernel⟩
abbrev s_known_now : Stmt := top 41
abbrev p_known_now : List Str := ["state"]
abbrev n_known_now : List Str := ["state", "known", "rule_number", "rule", "series_number", "series", "pair", "value", "after"]
theorem sc_known_now : FnScope n_known_now p_known_now (defScope s_known_now) := ⟨rfl, rfl, rfl, by decide +kernel, rfl, by decide +kernel, by decide +kernel⟩
abbrev s_known_after : Stmt := top 42
abbrev p_known_after : List Str := ["before", "rule", "value", "now"]
abbrev n_known_after : List Str := ["before", "rule", "value", "now"]
theorem sc_known_after : FnScope n_known_after p_known_after (defScope s_known_after) := ⟨rfl, rfl, rfl, by decide +kernel, rfl, by decide +kernel, by decide +kernel⟩
abbrev s_known_first : Stmt := top 43
abbrev p_known_first : List Str := ["rule", "value", "now"]
abbrev n_known_first : List Str := ["rule", "value", "now"]
theorem sc_known_first : FnScope n_known_first p_known_first (defScope s_known_first) := ⟨rfl, rfl, rfl, by decide +kernel, rfl, by decide +kernel, by decide +kernel⟩
abbrev s_notes_now : Stmt := top 45
abbrev p_notes_now : List Str := ["state"]
abbrev n_notes_now : List Str := ["state", "notes", "group", "pairs", "note"]
theorem sc_notes_now : FnScope n_notes_now p_notes_now (defScope s_notes_now) := ⟨rfl, rfl, rfl, by decide +kernel, rfl, by decide +kernel, by decide +kernel⟩
abbrev s_note_of : Stmt := top 46
abbrev p_note_of : List Str := ["state", "group", "seen"]
abbrev n_note_of : List Str := ["state", "group", "seen", "told", "note"]
theorem sc_note_of : FnScope n_note_of p_note_of (defScope s_note_of) := ⟨rfl, rfl, rfl, by decide +kernel, rfl, by decide +kernel, by decide +kernel⟩
abbrev s_is_ago : Stmt := top 47
abbrev p_is_ago : List Str := ["last", "span", "now"]
abbrev n_is_ago : List Str := ["last", "span", "now"]
theorem sc_is_ago : FnScope n_is_ago p_is_ago (defScope s_is_ago) := ⟨rfl, rfl, rfl, by decide +kernel, rfl, by decide +kernel, by decide +kernel⟩
abbrev s_those_not_in : Stmt := top 48
abbrev p_those_not_in : List Str := ["pairs", "others"]
abbrev n_those_not_in : List Str := ["pairs", "others", "left_out", "pair"]
theorem sc_those_not_in : FnScope n_those_not_in p_those_not_in (defScope s_those_not_in) := ⟨rfl, rfl, rfl, by decide +kernel, rfl, by decide +kernel, by decide +kernel⟩
abbrev s_unsilenced_by_group : Stmt := top 49
abbrev p_unsilenced_by_group : List Str := ["state"]
abbrev n_unsilenced_by_group : List Str := ["state", "silenced", "groups", "pair", "known", "group", "told"]
theorem sc_unsilenced_by_group : FnScope n_unsilenced_by_group p_unsilenced_by_group (defScope s_unsilenced_by_group) := ⟨rfl, rfl, rfl, by decide +kernel, rfl, by decide +kernel, by decide +kernel⟩
abbrev s_silenced_now : Stmt := top 50
abbrev p_silenced_now : List Str := ["state"]
abbrev n_silenced_now : List Str := ["state", "silenced", "silence"]
theorem sc_silenced_now : FnScope n_silenced_now p_silenced_now (defScope s_silenced_now) := ⟨rfl, rfl, rfl, by decide +kernel, rfl, by decide +kernel, by decide +kernel⟩
abbrev s_is_silenced : Stmt := top 51
abbrev p_is_silenced : List Str := ["silenced", "rule", "group"]
abbrev n_is_silenced : List Str := ["silenced", "rule", "group"]
theorem sc_is_silenced : FnScope n_is_silenced p_is_silenced (defScope s_is_silenced) := ⟨rfl, rfl, rfl, by decide +kernel, rfl, by decide +kernel, by decide +kernel⟩
abbrev s_gravest : Stmt := top 52
abbrev p_gravest : List Str := ["rules", "pairs"]
abbrev n_gravest : List Str := ["rules", "pairs", "top", "pair"]
theorem sc_gravest : FnScope n_gravest p_gravest (defScope s_gravest) := ⟨rfl, rfl, rfl, by decide +kernel, rfl, by decide +kernel, by decide +kernel⟩
abbrev s_sample : Stmt := top 54
abbrev p_sample : List Str := ["state", "number", "value"]
abbrev n_sample : List Str := ["state", "number", "value", "series"]
theorem sc_sample : FnScope n_sample p_sample (defScope s_sample) := ⟨rfl, rfl, rfl, by decide +kernel, rfl, by decide +kernel, by decide +kernel⟩
abbrev s_tick : Stmt := top 55
abbrev p_tick : List Str := ["state", "time"]
abbrev n_tick : List Str := ["state", "time"]
theorem sc_tick : FnScope n_tick p_tick (defScope s_tick) := ⟨rfl, rfl, rfl, by decide +kernel, rfl, by decide +kernel, by decide +kernel⟩
abbrev s_begin : Stmt := top 57
abbrev p_begin : List Str := ["state", "wait", "again"]
abbrev n_begin : List Str := ["state", "wait", "again"]
theorem sc_begin : FnScope n_begin p_begin (defScope s_begin) := ⟨rfl, rfl, rfl, by decide +kernel, rfl, by decide +kernel, by decide +kernel⟩
abbrev s_add_series : Stmt := top 58
abbrev p_add_series : List Str := ["state", "series"]
abbrev n_add_series : List Str := ["state", "series"]
theorem sc_add_series : FnScope n_add_series p_add_series (defScope s_add_series) := ⟨rfl, rfl, rfl, by decide +kernel, rfl, by decide +kernel, by decide +kernel⟩
abbrev s_add_rule : Stmt := top 59
abbrev p_add_rule : List Str := ["state", "rule"]
abbrev n_add_rule : List Str := ["state", "rule"]
theorem sc_add_rule : FnScope n_add_rule p_add_rule (defScope s_add_rule) := ⟨rfl, rfl, rfl, by decide +kernel, rfl, by decide +kernel, by decide +kernel⟩
abbrev s_add_silence : Stmt := top 60
abbrev p_add_silence : List Str := ["state", "silence"]
abbrev n_add_silence : List Str := ["state", "silence"]
theorem sc_add_silence : FnScope n_add_silence p_add_silence (defScope s_add_silence) := ⟨rfl, rfl, rfl, by decide +kernel, rfl, by decide +kernel, by decide +kernel⟩
abbrev s_end_silence : Stmt := top 61
abbrev p_end_silence : List Str := ["state", "number"]
abbrev n_end_silence : List Str := ["state", "number", "silence"]
theorem sc_end_silence : FnScope n_end_silence p_end_silence (defScope s_end_silence) := ⟨rfl, rfl, rfl, by decide +kernel, rfl, by decide +kernel, by decide +kernel⟩
abbrev s_is_wrong_choice : Stmt := top 62
abbrev p_is_wrong_choice : List Str := ["rule"]
abbrev n_is_wrong_choice : List Str := ["rule"]
theorem sc_is_wrong_choice : FnScope n_is_wrong_choice p_is_wrong_choice (defScope s_is_wrong_choice) := ⟨rfl, rfl, rfl, by decide +kernel, rfl, by decide +kernel, by decide +kernel⟩
abbrev s_is_wrong_span : Stmt := top 63
abbrev p_is_wrong_span : List Str := ["rule"]
abbrev n_is_wrong_span : List Str := ["rule"]
theorem sc_is_wrong_span : FnScope n_is_wrong_span p_is_wrong_span (defScope s_is_wrong_span) := ⟨rfl, rfl, rfl, by decide +kernel, rfl, by decide +kernel, by decide +kernel⟩
abbrev s_is_wrong_bound : Stmt := top 64
abbrev p_is_wrong_bound : List Str := ["rule"]
abbrev n_is_wrong_bound : List Str := ["rule"]
theorem sc_is_wrong_bound : FnScope n_is_wrong_bound p_is_wrong_bound (defScope s_is_wrong_bound) := ⟨rfl, rfl, rfl, by decide +kernel, rfl, by decide +kernel, by decide +kernel⟩
abbrev s_number_of_added : Stmt := top 65
abbrev p_number_of_added : List Str := ["held", "most", "one"]
abbrev n_number_of_added : List Str := ["held", "most", "one"]
theorem sc_number_of_added : FnScope n_number_of_added p_number_of_added (defScope s_number_of_added) := ⟨rfl, rfl, rfl, by decide +kernel, rfl, by decide +kernel, by decide +kernel⟩
abbrev s_answers : Stmt := top 77
abbrev p_answers : List Str := ["calls"]
abbrev n_answers : List Str := ["calls", "state", "given", "place", "call", "behind", "answer"]
theorem sc_answers : FnScope n_answers p_answers (defScope s_answers) := ⟨rfl, rfl, rfl, by decide +kernel, rfl, by decide +kernel, by decide +kernel⟩
abbrev s_answer_of : Stmt := top 78
abbrev p_answer_of : List Str := ["state", "call", "row"]
abbrev n_answer_of : List Str := ["state", "call", "row"]
theorem sc_answer_of : FnScope n_answer_of p_answer_of (defScope s_answer_of) := ⟨rfl, rfl, rfl, by decide +kernel, rfl, by decide +kernel, by decide +kernel⟩
abbrev s_number_of : Stmt := top 79
abbrev p_number_of : List Str := ["state", "call", "row"]
abbrev n_number_of : List Str := ["state", "call", "row"]
theorem sc_number_of : FnScope n_number_of p_number_of (defScope s_number_of) := ⟨rfl, rfl, rfl, by decide +kernel, rfl, by decide +kernel, by decide +kernel⟩
abbrev s_rule_of : Stmt := top 80
abbrev p_rule_of : List Str := ["row"]
abbrev n_rule_of : List Str := ["row"]
theorem sc_rule_of : FnScope n_rule_of p_rule_of (defScope s_rule_of) := ⟨rfl, rfl, rfl, by decide +kernel, rfl, by decide +kernel, by decide +kernel⟩
structure Cs where
  (Series Rule Silence Told Note State SIZES : Addr)
structure Txt (K : PySem.W.Frag) (mg : Str → Option Value) (c : Cs) : Prop where
  v_MISSING : G.Num mg "MISSING" (-2)
  v_WRONG : G.Num mg "WRONG" (-22)
  v_FULL : G.Num mg "FULL" (-28)
  v_ANY : G.Num mg "ANY" (255)
  v_MOST_SERIES : G.Num mg "MOST_SERIES" (64)
  v_MOST_RULES : G.Num mg "MOST_RULES" (32)
  v_MOST_SILENCES : G.Num mg "MOST_SILENCES" (32)
  v_MOST_MEASURED : G.Num mg "MOST_MEASURED" (64)
  v_LAST_KIND : G.Num mg "LAST_KIND" (31)
  v_LAST_GROUP : G.Num mg "LAST_GROUP" (15)
  v_LAST_WHAT : G.Num mg "LAST_WHAT" (5)
  v_LAST_LEVEL : G.Num mg "LAST_LEVEL" (3)
  v_LONGEST_SPAN : G.Num mg "LONGEST_SPAN" (16777216)
  v_LAST_TIME : G.Num mg "LAST_TIME" (1099511627776)
  v_WIDEST_VALUE : G.Num mg "WIDEST_VALUE" (1099511627776)
  v_WIDEST_BOUND : G.Num mg "WIDEST_BOUND" (1125899906842624)
  v_LAST : G.Num mg "LAST" (0)
  v_LEAST : G.Num mg "LEAST" (1)
  v_GREATEST : G.Num mg "GREATEST" (2)
  v_TOTAL : G.Num mg "TOTAL" (3)
  v_HOW_MANY : G.Num mg "HOW_MANY" (4)
  d_value_of : G.Def K mg "value_of" s_value_of p_value_of
  d_first_later : G.Def K mg "first_later" s_first_later p_first_later
  d_is_so : G.Def K mg "is_so" s_is_so p_is_so
  d_is_over : G.Def K mg "is_over" s_is_over p_is_over
  d_note_answer : G.Def K mg "note_answer" s_note_answer p_note_answer
  d_phase_answer : G.Def K mg "phase_answer" s_phase_answer p_phase_answer
  d_value_answer : G.Def K mg "value_answer" s_value_answer p_value_answer
  d_is_there : G.Def K mg "is_there" s_is_there p_is_there
  k_Series : G.Cla K mg "Series" c.Series "Series.__init__" s_Series p_Series
  c_Series : G.ClsN K c.Series a_Series
  k_Rule : G.Cla K mg "Rule" c.Rule "Rule.__init__" s_Rule p_Rule
  c_Rule : G.ClsN K c.Rule a_Rule
  k_Silence : G.Cla K mg "Silence" c.Silence "Silence.__init__" s_Silence p_Silence
  c_Silence : G.ClsN K c.Silence a_Silence
  k_Told : G.Cla K mg "Told" c.Told "Told.__init__" s_Told p_Told
  c_Told : G.ClsN K c.Told a_Told
  k_Note : G.Cla K mg "Note" c.Note "Note.__init__" s_Note p_Note
  c_Note : G.ClsN K c.Note a_Note
  k_State : G.Cla K mg "State" c.State "State.__init__" s_State p_State
  c_State : G.ClsN K c.State a_State
  m_State_start_over : G.Met K c.State "start_over" "State.start_over" s_State_start_over p_State_start_over
  v_BEEN_SO : G.Num mg "BEEN_SO" (1)
  v_FIRES : G.Num mg "FIRES" (2)
  d_known_now : G.Def K mg "known_now" s_known_now p_known_now
  d_known_after : G.Def K mg "known_after" s_known_after p_known_after
  d_known_first : G.Def K mg "known_first" s_known_first p_known_first
  d_notes_now : G.Def K mg "notes_now" s_notes_now p_notes_now
  d_note_of : G.Def K mg "note_of" s_note_of p_note_of
  d_is_ago : G.Def K mg "is_ago" s_is_ago p_is_ago
  d_those_not_in : G.Def K mg "those_not_in" s_those_not_in p_those_not_in
  d_unsilenced_by_group : G.Def K mg "unsilenced_by_group" s_unsilenced_by_group p_unsilenced_by_group
  d_silenced_now : G.Def K mg "silenced_now" s_silenced_now p_silenced_now
  d_is_silenced : G.Def K mg "is_silenced" s_is_silenced p_is_silenced
  d_gravest : G.Def K mg "gravest" s_gravest p_gravest
  d_sample : G.Def K mg "sample" s_sample p_sample
  d_tick : G.Def K mg "tick" s_tick p_tick
  d_begin : G.Def K mg "begin" s_begin p_begin
  d_add_series : G.Def K mg "add_series" s_add_series p_add_series
  d_add_rule : G.Def K mg "add_rule" s_add_rule p_add_rule
  d_add_silence : G.Def K mg "add_silence" s_add_silence p_add_silence
  d_end_silence : G.Def K mg "end_silence" s_end_silence p_end_silence
  d_is_wrong_choice : G.Def K mg "is_wrong_choice" s_is_wrong_choice p_is_wrong_choice
  d_is_wrong_span : G.Def K mg "is_wrong_span" s_is_wrong_span p_is_wrong_span
  d_is_wrong_bound : G.Def K mg "is_wrong_bound" s_is_wrong_bound p_is_wrong_bound
  d_number_of_added : G.Def K mg "number_of_added" s_number_of_added p_number_of_added
  v_BEGIN : G.Num mg "BEGIN" (0)
  v_SERIES : G.Num mg "SERIES" (1)
  v_RULE : G.Num mg "RULE" (2)
  v_SILENCE : G.Num mg "SILENCE" (3)
  v_END : G.Num mg "END" (4)
  v_SAMPLE : G.Num mg "SAMPLE" (5)
  v_NOTE : G.Num mg "NOTE" (7)
  v_PHASE : G.Num mg "PHASE" (8)
  v_VALUE : G.Num mg "VALUE" (9)
  t_SIZES : G.TupI K mg "SIZES" c.SIZES [.int (2), .int (2), .int (8), .int (4), .int (1), .int (2), .int (1), .int (1), .int (2), .int (2)]
  d_answers : G.Def K mg "answers" s_answers p_answers
  d_answer_of : G.Def K mg "answer_of" s_answer_of p_answer_of
  d_number_of : G.Def K mg "number_of" s_number_of p_number_of
  d_rule_of : G.Def K mg "rule_of" s_rule_of p_rule_of
  b_len : mg "len" = none
  b_range : mg "range" = none
  b_abs : mg "abs" = none
  b_min : mg "min" = none
  b_max : mg "max" = none
  b_sum : mg "sum" = none
  b_enumerate : mg "enumerate" = none
theorem pe_fldk {K : PySem.W.Frag} {mg : Str → Option Value} {c : Cs} {X : Cx} {e : Expr} {ta : TE} {f : Str} {pos : Pos} (T : Txt K mg c) (hK : X.K = K) (he : PE X e ta) (hb : attributeBase e f X.env (eval e X.env) = eval e X.env) : PE X (.Attribute e f pos) (tFld K ta f) := by
  subst hK
  exact pe_fld he hb
theorem ix_anyk {K : PySem.W.Frag} {mg : Str → Option Value} {c : Cs} {X : Cx} (T : Txt K mg c) (hK : X.K = K) : IxR X (G.rIxA K) := by
  subst hK
  exact G.ix_any
end My
end
section
set_option Elab.async false
set_option linter.all false
set_option maxRecDepth 100000
set_option maxHeartbeats 2000000
namespace My
open PySem PySem.Spec PyProof.Rows L2
open Kct7 (Abs Pair Phase)
/-! ### tags: what may still be changed -/
inductive Rl where
  | st | ser | rul | sil | tim (i : Nat) | mea (i : Nat) | zob (i : Nat) | tob (g : Nat) | tmp | out
abbrev Tg := Addr → Option Rl
def im (H : Hp) (τ : Tg) : Hp := fun b => match τ b with
  | none => H b
  | some _ => none
def isT : HO → Bool
  | .tup _ => true
  | _ => false
/-- what is tagged is there, and is no tuple -/
def Wf (H : Hp) (τ : Tg) : Prop := ∀ b r, τ b = some r → ∃ o, H b = some o ∧ isT o = false
def setT (τ : Tg) (p : Addr) (r : Rl) : Tg := fun b => if b = p then some r else τ b
theorem setT_same {τ : Tg} {p : Addr} {r : Rl} : setT τ p r p = some r := by unfold setT; rw [if_pos rfl]
theorem setT_ne {τ : Tg} {p b : Addr} {r : Rl} (h : b ≠ p) : setT τ p r b = τ b := by unfold setT; rw [if_neg h]
section
variable {H H' : Hp} {τ τ' : Tg} {b p : Addr} {o : HO} {r : Rl}
theorem im_iff : im H τ b = some o ↔ H b = some o ∧ τ b = none := by
  unfold im
  cases e : τ b with
  | none => exact ⟨fun h => ⟨h, rfl⟩, fun h => h.1⟩
  | some r => exact ⟨fun h => (by cases h), fun h => (by cases h.2)⟩
theorem Wf.none (w : Wf H τ) (h : H b = Option.none) : τ b = Option.none := by
  cases e : τ b with
  | none => rfl
  | some r =>
    obtain ⟨o, q, _⟩ := w b r e
    rw [h] at q; cases q
theorem Wf.tup (w : Wf H τ) {xs : List V} (h : H b = some (.tup xs)) : τ b = Option.none := by
  cases e : τ b with
  | none => rfl
  | some r =>
    obtain ⟨o, q, z⟩ := w b r e
    rw [h] at q; cases q; cases z
theorem Wf.same (w : Wf H τ) (s : Same H H') : Wf H' τ := fun b r e => let ⟨o, q, z⟩ := w b r e; ⟨o, s b o q, z⟩
theorem Wf.upd (w : Wf H τ) (z : isT o = false) : Wf (upd H p o) τ := fun b r e => by
  by_cases hb : b = p
  · subst hb; exact ⟨_, upd_same, z⟩
  · obtain ⟨q, h, z⟩ := w b r e
    exact ⟨q, by rw [upd_ne hb]; exact h, z⟩
theorem Wf.set (w : Wf H τ) (h : H p = some o) (z : isT o = false) : Wf H (setT τ p r) := fun b q e => by
  by_cases hb : b = p
  · subst hb; exact ⟨_, h, z⟩
  · rw [setT_ne hb] at e; exact w b q e
theorem im_at (h : im H τ b = some o) : H b = some o := (im_iff.mp h).1
theorem im_tag (h : im H τ b = some o) : τ b = none := (im_iff.mp h).2
theorem im_new (w : Wf H τ) (h : H p = none) (e : H' p = some o) : im H' τ p = some o := im_iff.mpr ⟨e, w.none h⟩
theorem im_same (s : Same H H') : Same (im H τ) (im H' τ) := fun b o h => im_iff.mpr ⟨s b o (im_at h), im_tag h⟩
/-- all but what bears the tag r stands -/
def Mv (τ : Tg) (r : Rl) (H H' : Hp) : Prop := ∀ b o, H b = some o → τ b ≠ some r → H' b = some o
theorem mv_upd (h : τ p = some r) : Mv τ r H (upd H p o) := fun b q e n => by
  rw [upd_ne (fun z => n (by rw [z]; exact h))]; exact e
theorem Mv.im (m : Mv τ r H H') : Same (im H τ) (My.im H' τ) := fun b o h => im_iff.mpr ⟨m b o (im_at h) (by rw [im_tag h]; exact fun z => nomatch z), im_tag h⟩
theorem Mv.at (m : Mv τ r H H') {q : Rl} (e : H b = some o) (t : τ b = some q) (n : q ≠ r) : H' b = some o := m b o e (by rw [t]; exact fun z => n (Option.some.inj z))
theorem Same.mv (s : Same H H') (τ : Tg) (r : Rl) : Mv τ r H H' := fun b o e _ => s b o e
theorem Mv.trans {H'' : Hp} (a : Mv τ r H H') (b : Mv τ r H' H'') : Mv τ r H H'' := fun c o e n => b c o (a c o e n) n
end
/-- what is fixed stays so; what is somebody else's stays -/
def Fo (H : Hp) (τ : Tg) (H' : Hp) (τ' : Tg) : Prop := Same (im H τ) (im H' τ') ∧ ∀ b y, τ b = some .out → H b = some y → τ' b = some .out ∧ H' b = some y
theorem Fo.refl (H : Hp) (τ : Tg) : Fo H τ H τ := ⟨Same.refl _, fun _ _ t e => ⟨t, e⟩⟩
theorem Fo.trans {H H1 H2 : Hp} {τ τ1 τ2 : Tg} (a : Fo H τ H1 τ1) (b : Fo H1 τ1 H2 τ2) : Fo H τ H2 τ2 := ⟨a.1.trans b.1, fun c y t e => let ⟨t1, e1⟩ := a.2 c y t e; b.2 c y t1 e1⟩
theorem Fo.same {H H' : Hp} {τ : Tg} (s : Same H H') : Fo H τ H' τ := ⟨im_same s, fun b y t e => ⟨t, s b y e⟩⟩
theorem Fo.mv {H H' : Hp} {τ : Tg} {r : Rl} (m : Mv τ r H H') (n : Rl.out ≠ r) : Fo H τ H' τ := ⟨m.im, fun b y t e => ⟨t, m.at e t n⟩⟩
theorem Fo.tags {H H' : Hp} {τ τ' : Tg} (h : ∀ b x, H b = some x → H' b = some x ∧ τ' b = τ b) : Fo H τ H' τ' := ⟨fun b x e => im_iff.mpr ⟨(h b x (im_at e)).1, by rw [(h b x (im_at e)).2]; exact im_tag e⟩, fun b y t e => ⟨by rw [(h b y e).2]; exact t, (h b y e).1⟩⟩
theorem same_new {H : Hp} {p : Addr} {o : HO} (h : H p = none) : Same H (upd H p o) := fun b q e => by
  rw [upd_ne (ne_of_none e h)]; exact e
/-! ### what is fixed -/
def PairAt (I : Hp) (v : V) (p : Pair) : Prop := ∃ q, v = .ref q ∧ I q = some (.tup [.int (p.1 : Nat), .int (p.2 : Nat)])
def PairsAt (I : Hp) (a : Addr) (l : List Pair) : Prop := ∃ vs, I a = some (.lst vs) ∧ Paired (PairAt I) vs l
theorem PairAt.mono {I I' : Hp} {v : V} {p : Pair} (h : PairAt I v p) (s : Same I I') : PairAt I' v p := let ⟨q, e, h⟩ := h; ⟨q, e, s _ _ h⟩
theorem PairsAt.mono {I I' : Hp} {a : Addr} {l : List Pair} (h : PairsAt I a l) (s : Same I I') : PairsAt I' a l := let ⟨vs, e, h⟩ := h; ⟨vs, s _ _ e, L2.Paired.mapP h fun _ _ x => x.mono s⟩
def b2v (b : Bool) : V := .int (Stp.b2n b)
def notF (n : Kct7.Note) (p q : Addr) : List (Str × V) := [("group", .int (n.group : Nat)), ("again", b2v n.again), ("new", .ref p), ("over", .ref q)]
def NoteAt (c : Cs) (I : Hp) (a : Addr) (n : Kct7.Note) : Prop := ∃ dx p q, I a = some (.ins c.Note dx (notF n p q)) ∧ PairsAt I p n.new ∧ PairsAt I q n.gone
theorem NoteAt.mono {c : Cs} {I I' : Hp} {a : Addr} {n : Kct7.Note} (h : NoteAt c I a n) (s : Same I I') : NoteAt c I' a n := let ⟨dx, p, q, e, h1, h2⟩ := h; ⟨dx, p, q, s _ _ e, h1.mono s, h2.mono s⟩
def rulF (r : Kct7.Rule) (u : Nat) : List (Str × V) := [("kind", .int (r.kind : Nat)), ("what", .int (r.what : Nat)), ("above", .int (u : Nat)), ("window", .int (r.window : Nat)), ("bound", .int r.bound), ("over", .int r.over), ("hold", .int (r.hold : Nat)), ("level", .int (r.level : Nat))]
def RulAt (c : Cs) (I : Hp) (a : Addr) (r : Kct7.Rule) : Prop := ∃ dx u, I a = some (.ins c.Rule dx (rulF r u)) ∧ r.above = (u == 1)
theorem RulAt.mono {c : Cs} {I I' : Hp} {a : Addr} {r : Kct7.Rule} (h : RulAt c I a r) (s : Same I I') : RulAt c I' a r := let ⟨dx, u, e, h1⟩ := h; ⟨dx, u, s _ _ e, h1⟩
def key (i k : Nat) : List Key := [.inl (i : Int), .inl (k : Int)]
def PhV (I : Hp) (o : Option V) : Phase → Prop
  | .quiet => o = none
  | .holds a => ∃ t, o = some (.ref t) ∧ I t = some (.tup [.int 1, .int (a : Nat)])
  | .fires a => ∃ t, o = some (.ref t) ∧ I t = some (.tup [.int 2, .int (a : Nat)])
theorem PhV.mono {I I' : Hp} {o : Option V} : ∀ {p : Phase}, PhV I o p → Same I I' → PhV I' o p
  | .quiet, h, _ => h
  | .holds _, ⟨t, e, h⟩, s => ⟨t, e, s _ _ h⟩
  | .fires _, ⟨t, e, h⟩, s => ⟨t, e, s _ _ h⟩
def KnownAt (I : Hp) (a : Addr) (ph : Nat → Nat → Phase) : Prop := ∃ kvs, I a = some (.dT kvs) ∧ ∀ i k, PhV I (valV kvs (key i k)) (ph i k)
theorem KnownAt.mono {I I' : Hp} {a : Addr} {ph : Nat → Nat → Phase} (h : KnownAt I a ph) (s : Same I I') : KnownAt I' a ph := let ⟨kvs, e, h⟩ := h; ⟨kvs, s _ _ e, fun i k => (h i k).mono s⟩
/-! ### what changes -/
def serF (k g : Nat) (t m : Addr) : List (Str × V) := [("kind", .int (k : Nat)), ("group", .int (g : Nat)), ("times", .ref t), ("measured", .ref m)]
def SerAt (c : Cs) (H : Hp) (τ : Tg) (i : Nat) (a : Addr) (x : Kct7.Series) : Prop := ∃ dx t m, im H τ a = some (.ins c.Series dx (serF x.kind x.group t m)) ∧ τ t = some (.tim i) ∧ H t = some (.lst (x.samples.map fun y => V.int (y.time : Nat))) ∧
  τ m = some (.mea i) ∧ H m = some (.lst (x.samples.map fun y => V.int y.value))
def silF (z : Kct7.Silence) (e : Bool) : List (Str × V) := [("rule", .int (z.rule : Nat)), ("group", .int (z.group : Nat)), ("start", .int (z.from_ : Nat)), ("till", .int (z.till : Nat)), ("ended", .bl e)]
def SilAt (c : Cs) (H : Hp) (τ : Tg) (i : Nat) (a : Addr) (o : Option Kct7.Silence) : Prop := ∃ dx z, τ a = some (.zob i) ∧ H a = some (.ins c.Silence dx (silF z o.isNone)) ∧ ∀ y, o = some y → y = z
def lastV : Option Nat → V
  | none => .non
  | some n => .int (n : Nat)
def tldF (p : Addr) (l : Option Nat) : List (Str × V) := [("pairs", .ref p), ("last", lastV l)]
def TldAt (c : Cs) (H : Hp) (τ : Tg) (g : Nat) (a : Addr) (t : Kct7.Told) : Prop := ∃ dx p, τ a = some (.tob g) ∧ H a = some (.ins c.Told dx (tldF p t.last)) ∧ PairsAt (im H τ) p t.pairs
section
variable {c : Cs} {H H' : Hp} {τ : Tg} {i : Nat} {a : Addr} {r : Rl}
theorem SerAt.mv {x : Kct7.Series} (h : SerAt c H τ i a x) (m : Mv τ r H H') (h1 : Rl.tim i ≠ r) (h2 : Rl.mea i ≠ r) : SerAt c H' τ i a x := by
  obtain ⟨dx, t, me, e, e1, e2, e3, e4⟩ := h
  exact ⟨dx, t, me, m.im _ _ e, e1, m.at e2 e1 h1, e3, m.at e4 e3 h2⟩
theorem SilAt.mv {x : Option Kct7.Silence} (h : SilAt c H τ i a x) (m : Mv τ r H H') (h1 : Rl.zob i ≠ r) : SilAt c H' τ i a x := by
  obtain ⟨dx, z, e, e1, e2⟩ := h
  exact ⟨dx, z, e, m.at e1 e h1, e2⟩
theorem TldAt.mv {x : Kct7.Told} (h : TldAt c H τ i a x) (m : Mv τ r H H') (h1 : Rl.tob i ≠ r) : TldAt c H' τ i a x := by
  obtain ⟨dx, p, e, e1, e2⟩ := h
  exact ⟨dx, p, e, m.at e1 e h1, e2.mono m.im⟩
end
structure Ad where
  (dx aS aR aZ aK aT aN : Addr)
  (sa ra za ta na : List Addr)
def stF (w a n : Nat) (d : Ad) : List (Str × V) := [("wait", .int (w : Nat)), ("again", .int (a : Nat)), ("now", .int (n : Nat)), ("series", .ref d.aS), ("rules", .ref d.aR), ("silences", .ref d.aZ), ("known", .ref d.aK), ("told", .ref d.aT), ("notes", .ref d.aN)]
/-- the state's object and all that it holds -/
structure Own (c : Cs) (H : Hp) (st : Addr) (s : Abs) (τ : Tg) (d : Ad) : Prop where
  wf : Wf H τ
  sT : τ st = some .st
  sO : H st = some (.ins c.State d.dx (stF s.wait s.again s.now d))
  eT : τ d.aS = some .ser
  eL : H d.aS = some (.lst (d.sa.map .ref))
  eN : d.sa.length = s.series.length
  eA : ∀ (i : Nat) x a, s.series[i]? = some x → d.sa[i]? = some a → SerAt c H τ i a x
  rT : τ d.aR = some .rul
  rL : H d.aR = some (.lst (d.ra.map .ref))
  rN : d.ra.length = s.rules.length
  rA : ∀ (i : Nat) x a, s.rules[i]? = some x → d.ra[i]? = some a → RulAt c (im H τ) a x
  zT : τ d.aZ = some .sil
  zL : H d.aZ = some (.lst (d.za.map .ref))
  zN : d.za.length = s.silences.length
  zA : ∀ (i : Nat) x a, s.silences[i]? = some x → d.za[i]? = some a → SilAt c H τ i a x
  kA : KnownAt (im H τ) d.aK s.phase
  tL : im H τ d.aT = some (.lst (d.ta.map .ref))
  tN : d.ta.length = 16
  tA : ∀ (g : Nat) a, d.ta[g]? = some a → TldAt c H τ g a (s.told g)
  nL : im H τ d.aN = some (.lst (d.na.map .ref))
  nN : d.na.length = s.notes.length
  nA : ∀ (i : Nat) x a, s.notes[i]? = some x → d.na[i]? = some a → NoteAt c (im H τ) a x
section
variable {c : Cs} {H H' : Hp} {τ τ' : Tg} {st : Addr} {s : Abs} {d : Ad}
/-- nothing that it holds has changed -/
theorem Own.lift (o : Own c H st s τ d) (h : ∀ b x, H b = some x → H' b = some x ∧ τ' b = τ b) (w : Wf H' τ') : Own c H' st s τ' d := by
  have hi : Same (im H τ) (im H' τ') := fun b x e => im_iff.mpr ⟨(h b x (im_at e)).1, by rw [(h b x (im_at e)).2]; exact im_tag e⟩
  have ht : ∀ b x r, H b = some x → τ b = some r → τ' b = some r := fun b x r e t => by rw [(h b x e).2]; exact t
  refine ⟨w, ht _ _ _ o.sO o.sT, (h _ _ o.sO).1, ht _ _ _ o.eL o.eT, (h _ _ o.eL).1, o.eN, fun i x a e1 e2 => ?_, ht _ _ _ o.rL o.rT, (h _ _ o.rL).1, o.rN, fun i x a e1 e2 => (o.rA i x a e1 e2).mono hi,
    ht _ _ _ o.zL o.zT, (h _ _ o.zL).1, o.zN, fun i x a e1 e2 => ?_, o.kA.mono hi, hi _ _ o.tL, o.tN, fun g a e1 => ?_, hi _ _ o.nL, o.nN, fun i x a e1 e2 => (o.nA i x a e1 e2).mono hi⟩
  · obtain ⟨dx, t, me, e, q1, q2, q3, q4⟩ := o.eA i x a e1 e2
    exact ⟨dx, t, me, hi _ _ e, ht _ _ _ q2 q1, (h _ _ q2).1, ht _ _ _ q4 q3, (h _ _ q4).1⟩
  · obtain ⟨dx, z, e, q1, q2⟩ := o.zA i x a e1 e2
    exact ⟨dx, z, ht _ _ _ q1 e, (h _ _ q1).1, q2⟩
  · obtain ⟨dx, p, e, q1, q2⟩ := o.tA g a e1
    exact ⟨dx, p, ht _ _ _ q1 e, (h _ _ q1).1, q2.mono hi⟩
theorem Own.same (o : Own c H st s τ d) (h : Same H H') : Own c H' st s τ d := o.lift (fun b x e => ⟨h b x e, rfl⟩) (o.wf.same h)
/-- what bears the tag tmp is no part of it -/
theorem Own.mvTmp (o : Own c H st s τ d) (m : Mv τ .tmp H H') (w : Wf H' τ) : Own c H' st s τ d :=
  ⟨w, o.sT, m.at o.sO o.sT (fun z => nomatch z), o.eT, m.at o.eL o.eT (fun z => nomatch z), o.eN, fun i x b e1 e2 => (o.eA i x b e1 e2).mv m (fun z => nomatch z) (fun z => nomatch z), o.rT, m.at o.rL o.rT (fun z => nomatch z), o.rN, fun i x b e1 e2 => (o.rA i x b e1 e2).mono m.im,
    o.zT, m.at o.zL o.zT (fun z => nomatch z), o.zN, fun i x b e1 e2 => (o.zA i x b e1 e2).mv m (fun z => nomatch z), o.kA.mono m.im, m.im _ _ o.tL, o.tN, fun i b e1 => (o.tA i b e1).mv m (fun z => nomatch z), m.im _ _ o.nL, o.nN, fun i x b e1 e2 => (o.nA i x b e1 e2).mono m.im⟩
theorem im_untag {p : Addr} : Same (im H (setT τ p .tmp)) (im H τ) := fun b x e => by
  have t := im_tag e
  by_cases hb : b = p
  · subst hb
    rw [setT_same] at t; cases t
  · rw [setT_ne hb] at t
    exact im_iff.mpr ⟨im_at e, t⟩
theorem Own.untag {p : Addr} (o : Own c H st s (setT τ p .tmp) d) (w : Wf H τ) : Own c H st s τ d := by
  have u : ∀ b r, setT τ p .tmp b = some r → r ≠ .tmp → τ b = some r := fun b r e n => by
    by_cases hb : b = p
    · subst hb
      rw [setT_same] at e
      exact absurd (Option.some.inj e).symm n
    · rw [setT_ne hb] at e; exact e
  refine ⟨w, u _ _ o.sT (fun z => nomatch z), o.sO, u _ _ o.eT (fun z => nomatch z), o.eL, o.eN, fun i x b e1 e2 => ?_, u _ _ o.rT (fun z => nomatch z), o.rL, o.rN, fun i x b e1 e2 => (o.rA i x b e1 e2).mono im_untag, u _ _ o.zT (fun z => nomatch z), o.zL, o.zN, fun i x b e1 e2 => ?_, o.kA.mono im_untag, im_untag _ _ o.tL, o.tN, fun i b e1 => ?_,
    im_untag _ _ o.nL, o.nN, fun i x b e1 e2 => (o.nA i x b e1 e2).mono im_untag⟩
  · obtain ⟨dx, t, me, e, q1, q2, q3, q4⟩ := o.eA i x b e1 e2
    exact ⟨dx, t, me, im_untag _ _ e, u _ _ q1 (fun z => nomatch z), q2, u _ _ q3 (fun z => nomatch z), q4⟩
  · obtain ⟨dx, z, e, q1, q2⟩ := o.zA i x b e1 e2
    exact ⟨dx, z, u _ _ e (fun z => nomatch z), q1, q2⟩
  · obtain ⟨dx, q, e, q1, q2⟩ := o.tA i b e1
    exact ⟨dx, q, u _ _ e (fun z => nomatch z), q1, q2.mono im_untag⟩
theorem ref_at {l : List Addr} {k : Nat} {v : V} (h : (l.map V.ref)[k]? = some v) : ∃ a, v = .ref a ∧ l[k]? = some a := by
  rw [List.getElem?_map] at h
  obtain ⟨a, e, rfl⟩ := Option.map_eq_some_iff.mp h
  exact ⟨a, rfl, e⟩
theorem at_ref {l : List Addr} {k : Nat} {a : Addr} (h : l[k]? = some a) : (l.map V.ref)[k]? = some (.ref a) := by rw [List.getElem?_map, h]; rfl
theorem two_at {α : Type} {l : List Addr} {m : List α} (e : l.length = m.length) {k : Nat} {a : Addr} (h : l[k]? = some a) : ∃ x, m[k]? = some x := ⟨m[k]'(by have := (List.getElem?_eq_some_iff.mp h).1; omega), List.getElem?_eq_getElem _⟩
theorem two_of {α : Type} {l : List Addr} {m : List α} (e : l.length = m.length) {k : Nat} {x : α} (h : m[k]? = some x) : ∃ a, l[k]? = some a := ⟨l[k]'(by have := (List.getElem?_eq_some_iff.mp h).1; omega), List.getElem?_eq_getElem _⟩
theorem Own.ser (o : Own c H st s τ d) {k : Nat} {v : V} (h : (d.sa.map V.ref)[k]? = some v) : ∃ a x, v = .ref a ∧ d.sa[k]? = some a ∧ s.series[k]? = some x ∧ SerAt c H τ k a x := by
  obtain ⟨a, e, ha⟩ := ref_at h
  obtain ⟨x, hx⟩ := two_at o.eN ha
  exact ⟨a, x, e, ha, hx, o.eA k x a hx ha⟩
theorem Own.rul (o : Own c H st s τ d) {k : Nat} {v : V} (h : (d.ra.map V.ref)[k]? = some v) : ∃ a x, v = .ref a ∧ d.ra[k]? = some a ∧ s.rules[k]? = some x ∧ RulAt c (im H τ) a x := by
  obtain ⟨a, e, ha⟩ := ref_at h
  obtain ⟨x, hx⟩ := two_at o.rN ha
  exact ⟨a, x, e, ha, hx, o.rA k x a hx ha⟩
theorem Own.sil (o : Own c H st s τ d) {k : Nat} {v : V} (h : (d.za.map V.ref)[k]? = some v) : ∃ a x, v = .ref a ∧ d.za[k]? = some a ∧ s.silences[k]? = some x ∧ SilAt c H τ k a x := by
  obtain ⟨a, e, ha⟩ := ref_at h
  obtain ⟨x, hx⟩ := two_at o.zN ha
  exact ⟨a, x, e, ha, hx, o.zA k x a hx ha⟩
/-- a result of next phases: None, or a tuple -/
def phT : Phase → List V
  | .quiet => []
  | .holds a => [.int 1, .int (a : Nat)]
  | .fires a => [.int 2, .int (a : Nat)]
def PhW (I : Hp) (v : V) (p : Phase) : Prop := (p = .quiet ∧ v = .non) ∨ (p ≠ .quiet ∧ ∃ t, v = .ref t ∧ I t = some (.tup (phT p)))
theorem PhV.w {I : Hp} {o : Option V} : ∀ {p : Phase}, PhV I o p → PhW I (o.getD .non) p
  | .quiet, h => .inl ⟨rfl, by rw [show o = none from h]; rfl⟩
  | .holds _, ⟨t, e, h⟩ => .inr ⟨(fun z => nomatch z), t, by rw [e]; rfl, h⟩
  | .fires _, ⟨t, e, h⟩ => .inr ⟨(fun z => nomatch z), t, by rw [e]; rfl, h⟩
theorem PhW.mono {I I' : Hp} {v : V} {p : Phase} (h : PhW I v p) (s : Same I I') : PhW I' v p := by
  rcases h with h | ⟨h1, t, e, h2⟩
  · exact .inl h
  · exact .inr ⟨h1, t, e, s _ _ h2⟩
/-- what is known, in its order -/
def KList (I : Hp) (P : Nat → Nat → Phase) (kvs : List (List Key × V)) (ps : List Pair) : Prop := Paired (fun kv p => kv.1 = key p.1 p.2 ∧ ∃ t, kv.2 = .ref t ∧ I t = some (.tup (phT (P p.1 p.2)))) kvs ps
theorem KList.mono {I I' : Hp} {P : Nat → Nat → Phase} {kvs : List (List Key × V)} {ps : List Pair} (h : KList I P kvs ps) (s : Same I I') : KList I' P kvs ps := L2.Paired.mapP h fun _ _ ⟨e, t, e1, e2⟩ => ⟨e, t, e1, s _ _ e2⟩
theorem key_inj {i k j l : Nat} (h : key i k = key j l) : i = j ∧ k = l := by
  unfold key at h
  have h1 := Sum.inl.inj (List.cons.inj h).1
  have h2 := Sum.inl.inj (List.cons.inj (List.cons.inj h).2).1
  exact ⟨by omega, by omega⟩
theorem KList.val {I : Hp} {P : Nat → Nat → Phase} {kvs : List (List Key × V)} {ps : List Pair} (h : KList I P kvs ps) (i k : Nat) :
    ((i, k) ∈ ps → ∃ t, valV kvs (key i k) = some (.ref t) ∧ I t = some (.tup (phT (P i k)))) ∧ ((i, k) ∉ ps → valV kvs (key i k) = none) := by
  unfold KList at h
  induction h with
  | nil => exact ⟨fun z => by (cases z), fun _ => rfl⟩
  | @cons kv p kvs ps r t ih =>
    obtain ⟨e, q, e1, e2⟩ := r
    by_cases hp : p = (i, k)
    · subst hp
      refine ⟨fun _ => ⟨q, ?_, e2⟩, fun z => absurd List.mem_cons_self z⟩
      rw [valV_pos e, e1]
    · have hn : ¬ kv.1 = key i k := fun z => hp (by
        obtain ⟨z1, z2⟩ := key_inj (e.symm.trans z)
        exact Prod.ext z1 z2)
      rw [valV_neg hn]
      exact ⟨fun z => ih.1 (by rcases List.mem_cons.mp z with z | z; exact absurd z.symm hp; exact z), fun z => ih.2 fun y => z (List.mem_cons_of_mem _ y)⟩
theorem paired_snoc {α β : Type} {F : α → β → Prop} {a : α} {b : β} (h : F a b) : ∀ {l : List α} {m : List β}, Paired F l m → Paired F (l ++ [a]) (m ++ [b])
  | _, _, .nil => .cons h .nil
  | _, _, .cons r t => .cons r (paired_snoc h t)
theorem KList.known {I : Hp} {P : Nat → Nat → Phase} {kvs : List (List Key × V)} {m n : Nat} (h : KList I P kvs (Mth.inAll P m n)) (ho : ∀ i k, m ≤ i ∨ n ≤ k → P i k = .quiet) (i k : Nat) : PhV I (valV kvs (key i k)) (P i k) := by
  obtain ⟨h1, h2⟩ := h.val i k
  by_cases hq : P i k = .quiet
  · rw [hq]
    exact h2 fun z => (Mth.mem_inAll.mp z).2.2 hq
  · have hin : (i, k) ∈ Mth.inAll P m n := Mth.mem_inAll.mpr ⟨Nat.lt_of_not_le fun z => hq (ho i k (.inl z)), Nat.lt_of_not_le fun z => hq (ho i k (.inr z)), hq⟩
    obtain ⟨t, e1, e2⟩ := h1 hin
    cases q : P i k with
    | quiet => exact absurd q hq
    | holds a => rw [q] at e2; exact ⟨t, e1, e2⟩
    | fires a => rw [q] at e2; exact ⟨t, e1, e2⟩
end
end My
end
section
set_option Elab.async false
set_option linter.all false
set_option maxRecDepth 100000
set_option maxHeartbeats 2000000
namespace My
open PySem PySem.Spec PyProof.Rows L2
/-! ### the term of a body, found by its form -/
local macro_rules | `(tactic| wtm_at "room") => `(tactic| exact Room.mono (by assumption) (by decide))
local macro_rules | `(tactic| wtm_at "nd") => `(tactic| exact FnScope.nd (by assumption))
local macro_rules | `(tactic| wtm_at "PA") => `(tactic| first
  | ((with_reducible show PA _ [] _); exact pa_nil)
  | ((with_reducible show PA _ (_ :: _) _); exact pa_cons (by wtm_at "PE") (by wtm_at "PA")))
local macro_rules | `(tactic| wtm_at "PE") => `(tactic| first
  | ((with_reducible show PE _ (.Constant (.int _) _ _) _); exact pe_int)
  | ((with_reducible show PE _ (.Constant (.bool _) _ _) _); exact pe_bl)
  | ((with_reducible show PE _ (.Constant .none _ _) _); exact pe_non)
  | ((with_reducible show PE _ (.Name _ _) _); first | exact G.pvx (by rfl) | exact G.pe_num (by assumption) rfl | exact G.pe_top (by assumption) rfl)
  | ((with_reducible show PE _ (.Attribute _ _ _) _); exact pe_fldk (by assumption) (by rfl) (by wtm_at "PE") rfl)
  | ((with_reducible show PE _ (.BinOp _ .Add _ _) _); exact pe_op op_add (by wtm_at "PE") (by wtm_at "PE"))
  | ((with_reducible show PE _ (.BinOp _ .Sub _ _) _); exact pe_op op_sub (by wtm_at "PE") (by wtm_at "PE"))
  | ((with_reducible show PE _ (.BinOp _ .FloorDiv _ _) _); exact pe_op op_fdiv (by wtm_at "PE") (by wtm_at "PE"))
  | ((with_reducible show PE _ (.UnaryOp .USub _ _) _); exact pe_un un_neg (by wtm_at "PE"))
  | ((with_reducible show PE _ (.Compare _ [.Is] [.Constant .none _ _] _) _); exact pe_cmp (pc_isN (by wtm_at "PE")))
  | ((with_reducible show PE _ (.Compare _ [.IsNot] [.Constant .none _ _] _) _); exact pe_cmp (pc_notN (by wtm_at "PE")))
  | ((with_reducible show PE _ (.Compare _ [.In] [_] _) _); exact pe_cmp (pc_din (by wtm_at "hu") (by wtm_at "PE") (by wtm_at "PE")))
  | ((with_reducible show PE _ (.Compare _ [.NotIn] [_] _) _); exact pe_cmp (pc_dnotin (by wtm_at "hu") (by wtm_at "PE") (by wtm_at "PE")))
  | ((with_reducible show PE _ (.IfExp _ _ _ _) _); exact pe_ifExp (by wtm_at "PT") (by wtm_at "PE") (by wtm_at "PE"))
  | ((with_reducible show PE _ (.Tuple _ _ _) _); exact pe_tup (by wtm_at "PA"))
  | ((with_reducible show PE _ (.Dict [] [] _) _); exact pe_dnewT)
  | ((with_reducible show PE _ (.ListComp _ _ _ _) _); wtm_at "LC")
  | ((with_reducible show PE _ (.Compare _ [.Eq] _ _) _); exact pe_cmpR op_eq (by wtm_at "PE") (by wtm_at "PE") (nomark _))
  | ((with_reducible show PE _ (.Compare _ [.NotEq] _ _) _); exact pe_cmpR op_ne (by wtm_at "PE") (by wtm_at "PE") (nomark _))
  | ((with_reducible show PE _ (.Compare _ [.Lt] _ _) _); exact pe_cmpR op_lt (by wtm_at "PE") (by wtm_at "PE") (nomark _))
  | ((with_reducible show PE _ (.Compare _ [.LtE] _ _) _); exact pe_cmpR op_le (by wtm_at "PE") (by wtm_at "PE") (nomark _))
  | ((with_reducible show PE _ (.Compare _ [.Gt] _ _) _); exact pe_cmpR op_gt (by wtm_at "PE") (by wtm_at "PE") (nomark _))
  | ((with_reducible show PE _ (.Compare _ [.GtE] _ _) _); exact pe_cmpR op_ge (by wtm_at "PE") (by wtm_at "PE") (nomark _))
  | ((with_reducible show PE _ (.BoolOp .Or (_ :: _ :: _) _) _); exact pe_or (by wtm_at "PE") (by wtm_at "PE"))
  | ((with_reducible show PE _ (.BoolOp .And (_ :: _ :: _) _) _); exact pe_and (by wtm_at "PE") (by wtm_at "PE"))
  | ((with_reducible show PE _ (.BoolOp _ [_] _) _); exact pe_one (by wtm_at "PE"))
  | ((with_reducible show PE _ (.UnaryOp .Not _ _) _); exact pe_not (by wtm_at "PE"))
  | ((with_reducible show PE _ (.Subscript _ (.Slice (some _) (some _) _ _) _) _); exact pe_slice sl_list (by wtm_at "PE") (po_some (by wtm_at "PE")) (po_some (by wtm_at "PE")))
  | ((with_reducible show PE _ (.Subscript _ (.Slice (some _) none _ _) _) _); exact pe_slice sl_list (by wtm_at "PE") (po_some (by wtm_at "PE")) po_none)
  | ((with_reducible show PE _ (.Subscript _ _ _) _); exact pe_ix (ix_anyk (by assumption) (by rfl)) (by wtm_at "PE") (by wtm_at "PE") (fun _ _ => rfl))
  | ((with_reducible show PE _ (.Call (.Name (Str.ofString "len") _) _ _ _) _); exact pe_callB call_len_seq rfl (by assumption) PySem.boot_len (by wtm_at "PA"))
  | ((with_reducible show PE _ (.Call (.Name (Str.ofString "abs") _) _ _ _) _); exact pe_callB call_abs rfl (by assumption) boot_abs (by wtm_at "PA"))
  | ((with_reducible show PE _ (.Call (.Name (Str.ofString "min") _) _ [] _) _); exact pe_callB (cr_min rfl) rfl (by assumption) boot_min (by wtm_at "PA"))
  | ((with_reducible show PE _ (.Call (.Name (Str.ofString "max") _) _ [] _) _); exact pe_callB (cr_max rfl) rfl (by assumption) boot_max (by wtm_at "PA"))
  | ((with_reducible show PE _ (.Call (.Name (Str.ofString "max") _) _ [_] _) _); exact Ext.pe_maxD rfl rfl (by assumption) (by wtm_at "PA"))
  | ((with_reducible show PE _ (.Call (.Name (Str.ofString "sum") _) _ [] _) _); exact pe_callB (cr_sum rfl) rfl (by assumption) boot_sum (by wtm_at "PA"))
  | ((with_reducible show PE _ (.Call (.Name _ _) (_ :: _) [] _) _); exact G.pe_fd (by assumption) (by wtm_at "room") rfl (by wtm_at "PA"))
  | ((with_reducible show PE _ (.Call (.Name _ _) [] [] _) _); exact G.pe_fd0 (by assumption) (by wtm_at "room") rfl)
  | ((with_reducible show PE _ (.Call (.Name _ _) (_ :: _) [] _) _); exact G.pe_md (by assumption) (by wtm_at "room") rfl (by wtm_at "PA"))
  | ((with_reducible show PE _ (.Call (.Name _ _) [] [] _) _); exact G.pe_md0 (by assumption) (by wtm_at "room") rfl)
  | ((with_reducible show PE _ (.Call (.Attribute _ (Str.ofString "append") _) _ _ _) _); exact pe_bm PySem.F.plainAttrs_list PySem.F.slot_list_append PySem.F.type_list_append mt_append (by wtm_at "PE") (by wtm_at "PA"))
  | ((with_reducible show PE _ (.Call (.Attribute _ (Str.ofString "extend") _) [.Name (Str.ofString "pair") _] _ _) _); exact pe_bm PySem.F.plainAttrs_list PySem.F.slot_list_extend PySem.F.type_list_extend Ext.mt_extT (by wtm_at "PE") (by wtm_at "PA"))
  | ((with_reducible show PE _ (.Call (.Attribute _ (Str.ofString "extend") _) _ _ _) _); exact pe_bm PySem.F.plainAttrs_list PySem.F.slot_list_extend PySem.F.type_list_extend mt_extend (by wtm_at "PE") (by wtm_at "PA"))
  | ((with_reducible show PE _ (.Call (.Attribute _ (Str.ofString "pop") _) _ _ _) _); exact pe_bm PySem.F.plainAttrs_list PySem.F.slot_list_pop PySem.F.type_list_pop mt_popAt (by wtm_at "PE") (by wtm_at "PA"))
  | ((with_reducible show PE _ (.Call (.Attribute _ (Str.ofString "get") _) _ _ _) _); exact pe_dget1 (by wtm_at "hu") (by wtm_at "PE") (by wtm_at "PE") ⟨rfl, rfl, rfl, rfl⟩)
  | ((with_reducible show PE _ (.Call (.Attribute _ _ _) (_ :: _) [] _) _); exact G.pe_mt (by wtm_at "PE") (by assumption) (by assumption) (by wtm_at "room") (by wtm_at "PA"))
  | ((with_reducible show PE _ (.List _ _) _); exact pe_lst (by wtm_at "PA")))
local macro_rules | `(tactic| wtm_at "LOC") => `(tactic| first | exact Or.inl rfl | exact Or.inr rfl)
local macro_rules | `(tactic| wtm_at "hu") => `(tactic| first | assumption | exact hu_of (by assumption))
local macro_rules | `(tactic| wtm_at "LC") => `(tactic| first
  | exact pe_lc (own := [("pair", 3)]) rfl (by wtm_at "nd") (by wtm_at "PI") (blkOk_by (by rfl)) (fun _ _ _ _ _ => by wtm_at "PGc") (fun _ _ _ _ _ => by wtm_at "PTs") (fun _ _ _ _ _ => by wtm_at "PE")
  | exact pe_lc (own := [("group", 3)]) rfl (by wtm_at "nd") (by wtm_at "PI") (blkOk_by (by rfl)) (fun _ _ _ _ _ => by wtm_at "PGc") (fun _ _ _ _ _ => by wtm_at "PTs") (fun _ _ _ _ _ => by wtm_at "PE")
  | exact pe_lc (own := [("told", 6)]) rfl (by wtm_at "nd") (by wtm_at "PI") (blkOk_by (by rfl)) (fun _ _ _ _ _ => by wtm_at "PGc") (fun _ _ _ _ _ => by wtm_at "PTs") (fun _ _ _ _ _ => by wtm_at "PE"))
local macro_rules | `(tactic| wtm_at "PTs") => `(tactic| first
  | ((with_reducible show PTs _ [] _); exact pts_nil)
  | ((with_reducible show PTs _ [_] _); exact pts_one (by wtm_at "PT")))
local macro_rules | `(tactic| wtm_at "PGc") => `(tactic| ((with_reducible show PG _ (.Name _ _) _); exact G.pgx (by wtm_at "nd") (by rfl) (Or.inl rfl) (Or.inr rfl)))
local macro_rules | `(tactic| wtm_at "PT") => `(tactic| first
  | ((with_reducible show PT _ (.Compare _ [.Is] [.Constant .none _ _] _) _); exact pt_cmp (pc_isN (by wtm_at "PE")))
  | ((with_reducible show PT _ (.Compare _ [.IsNot] [.Constant .none _ _] _) _); exact pt_cmp (pc_notN (by wtm_at "PE")))
  | ((with_reducible show PT _ (.Compare _ [.In] [_] _) _); exact pt_cmp (pc_din (by wtm_at "hu") (by wtm_at "PE") (by wtm_at "PE")))
  | ((with_reducible show PT _ (.Compare _ [.NotIn] [_] _) _); exact pt_cmp (pc_dnotin (by wtm_at "hu") (by wtm_at "PE") (by wtm_at "PE")))
  | ((with_reducible show PT _ (.Compare _ [.Eq] _ _) _); exact pt_cmpR op_eq (by wtm_at "PE") (by wtm_at "PE") (nomark _))
  | ((with_reducible show PT _ (.Compare (.Name (Str.ofString "seen") _) [.NotEq] _ _) _); exact pt_cmpR (op_neD (Room.units (by assumption))) (by wtm_at "PE") (by wtm_at "PE") (nomark _))
  | ((with_reducible show PT _ (.Compare _ [.NotEq] _ _) _); exact pt_cmpR op_ne (by wtm_at "PE") (by wtm_at "PE") (nomark _))
  | ((with_reducible show PT _ (.Compare _ [.Lt] _ _) _); exact pt_cmpR op_lt (by wtm_at "PE") (by wtm_at "PE") (nomark _))
  | ((with_reducible show PT _ (.Compare _ [.LtE] _ _) _); exact pt_cmpR op_le (by wtm_at "PE") (by wtm_at "PE") (nomark _))
  | ((with_reducible show PT _ (.Compare _ [.Gt] _ _) _); exact pt_cmpR op_gt (by wtm_at "PE") (by wtm_at "PE") (nomark _))
  | ((with_reducible show PT _ (.Compare _ [.GtE] _ _) _); exact pt_cmpR op_ge (by wtm_at "PE") (by wtm_at "PE") (nomark _))
  | ((with_reducible show PT _ (.BoolOp _ _ _) _); exact PW.pt (by wtm_at "PW"))
  | ((with_reducible show PT _ (.UnaryOp .Not _ _) _); exact pt_not (by wtm_at "PT"))
  | exact pt_val (by wtm_at "PE"))
local macro_rules | `(tactic| wtm_at "PW") => `(tactic| first
  | ((with_reducible show PW _ (.BoolOp .Or (_ :: _ :: _) _) _); exact pw_or (by wtm_at "PT") (by wtm_at "PW"))
  | ((with_reducible show PW _ (.BoolOp .And (_ :: _ :: _) _) _); exact pw_and (by wtm_at "PT") (by wtm_at "PW"))
  | ((with_reducible show PW _ (.BoolOp .Or [_] _) _); exact pw_or1 (by wtm_at "PT"))
  | ((with_reducible show PW _ (.BoolOp .And [_] _) _); exact pw_and1 (by wtm_at "PT")))
local macro_rules | `(tactic| wtm_at "PG") => `(tactic| first
  | ((with_reducible show PG _ (.Name _ _) _); exact G.pgx (by wtm_at "nd") (by rfl) (by wtm_at "LOC"))
  | ((with_reducible show PG _ (.Tuple [_, _] _ _) _); exact pg_tup rfl (pgs_cons (by wtm_at "PG") (pgs_cons (by wtm_at "PG") pgs_nil))))
local macro_rules | `(tactic| wtm_at "PI") => `(tactic| first
  | ((with_reducible show PI _ _ (.Call (.Name (Str.ofString "range") _) [_] _ _) _); exact pi_range1 rfl (by assumption) (by wtm_at "PA"))
  | ((with_reducible show PI _ _ (.Call (.Name (Str.ofString "range") _) [_, _] _ _) _); exact pi_range2 rfl (by assumption) (by wtm_at "PA"))
  | ((with_reducible show PI _ _ (.Call (.Name (Str.ofString "enumerate") _) [_] _ _) _); exact pi_enum rfl (by assumption) (by wtm_at "PA"))
  | ((with_reducible show PI _ _ (.Call (.Attribute _ (Str.ofString "items") _) [] [] _) _); exact Ext.pi_itemsT (by wtm_at "PE"))
  | ((with_reducible show PI _ _ (.BinOp _ .Add _ _) _); exact pi_list (pe_op op_cat (by wtm_at "PE") (by wtm_at "PE")))
  | exact pi_list (by wtm_at "PE"))
local macro_rules | `(tactic| wtm_at "PS") => `(tactic| first
  | ((with_reducible show PS _ (.Return (some _) _) _); exact ps_ret (by wtm_at "PE"))
  | ((with_reducible show PS _ (.Return none _) _); exact ps_retN)
  | ((with_reducible show PS _ (.If _ _ _ _) _); exact ps_if (by wtm_at "PT") (by wtm_at "PSS") (by wtm_at "PSS"))
  | ((with_reducible show PS _ (.Assign [.Attribute _ _ _] _ _) _); exact ps_fld (by wtm_at "PE") (by wtm_at "PE") rfl)
  | ((with_reducible show PS _ (.Assign [.Subscript _ _ _] _ _) _); exact ps_dput (by wtm_at "hu") (by wtm_at "PE") (by wtm_at "PE") (by wtm_at "PE") rfl)
  | ((with_reducible show PS _ (.Assign [.Name _ _] (.ListComp _ _ _ _) _) _); exact ps_setLc (i := _) (own := [("told", 6)]) rfl (by wtm_at "nd") (G.fix_at (by rfl)) rfl (sw_true rfl rfl rfl rfl) (by wtm_at "PI") (blkOk_by (by rfl)) (fun _ _ _ _ _ => by wtm_at "PGc") (fun _ _ _ _ _ => by wtm_at "PTs") (fun _ _ _ _ _ => by wtm_at "PE"))
  | ((with_reducible show PS _ (.Assign [.Name _ _] _ _) _); exact G.psx (by wtm_at "nd") (by rfl) (by wtm_at "LOC") (by wtm_at "PE"))
  | ((with_reducible show PS _ (.For _ (.Call (.Attribute _ (Str.ofString "items") _) [] [] _) _ _ _) _); exact ps_lock (ps_for PassesOwn.never rfl (by wtm_at "PI") (by wtm_at "PG") (by wtm_at "PSS")))
  | ((with_reducible show PS _ (.For _ _ _ _ _) _); exact ps_for PassesOwn.never rfl (by wtm_at "PI") (by wtm_at "PG") (by wtm_at "PSS"))
  | ((with_reducible show PS _ (.While _ _ _ _) _); exact ps_while PassesOwn.never (by wtm_at "PT") (by wtm_at "PSS"))
  | exact ps_break
  | exact ps_continue
  | exact ps_pass
  | ((with_reducible show PS _ (.Expr _ _) _); exact ps_expr (by wtm_at "PE")))
local macro_rules | `(tactic| wtm_at "PSS") => `(tactic| first
  | ((with_reducible show PSs _ [] _); exact pss_nil)
  | ((with_reducible show PSs _ [_] _); exact pss_one (by wtm_at "PS"))
  | ((with_reducible show PSs _ (_ :: _ :: _) _); exact pss_cons (by wtm_at "PS") (by wtm_at "PSS")))
local macro_rules | `(tactic| wtm_at "BODY") => `(tactic| (show PSs _ (_ :: _) _; wtm_at "PSS"))
/-! ### the reading of a term, as far as it only looks -/
local macro_rules | `(tactic| wtm_at "HP") => `(tactic| first | assumption | exact upd_same)
local macro_rules | `(tactic| wtm_at "SQ") => `(tactic| first | assumption | exact SqL.of (by wtm_at "HP"))
local macro_rules | `(tactic| wtm_at "EV") => `(tactic| first
  | ((with_reducible show G.Ev (tC _) _ _ _); exact G.ev_c)
  | ((with_reducible show G.Ev (tVar _) _ _ _); exact G.ev_var (by rfl))
  | ((with_reducible show G.Ev (tOp (rI0 _) _ _) _ _ _); exact G.ev_i0 (by wtm_at "EV") (by wtm_at "EV"))
  | ((with_reducible show G.Ev (tOp rEq _ _) _ _ _); exact G.ev_eqI (by wtm_at "EV") (by wtm_at "EV"))
  | ((with_reducible show G.Ev (tOp rNe _ _) _ _ _); exact G.ev_neI (by wtm_at "EV") (by wtm_at "EV"))
  | ((with_reducible show G.Ev (tOp (rI CDiv _) _ _) _ _ _); exact G.ev_fdiv (by wtm_at "EV") (by wtm_at "EV") ⟨by decide, by decide⟩)
  | ((with_reducible show G.Ev (tUn (rU _) _) _ _ _); exact G.ev_u (by wtm_at "EV"))
  | ((with_reducible show G.Ev (tIsN _) _ _ _); exact G.ev_isN (by wtm_at "EV"))
  | ((with_reducible show G.Ev (tNotN _) _ _ _); exact G.ev_notN (by wtm_at "EV"))
  | ((with_reducible show G.Ev (tFld _ _ _) _ _ _); exact G.ev_fld (by wtm_at "EV") (by wtm_at "HP") (by assumption) (by rfl) (by rfl))
  | ((with_reducible show G.Ev (tOrV _ _) _ _ _); exact G.ev_orV (by wtm_at "EV") (fun _ => by wtm_at "EV"))
  | ((with_reducible show G.Ev (tAndV _ _) _ _ _); exact G.ev_andV (by wtm_at "EV") (fun _ => by wtm_at "EV"))
  | ((with_reducible show G.Ev (tNotV _) _ _ _); exact G.ev_notV (by wtm_at "EV"))
  | ((with_reducible show G.Ev (tCB _ _) _ _ _); exact G.ev_lenL (by wtm_at "EVA") (by wtm_at "SQ"))
  | ((with_reducible show G.Ev (tCB _ _) _ _ _); exact G.ev_abs (by wtm_at "EVA"))
  | ((with_reducible show G.Ev (tCall _ _ _ _) _ _ _); exact G.ev_call (by wtm_at "EVA") (by wtm_at "SPEC")))
local macro_rules | `(tactic| wtm_at "EVA") => `(tactic| first
  | ((with_reducible show G.EvA tNil _ _ _); exact G.eva_nil)
  | ((with_reducible show G.EvA (tCons _ _) _ _ _); exact G.eva_cons (by wtm_at "EV") (by wtm_at "EVA")))
local macro_rules | `(tactic| wtm_at "EVT") => `(tactic| first
  | ((with_reducible show G.EvT (tTest _) _ _ _); exact G.evt_test (by wtm_at "EV"))
  | ((with_reducible show G.EvT (tB _) _ _ _); exact G.evt_tB (by wtm_at "EV"))
  | ((with_reducible show G.EvT (tOr _ _) _ _ _); exact G.evt_or (by wtm_at "EVT") (fun _ => by wtm_at "EVT"))
  | ((with_reducible show G.EvT (tAnd _ _) _ _ _); exact G.evt_and (by wtm_at "EVT") (fun _ => by wtm_at "EVT"))
  | ((with_reducible show G.EvT (tNot _) _ _ _); exact G.evt_not (by wtm_at "EVT")))
local macro_rules | `(tactic| wtm_at "GO") => `(tactic| first
  | (with_reducible refine G.s_seq ?_)
  | ((with_reducible refine G.s_next ?_); dsimp only)
  | ((with_reducible show tIfS _ _ _ _ _ _); refine G.s_if (by wtm_at "EVT") ?_ ?_)
  | ((with_reducible show tRet _ _ _ _); refine G.s_ret (G.use (by wtm_at "EV") ?_))
  | ((with_reducible show tAsg _ (gName _) _ _ _); refine G.s_set (by wtm_at "EV") ?_; dsimp only [List.set])
  | ((with_reducible show sFld _ _ _ _ _ _ _); refine G.s_fld (by wtm_at "EV") (by wtm_at "EV") (by wtm_at "HP") (by assumption) (by rfl) (Nat.le_of_ble_eq_true (by rfl)) ?_; dsimp only))
local macro_rules | `(tactic| wtm_at "INIT") => `(tactic| (refine ⟨_, by wtm_at "BODY", ?_⟩; (try dsimp only [cxOf]); rw [G.start_eq (Nat.le_of_ble_eq_true (by rfl))]; dsimp only [G.startL]))
local macro_rules | `(tactic| wtm_at "IFT") => `(tactic| (refine G.s_ifT (by wtm_at "EVT") ?eqb ?_; (case eqb => rfl)))
local macro_rules | `(tactic| wtm_at "IFF") => `(tactic| (refine G.s_ifF (by wtm_at "EVT") ?eqb ?_; (case eqb => rfl)))
local macro_rules | `(tactic| wtm_at "MONO") => `(tactic| first
  | with_reducible exact G.var_mono
  | with_reducible exact G.c_mono
  | with_reducible exact G.nil_mono
  | (with_reducible refine G.cons_mono ?_ ?_ <;> wtm_at "MONO")
  | (with_reducible refine G.din_mono ?_ ?_ <;> wtm_at "MONO")
  | (with_reducible refine G.tb_mono ?_ <;> wtm_at "MONO"))
section
variable {P : Program} {w : World} {K : PySem.W.Frag} {mg : Str → Option Value} {base : Heap} {c : Cs}
def optV : Option Int → V
  | none => .non
  | some i => .int i
/-! ### is_so, is_over, is_ago -/
def spIsSo (c : Cs) : Sp := fun vs H Q _ => ∃ a dx r u o, vs = [.ref a, optV o] ∧ H a = some (.ins c.Rule dx (rulF r u)) ∧ r.above = (u == 1) ∧ Q (.bl (Kct7.isSo r o)) H
def spIsOver (c : Cs) : Sp := fun vs H Q _ => ∃ a dx r u o, vs = [.ref a, optV o] ∧ H a = some (.ins c.Rule dx (rulF r u)) ∧ r.above = (u == 1) ∧ Q (.bl (Kct7.isOver r o)) H
theorem above_iff {u : Nat} : decide ((u : Int) = 1) = (u == 1) := by
  rw [Bool.eq_iff_iff]; simp only [decide_eq_true_eq, beq_iff_eq]; omega
theorem fd_is_so (T : Txt K mg c) : G.Fd P w K mg base "is_so" 1 (spIsSo c) := T.d_is_so.fd fun f fd F => by
  have S := sc_is_so
  have cR := T.c_Rule
  refine F.ok S (fun vs H Q E h => ?_) (fun cdv A outer s H vs Q E hr h => ?_)
  · obtain ⟨a, dx, r, u, o, rfl, _⟩ := h
    rfl
  · obtain ⟨a, dx, r, u, o, rfl, ha, hu, k⟩ := h
    wtm_at "INIT"
    wtm_at "GO"
    cases o with
    | none =>
      wtm_at "IFT"
      wtm_at "GO"
      exact k
    | some i =>
      wtm_at "IFF"
      wtm_at "GO"
      wtm_at "GO"
      wtm_at "GO"
      · intro h
        wtm_at "GO"
        rw [above_iff, ← hu] at h
        unfold Kct7.isSo at k
        dsimp only at k
        rw [if_pos h] at k
        exact k
      · intro h
        wtm_at "GO"
        wtm_at "GO"
        rw [above_iff, ← hu] at h
        unfold Kct7.isSo at k
        dsimp only at k
        rw [if_neg (by rw [h]; exact Bool.false_ne_true)] at k
        exact k
theorem fd_is_over (T : Txt K mg c) : G.Fd P w K mg base "is_over" 1 (spIsOver c) := T.d_is_over.fd fun f fd F => by
  have S := sc_is_over
  have cR := T.c_Rule
  refine F.ok S (fun vs H Q E h => ?_) (fun cdv A outer s H vs Q E hr h => ?_)
  · obtain ⟨a, dx, r, u, o, rfl, _⟩ := h
    rfl
  · obtain ⟨a, dx, r, u, o, rfl, ha, hu, k⟩ := h
    wtm_at "INIT"
    wtm_at "GO"
    cases o with
    | none =>
      wtm_at "IFT"
      wtm_at "GO"
      exact k
    | some i =>
      wtm_at "IFF"
      wtm_at "GO"
      wtm_at "GO"
      wtm_at "GO"
      · intro h
        wtm_at "GO"
        rw [above_iff, ← hu] at h
        unfold Kct7.isOver at k
        dsimp only at k
        rw [if_pos h] at k
        exact k
      · intro h
        wtm_at "GO"
        wtm_at "GO"
        rw [above_iff, ← hu] at h
        unfold Kct7.isOver at k
        dsimp only at k
        rw [if_neg (by rw [h]; exact Bool.false_ne_true)] at k
        exact k
def spIsAgo : Sp := fun vs H Q _ => ∃ (l : Option Nat) (n t : Nat), vs = [lastV l, .int (n : Nat), .int (t : Nat)] ∧ Q (.bl (l.all fun a => decide (a + n ≤ t))) H
theorem fd_is_ago (T : Txt K mg c) : G.Fd P w K mg base "is_ago" 1 spIsAgo := T.d_is_ago.fd fun f fd F => by
  have S := sc_is_ago
  refine F.ok S (fun vs H Q E h => ?_) (fun cdv A outer s H vs Q E hr h => ?_)
  · obtain ⟨l, n, t, rfl, _⟩ := h
    rfl
  · obtain ⟨l, n, t, rfl, k⟩ := h
    wtm_at "INIT"
    cases l with
    | none =>
      refine G.s_ret ?_
      refine G.ev_orV (d := true) (G.ev_isN (G.ev_var rfl)) (fun z => ?_) _ ?_
      · exact absurd z (by decide)
      · exact k
    | some a =>
      refine G.s_ret ?_
      refine G.ev_orV (G.ev_isN (G.ev_var rfl)) (fun z => by wtm_at "EV") _ ?_
      show Q (.bl (false || decide ((n : Int) ≤ (t : Int) - (a : Int)))) H
      have e : (false || decide ((n : Int) ≤ (t : Int) - (a : Int))) = ((some a).all fun a => decide (a + n ≤ t)) := by
        rw [Bool.false_or, Bool.eq_iff_iff]
        simp only [decide_eq_true_eq, Option.all_some]
        omega
      rw [e]
      exact k
/-! ### number_of_added, is_there, is_wrong_* -/
def spAdded : Sp := fun vs H Q _ => ∃ (l : Addr) (xs : List V) (m : Int) (v : V), vs = [.ref l, .int m, v] ∧ H l = some (.lst xs) ∧ xs.length ≤ 1000 ∧
  (m ≤ xs.length → Q (.int (-28)) H) ∧ ((xs.length : Int) < m → Q (.int xs.length) (upd H l (.lst (xs ++ [v]))))
theorem fd_added (T : Txt K mg c) : G.Fd P w K mg base "number_of_added" 1 spAdded := T.d_number_of_added.fd fun f fd F => by
  have S := sc_number_of_added
  have nF := T.v_FULL
  have bl := T.b_len
  refine F.ok S (fun vs H Q E h => ?_) (fun cdv A outer s H vs Q E hr h => ?_)
  · obtain ⟨l, xs, m, v, rfl, _⟩ := h
    rfl
  · obtain ⟨l, xs, m, v, rfl, hl, hs, k1, k2⟩ := h
    wtm_at "INIT"
    wtm_at "GO"
    wtm_at "GO"
    · intro h
      wtm_at "GO"
      exact k1 (by simpa using h)
    · intro h
      wtm_at "GO"
      wtm_at "GO"
      refine G.s_app (by wtm_at "EV") (by wtm_at "EV") hl (Nat.lt_of_le_of_lt hs (by decide)) ?_
      dsimp only
      wtm_at "GO"
      have e : ((xs ++ [v]).length : Int) - 1 = xs.length := by simp
      simp only [e]
      exact k2 (by simpa using h)
def spChoice (c : Cs) : Sp := fun vs H Q _ => ∃ a dx r u, vs = [.ref a] ∧ H a = some (.ins c.Rule dx (rulF r u)) ∧ Q (.bl (decide (31 < r.kind ∨ 5 < r.what ∨ 1 < u ∨ 3 < r.level))) H
theorem fd_choice (T : Txt K mg c) : G.Fd P w K mg base "is_wrong_choice" 1 (spChoice c) := T.d_is_wrong_choice.fd fun f fd F => by
  have S := sc_is_wrong_choice
  have cR := T.c_Rule
  have n1 := T.v_LAST_KIND
  have n2 := T.v_LAST_WHAT
  have n3 := T.v_LAST_LEVEL
  refine F.ok S (fun vs H Q E h => ?_) (fun cdv A outer s H vs Q E hr h => ?_)
  · obtain ⟨a, dx, r, u, rfl, _⟩ := h
    rfl
  · obtain ⟨a, dx, r, u, rfl, ha, k⟩ := h
    wtm_at "INIT"
    wtm_at "GO"
    have e : (decide ((31 : Int) < (r.kind : Int)) || (decide ((5 : Int) < (r.what : Int)) || (decide ((1 : Int) < (u : Int)) || decide ((3 : Int) < (r.level : Int))))) = decide (31 < r.kind ∨ 5 < r.what ∨ 1 < u ∨ 3 < r.level) := by
      rw [Bool.eq_iff_iff]; simp only [Bool.or_eq_true, decide_eq_true_eq]; omega
    rw [e]
    exact k
def spSpan (c : Cs) : Sp := fun vs H Q _ => ∃ a dx r u, vs = [.ref a] ∧ H a = some (.ins c.Rule dx (rulF r u)) ∧ Q (.bl (decide (r.window = 0 ∨ 16777216 < r.window ∨ 16777216 < r.hold))) H
theorem fd_span (T : Txt K mg c) : G.Fd P w K mg base "is_wrong_span" 1 (spSpan c) := T.d_is_wrong_span.fd fun f fd F => by
  have S := sc_is_wrong_span
  have cR := T.c_Rule
  have n1 := T.v_LONGEST_SPAN
  refine F.ok S (fun vs H Q E h => ?_) (fun cdv A outer s H vs Q E hr h => ?_)
  · obtain ⟨a, dx, r, u, rfl, _⟩ := h
    rfl
  · obtain ⟨a, dx, r, u, rfl, ha, k⟩ := h
    wtm_at "INIT"
    wtm_at "GO"
    have e : (decide ((r.window : Int) = 0) || (decide ((16777216 : Int) < (r.window : Int)) || decide ((16777216 : Int) < (r.hold : Int)))) = decide (r.window = 0 ∨ 16777216 < r.window ∨ 16777216 < r.hold) := by
      rw [Bool.eq_iff_iff]; simp only [Bool.or_eq_true, decide_eq_true_eq]; omega
    rw [e]
    exact k
def badBound (r : Kct7.Rule) (u : Nat) : Prop := (r.bound < -1125899906842624 ∨ 1125899906842624 < r.bound) ∨ (r.over < -1125899906842624 ∨ 1125899906842624 < r.over) ∨ (u = 1 ∧ r.bound < r.over) ∨ (u ≠ 1 ∧ r.over < r.bound)
def spBound (c : Cs) : Sp := fun vs H Q _ => ∃ a dx r u, vs = [.ref a] ∧ H a = some (.ins c.Rule dx (rulF r u)) ∧ ∀ b : Bool, (b = true ↔ badBound r u) → Q (.bl b) H
theorem fd_bound (T : Txt K mg c) : G.Fd P w K mg base "is_wrong_bound" 1 (spBound c) := T.d_is_wrong_bound.fd fun f fd F => by
  have S := sc_is_wrong_bound
  have cR := T.c_Rule
  have n1 := T.v_WIDEST_BOUND
  have ba := T.b_abs
  refine F.ok S (fun vs H Q E h => ?_) (fun cdv A outer s H vs Q E hr h => ?_)
  · obtain ⟨a, dx, r, u, rfl, _⟩ := h
    rfl
  · obtain ⟨a, dx, r, u, rfl, ha, k⟩ := h
    wtm_at "INIT"
    wtm_at "GO"
    wtm_at "GO"
    · intro h
      wtm_at "GO"
      refine k true ?_
      simp only [Bool.or_eq_true, decide_eq_true_eq] at h
      unfold badBound
      split at h <;> split at h <;> simp only [true_iff] <;> omega
    · intro h
      wtm_at "GO"
      simp only [Bool.or_eq_false_iff, decide_eq_false_iff_not] at h
      have h1 : ¬ (r.bound < -1125899906842624 ∨ 1125899906842624 < r.bound) := by have := h.1; split at this <;> omega
      have h2 : ¬ (r.over < -1125899906842624 ∨ 1125899906842624 < r.over) := by have := h.2; split at this <;> omega
      wtm_at "GO"
      wtm_at "GO"
      · intro hu
        wtm_at "GO"
        refine k _ ?_
        rw [decide_eq_true_eq] at hu ⊢
        unfold badBound
        omega
      · intro hu
        wtm_at "GO"
        wtm_at "GO"
        refine k _ ?_
        rw [decide_eq_false_iff_not] at hu
        rw [decide_eq_true_eq]
        unfold badBound
        omega
end
section
variable {P : Program} {w : World} {K : PySem.W.Frag} {mg : Str → Option Value} {base : Heap} {c : Cs}
open Kct7 (look inWindow)
def spFirst : Sp := fun vs H Q _ => ∃ (l : Addr) (ts : List Int) (t : Int), vs = [.ref l, .int t] ∧ H l = some (.lst (ts.map V.int)) ∧ (∀ (i j : Nat) x y, i ≤ j → ts[i]? = some x → ts[j]? = some y → x ≤ y) ∧
  ∀ p : Nat, p ≤ ts.length → (∀ (i : Nat) x, ts[i]? = some x → i < p → x ≤ t) → (∀ (i : Nat) x, ts[i]? = some x → p ≤ i → t < x) → Q (.int (p : Nat)) H
theorem fd_first (T : Txt K mg c) : G.Fd P w K mg base "first_later" 1 spFirst := T.d_first_later.fd fun f fd F => by
  have S := sc_first_later
  have bl := T.b_len
  refine F.ok S (fun vs H Q E h => ?_) (fun cdv A outer s H vs Q E hr h => ?_)
  · obtain ⟨l, ts, t, rfl, _⟩ := h
    rfl
  · obtain ⟨l, ts, t, rfl, hl, srt, k⟩ := h
    wtm_at "INIT"
    wtm_at "GO"
    wtm_at "GO"
    wtm_at "GO"
    wtm_at "GO"
    rw [List.length_map]
    wtm_at "GO"
    refine G.s_while (fun m σ H' => ∃ (low high : Nat) (v4 : Option V), m = high - low ∧ low ≤ high ∧ high ≤ ts.length ∧ σ = [some (.ref l), some (.int t), some (.int (low : Nat)), some (.int (high : Nat)), v4] ∧ H' = H ∧ (∀ (i : Nat) x, ts[i]? = some x → i < low → x ≤ t) ∧ (∀ (i : Nat) x, ts[i]? = some x → high ≤ i → t < x)) _
      ⟨0, ts.length, none, rfl, Nat.zero_le _, Nat.le_refl _, rfl, rfl, fun i x _ h => absurd h (Nat.not_lt_zero _), fun i x e h => absurd (List.getElem?_eq_some_iff.mp e).1 (Nat.not_lt.mpr h)⟩ ?_
    rintro m σ H' ⟨low, high, v4, rfl, h1, h2, rfl, rfl, h3, h4⟩
    refine ⟨_, by wtm_at "EVT", fun hb => ?_, fun hb => ?_⟩
    · have hb : low < high := by have := of_decide_eq_true hb; omega
      wtm_at "GO"
      wtm_at "GO"
      have hm : (low + high) / 2 < ts.length := by omega
      have hx : (ts.map V.int)[(low + high) / 2]? = some (.int ts[(low + high) / 2]) := by rw [List.getElem?_map, List.getElem?_eq_getElem hm]; rfl
      have hx' : ts[(low + high) / 2]? = some ts[(low + high) / 2] := List.getElem?_eq_getElem hm
      generalize ts[(low + high) / 2] = y at hx hx'
      have em : ((low : Int) + (high : Int)) / 2 = (((low + high) / 2 : Nat) : Int) := by omega
      refine G.s_if (G.evt_test (G.ev_i0 (G.ev_ixAL (by wtm_at "EV") (by wtm_at "EV") (SqL.of hl) em hx) (by wtm_at "EV"))) (fun hc => ?_) (fun hc => ?_)
      · have hc := of_decide_eq_true hc
        wtm_at "GO"
        refine ⟨(low + high) / 2 - low, by omega, low, (low + high) / 2, some (.int (((low + high) / 2 : Nat) : Int)), rfl, by omega, by omega, ?_, rfl, h3, fun i x e hi => ?_⟩
        · rw [em]
        · have := srt _ _ _ _ hi hx' e
          omega
      · have hc := of_decide_eq_false hc
        wtm_at "GO"
        refine ⟨high - ((low + high) / 2 + 1), by omega, (low + high) / 2 + 1, high, some (.int (((low + high) / 2 : Nat) : Int)), rfl, by omega, by omega, ?_, rfl, fun i x e hi => ?_, h4⟩
        · rw [em]; rfl
        · have := srt _ _ _ _ (by omega : i ≤ (low + high) / 2) e hx'
          omega
    · have hb : low = high := by have := of_decide_eq_false hb; omega
      subst hb
      dsimp only
      wtm_at "GO"
      exact k low h2 h3 h4
theorem look_nil {n : Nat} (h : n ≠ 4) : look n [] = none := by
  unfold look
  split
  · rfl
  · rfl
  · rfl
  · rfl
  · exact absurd rfl h
  · rfl
theorem look_else {n : Nat} {a b : Int} {l : List Int} (h0 : n ≠ 0) (h1 : n ≠ 1) (h2 : n ≠ 2) (h3 : n ≠ 3) (h4 : n ≠ 4) (ha : l.head? = some a) (hb : l.getLast? = some b) : look n l = some (b - a) := by
  unfold look
  split
  · exact absurd rfl h0
  · exact absurd rfl h1
  · exact absurd rfl h2
  · exact absurd rfl h3
  · exact absurd rfl h4
  · rw [ha, hb]
def spValueOf (c : Cs) : Sp := fun vs H Q _ => ∃ (a b dx dy t m : Addr) (r : Kct7.Rule) (u k g n : Nat) (l : List Kct7.Sample), vs = [.ref a, .ref b, .int (n : Nat)] ∧ H a = some (.ins c.Rule dx (rulF r u)) ∧ H b = some (.ins c.Series dy (serF k g t m)) ∧
  H t = some (.lst (l.map fun y => V.int (y.time : Nat))) ∧ H m = some (.lst (l.map fun y => V.int y.value)) ∧ Mth.Sorted l ∧ (∀ y ∈ l, y.time ≤ n) ∧ ∀ H', Same H H' → Q (optV (look r.what (inWindow r.window n l))) H'
theorem fd_value_of (T : Txt K mg c) : G.Fd P w K mg base "value_of" 2 (spValueOf c) := T.d_value_of.fd fun f fd F => by
  have S := sc_value_of
  have bl := T.b_len
  have b1 := T.b_min
  have b2 := T.b_max
  have b3 := T.b_sum
  have n1 := T.v_HOW_MANY
  have n2 := T.v_LAST
  have n3 := T.v_LEAST
  have n4 := T.v_GREATEST
  have n5 := T.v_TOTAL
  have cR := T.c_Rule
  have cS := T.c_Series
  have fF : G.Fd P w K mg base "first_later" 1 spFirst := fd_first T
  refine F.ok S (fun vs H Q E h => ?_) (fun cdv A outer s H vs Q E hr h => ?_)
  · obtain ⟨a, b, dx, dy, t, m, r, u, k, g, n, l, rfl, _⟩ := h
    rfl
  · obtain ⟨a, b, dx, dy, t, m, r, u, kk, g, n, l, rfl, ha, hb, ht, hm, srt, old, k⟩ := h
    wtm_at "INIT"
    wtm_at "GO"
    refine G.s_setE (G.sl_hi0 (x := .ref m) (by wtm_at "EV") (G.call2 (G.use (by wtm_at "EV") (G.use (by wtm_at "EV") ?_))))
    refine ⟨t, l.map fun y => (y.time : Int), _, rfl, by rw [ht, List.map_map]; rfl, fun i j x y hij e1 e2 => ?_, fun p hp p1 p2 => ⟨_, rfl, m, _, rfl, SqL.of hm, fun q hq => ?_⟩⟩
    · rw [List.getElem?_map] at e1 e2
      obtain ⟨x', f1, rfl⟩ := Option.map_eq_some_iff.mp e1
      obtain ⟨y', f2, rfl⟩ := Option.map_eq_some_iff.mp e2
      have := srt i j x' y' hij f1 f2
      omega
    · rw [List.length_map] at hp
      rw [G.cut_from rfl (by rw [List.length_map]; exact hp)]
      have eW : inWindow r.window n l = (l.drop p).map Kct7.Sample.value := by
        refine Mth.inWindow_drop (fun i x e hi => ?_) (fun i x e hi => ?_) old
        · have := p1 i (x.time : Int) (by rw [List.getElem?_map, e]; rfl) hi
          omega
        · have := p2 i (x.time : Int) (by rw [List.getElem?_map, e]; rfl) hi
          omega
      have eL : (l.map fun y => V.int y.value).drop p = (inWindow r.window n l).map V.int := by
        rw [eW, List.map_map, ← List.map_drop]; rfl
      rw [eL]
      generalize inWindow r.window n l = W at k eL eW ⊢
      have sm : Same H (upd H q (.lst (W.map V.int))) := same_new hq
      have hk := k _ sm
      have hq' : upd H q (.lst (W.map V.int)) q = some (.lst (W.map V.int)) := upd_same
      have ha' := sm _ _ ha
      clear k ha hb ht hm
      generalize upd H q (.lst (W.map V.int)) = H1 at hk hq' ha' ⊢
      dsimp only [List.set]
      wtm_at "GO"
      wtm_at "GO"
      · intro h
        have e : r.what = 4 := by have := of_decide_eq_true h; omega
        rw [e] at hk
        wtm_at "GO"
        rw [List.length_map]
        exact hk
      intro h4
      have h4 : r.what ≠ 4 := by have := of_decide_eq_false h4; omega
      wtm_at "GO"
      wtm_at "GO"
      wtm_at "GO"
      · intro h
        have e : W = [] := by
          have := of_decide_eq_true h
          rw [List.length_map] at this
          exact List.eq_nil_of_length_eq_zero (by omega)
        wtm_at "GO"
        rw [e, look_nil h4] at hk
        exact hk
      intro hne
      have hne : W ≠ [] := fun z => by
        have := of_decide_eq_false hne
        rw [z] at this
        exact this rfl
      obtain ⟨ys, x, eW2⟩ : ∃ ys x, W = ys ++ [x] := ⟨W.dropLast, W.getLast hne, (List.dropLast_concat_getLast hne).symm⟩
      have hlast : SqL K H1 q (ys.map V.int ++ [.int x]) := by
        have := SqL.of (K := K) hq'
        rw [eW2, List.map_append] at this
        exact this
      have hl0 : 0 < W.length := List.length_pos_iff.mpr hne
      wtm_at "GO"
      wtm_at "GO"
      wtm_at "GO"
      · intro h
        have e : r.what = 0 := by have := of_decide_eq_true h; omega
        refine G.s_ret (G.use (G.ev_last (by wtm_at "EV") (by wtm_at "EV") hlast rfl) ?_)
        rw [e, eW2] at hk
        unfold look at hk
        rw [List.getLast?_concat] at hk
        exact hk
      intro h0
      have h0 : r.what ≠ 0 := by have := of_decide_eq_false h0; omega
      wtm_at "GO"
      wtm_at "GO"
      wtm_at "GO"
      · intro h
        have e : r.what = 1 := by have := of_decide_eq_true h; omega
        refine G.s_ret ⟨_, rfl, q, W, rfl, SqL.of hq', hl0, fun z z1 z2 => ?_⟩
        rw [e] at hk
        unfold look at hk
        rw [Mth.least_min z1 z2] at hk
        exact hk
      intro h1
      have h1 : r.what ≠ 1 := by have := of_decide_eq_false h1; omega
      wtm_at "GO"
      wtm_at "GO"
      wtm_at "GO"
      · intro h
        have e : r.what = 2 := by have := of_decide_eq_true h; omega
        refine G.s_ret ⟨_, rfl, q, W, rfl, SqL.of hq', hl0, fun z z1 z2 => ?_⟩
        rw [e] at hk
        unfold look at hk
        rw [Mth.greatest_max z1 z2] at hk
        exact hk
      intro h2
      have h2 : r.what ≠ 2 := by have := of_decide_eq_false h2; omega
      wtm_at "GO"
      wtm_at "GO"
      wtm_at "GO"
      · intro h
        have e : r.what = 3 := by have := of_decide_eq_true h; omega
        refine G.s_ret ⟨_, rfl, q, W, rfl, SqL.of hq', ?_⟩
        rw [e] at hk
        unfold look at hk
        rw [if_neg (by rw [List.isEmpty_iff]; exact hne), ← Mth.sum_eq] at hk
        exact hk
      intro h3
      have h3 : r.what ≠ 3 := by have := of_decide_eq_false h3; omega
      obtain ⟨a0, r0, eW0⟩ : ∃ a r, W = a :: r := List.exists_cons_of_ne_nil hne
      wtm_at "GO"
      refine G.s_ret (G.use (G.ev_i0 (G.ev_last (by wtm_at "EV") (by wtm_at "EV") hlast rfl) (G.ev_ixAL (j := 0) (by wtm_at "EV") (by wtm_at "EV") (SqL.of hq') rfl (by rw [eW0]; rfl))) ?_)
      rw [look_else h0 h1 h2 h3 h4 (by rw [eW0]; rfl) (by rw [eW2]; exact List.getLast?_concat)] at hk
      exact hk
end
section
variable {P : Program} {w : World} {K : PySem.W.Frag} {mg : Str → Option Value} {base : Heap} {c : Cs}
open Kct7 (nextPhase isSo isOver valueOf phases Phase Pair Abs)
/-! ### known_first, known_after, known_now -/
def spKFirst (c : Cs) : Sp := fun vs H Q _ => ∃ (a dx : Addr) (r : Kct7.Rule) (u : Nat) (o : Option Int) (t : Nat) (τ : Tg), vs = [.ref a, optV o, .int (t : Nat)] ∧ H a = some (.ins c.Rule dx (rulF r u)) ∧ r.above = (u == 1) ∧ Wf H τ ∧
  ∀ v H', Same H H' → PhW (im H' τ) v (nextPhase r.hold .quiet t (isSo r o) (isOver r o)) → Q v H'
theorem fd_kfirst (T : Txt K mg c) : G.Fd P w K mg base "known_first" 2 (spKFirst c) := T.d_known_first.fd fun f fd F => by
  have S := sc_known_first
  have cR := T.c_Rule
  have n1 := T.v_FIRES
  have n2 := T.v_BEEN_SO
  have f1 : G.Fd P w K mg base "is_so" 1 (spIsSo c) := fd_is_so T
  refine F.ok S (fun vs H Q E h => ?_) (fun cdv A outer s H vs Q E hr h => ?_)
  · obtain ⟨a, dx, r, u, o, t, τ, rfl, _⟩ := h
    rfl
  · obtain ⟨a, dx, r, u, o, t, τ, rfl, ha, hu, wf, k⟩ := h
    wtm_at "INIT"
    wtm_at "GO"
    refine G.s_if (G.evt_not (G.evt_tB (G.ev_call (by wtm_at "EVA") (fun _ q => ⟨a, dx, r, u, o, rfl, ha, hu, q⟩)))) (fun h => ?_) (fun h => ?_)
    · have h : isSo r o = false := by simpa using h
      wtm_at "GO"
      refine k _ _ (Same.refl _) (.inl ⟨?_, rfl⟩)
      unfold nextPhase
      rw [h]; rfl
    · have h : isSo r o = true := by simpa using h
      wtm_at "GO"
      wtm_at "GO"
      wtm_at "GO"
      · intro h0
        have h0 : r.hold = 0 := by have := of_decide_eq_true h0; omega
        refine G.s_ret (G.tup_new (by wtm_at "EVA") (by show 2 ≤ sizeLine; decide) fun p hp => ?_)
        refine k _ _ (same_new hp) (.inr ⟨?_, p, rfl, im_iff.mpr ⟨?_, wf.none hp⟩⟩)
        · unfold nextPhase
          rw [h]; dsimp only; rw [if_pos rfl, if_pos h0]; exact fun z => nomatch z
        · unfold nextPhase
          rw [h]; dsimp only; rw [if_pos rfl, if_pos h0]; exact upd_same
      · intro h0
        have h0 : ¬ r.hold = 0 := by have := of_decide_eq_false h0; omega
        wtm_at "GO"
        refine G.s_ret (G.tup_new (by wtm_at "EVA") (by show 2 ≤ sizeLine; decide) fun p hp => ?_)
        refine k _ _ (same_new hp) (.inr ⟨?_, p, rfl, im_iff.mpr ⟨?_, wf.none hp⟩⟩)
        · unfold nextPhase
          rw [h]; dsimp only; rw [if_pos rfl, if_neg h0]; exact fun z => nomatch z
        · unfold nextPhase
          rw [h]; dsimp only; rw [if_pos rfl, if_neg h0]; exact upd_same
def spKAfter (c : Cs) : Sp := fun vs H Q _ => ∃ (v0 : V) (p0 : Phase) (a dx : Addr) (r : Kct7.Rule) (u : Nat) (o : Option Int) (t : Nat) (τ : Tg), vs = [v0, .ref a, optV o, .int (t : Nat)] ∧ PhW (im H τ) v0 p0 ∧ H a = some (.ins c.Rule dx (rulF r u)) ∧ r.above = (u == 1) ∧ Wf H τ ∧
  ∀ v H', Same H H' → PhW (im H' τ) v (nextPhase r.hold p0 t (isSo r o) (isOver r o)) → Q v H'
theorem fd_kafter (T : Txt K mg c) : G.Fd P w K mg base "known_after" 3 (spKAfter c) := T.d_known_after.fd fun f fd F => by
  have S := sc_known_after
  have cR := T.c_Rule
  have n1 := T.v_FIRES
  have n2 := T.v_BEEN_SO
  have f1 : G.Fd P w K mg base "is_so" 1 (spIsSo c) := fd_is_so T
  have f2 : G.Fd P w K mg base "is_over" 1 (spIsOver c) := fd_is_over T
  have f3 : G.Fd P w K mg base "known_first" 2 (spKFirst c) := fd_kfirst T
  refine F.ok S (fun vs H Q E h => ?_) (fun cdv A outer s H vs Q E hr h => ?_)
  · obtain ⟨v0, p0, a, dx, r, u, o, t, τ, rfl, _⟩ := h
    rfl
  · obtain ⟨v0, p0, a, dx, r, u, o, t, τ, rfl, hp0, ha, hu, wf, k⟩ := h
    wtm_at "INIT"
    wtm_at "GO"
    rcases hp0 with ⟨rfl, rfl⟩ | ⟨hne, q, rfl, hq⟩
    · wtm_at "IFT"
      refine G.s_ret (G.call_ (by wtm_at "EVA") ⟨a, dx, r, u, o, t, τ, rfl, ha, hu, wf, k⟩)
    · wtm_at "IFF"
      wtm_at "GO"
      wtm_at "GO"
      have hqH : H q = some (.tup (phT p0)) := im_at hq
      cases p0 with
      | quiet => exact absurd rfl hne
      | fires b =>
        refine G.s_ifT (b := decide ((2 : Int) = 2)) (G.evt_test (G.ev_eqI (G.ev_ixAT (j := 0) (by wtm_at "EV") (by wtm_at "EV") (SqT.of hqH) rfl rfl) (by wtm_at "EV"))) rfl ?_
        refine G.s_ret (G.use (G.ev_if (b := isOver r o) (x := .non) (y := .ref q) (G.evt_tB (G.ev_call (by wtm_at "EVA") (fun _ q => ⟨a, dx, r, u, o, rfl, ha, hu, q⟩))) (fun _ => by wtm_at "EV") (fun _ => by wtm_at "EV")) ?_)
        refine k _ _ (Same.refl _) ?_
        unfold nextPhase
        dsimp only
        cases isOver r o with
        | true => exact .inl ⟨rfl, rfl⟩
        | false => exact .inr ⟨(fun z => nomatch z), q, rfl, hq⟩
      | holds b =>
        refine G.s_ifF (b := decide ((1 : Int) = 2)) (G.evt_test (G.ev_eqI (G.ev_ixAT (j := 0) (by wtm_at "EV") (by wtm_at "EV") (SqT.of hqH) rfl rfl) (by wtm_at "EV"))) rfl ?_
        wtm_at "GO"
        wtm_at "GO"
        refine G.s_if (G.evt_not (G.evt_tB (G.ev_call (by wtm_at "EVA") (fun _ q => ⟨a, dx, r, u, o, rfl, ha, hu, q⟩)))) (fun h => ?_) (fun h => ?_)
        · have h : isSo r o = false := by simpa using h
          wtm_at "GO"
          refine k _ _ (Same.refl _) (.inl ⟨?_, rfl⟩)
          unfold nextPhase
          rw [h]; rfl
        · have h : isSo r o = true := by simpa using h
          wtm_at "GO"
          wtm_at "GO"
          refine G.s_if (G.evt_test (G.ev_i0 (G.ev_i0 (by wtm_at "EV") (G.ev_ixAT (j := 1) (by wtm_at "EV") (by wtm_at "EV") (SqT.of hqH) rfl rfl)) (by wtm_at "EV"))) (fun h1 => ?_) (fun h1 => ?_)
          · have h1 : b + r.hold ≤ t := by have := of_decide_eq_true h1; omega
            refine G.s_ret (G.tup_new (by wtm_at "EVA") (by show 2 ≤ sizeLine; decide) fun p hp => ?_)
            refine k _ _ (same_new hp) (.inr ⟨?_, p, rfl, im_iff.mpr ⟨?_, wf.none hp⟩⟩)
            · unfold nextPhase
              rw [h]; dsimp only; rw [if_pos rfl, if_pos h1]; exact fun z => nomatch z
            · unfold nextPhase
              rw [h]; dsimp only; rw [if_pos rfl, if_pos h1]; exact upd_same
          · have h1 : ¬ b + r.hold ≤ t := by have := of_decide_eq_false h1; omega
            wtm_at "GO"
            wtm_at "GO"
            refine k _ _ (Same.refl _) ?_
            unfold nextPhase
            rw [h]; dsimp only; rw [if_pos rfl, if_neg h1]
            exact .inr ⟨(fun z => nomatch z), q, rfl, hq⟩
end
section
variable {P : Program} {w : World} {K : PySem.W.Frag} {mg : Str → Option Value} {base : Heap} {c : Cs}
open Kct7 (nextPhase isSo isOver valueOf phases Phase Pair Abs)
def spKNow (c : Cs) : Sp := fun vs H Q _ => ∃ (st : Addr) (s : Abs) (τ : Tg) (d : Ad), vs = [.ref st] ∧ Own c H st s τ d ∧ Mth.Ok s ∧
  ∀ H' a kvs, Same H H' → im H' τ a = some (.dT kvs) → KList (im H' τ) (phases s s.now) kvs (Mth.inAll (phases s s.now) s.rules.length s.series.length) → Q (.ref a) H'
theorem fd_know (T : Txt K mg c) : G.Fd P w K mg base "known_now" 4 (spKNow c) := T.d_known_now.fd fun f fd F => by
  have S := sc_known_now
  have cR := T.c_Rule
  have cS := T.c_Series
  have cT := T.c_State
  have be := T.b_enumerate
  have f1 : G.Fd P w K mg base "value_of" 2 (spValueOf c) := fd_value_of T
  have f2 : G.Fd P w K mg base "known_after" 3 (spKAfter c) := fd_kafter T
  refine F.ok S (fun vs H Q E h => ?_) (fun cdv A outer s H vs Q E hr h => ?_)
  · obtain ⟨st, s, τ, d, rfl, _⟩ := h
    rfl
  · obtain ⟨st, s, τ, d, rfl, o, ok, k⟩ := h
    have hu := hu_of hr
    wtm_at "INIT"
    wtm_at "GO"
    refine G.s_setE (fun kd hkd => ?_)
    dsimp only [List.set]
    wtm_at "GO"
    have sm0 : Same H (upd H kd (.dT [])) := same_new hkd
    have o0 := o.same sm0
    have tk := o.wf.none hkd
    generalize hPh : phases s s.now = Ph at k
    have esO := o0.sO
    refine G.s_enum (xs := d.ra.map V.ref) (fun i σ H' => ∃ v2 v3 v4 v5 v6 v7 v8 kvs, σ = [some (.ref st), some (.ref kd), v2, v3, v4, v5, v6, v7, v8] ∧ Same H H' ∧ H' kd = some (.dT kvs) ∧ KList (im H' τ) Ph kvs (Mth.inAll Ph i s.series.length))
      (by wtm_at "EV") (fun i σ H' _ ⟨_, _, _, _, _, _, _, _, _, sm, _⟩ => SqL.of (o.same sm).rL) ⟨none, none, none, none, none, none, none, [], rfl, sm0, upd_same, .nil⟩ ?_ ?_
    · rintro i x σ H1 T1 hx ⟨v2, v3, v4, v5, v6, v7, v8, kvs, rfl, sm, hk, kl⟩ hT1
      have sm1 : Same H (upd H1 T1 (.tup [.int (i : Nat), x])) := sm.trans (same_new hT1)
      have hk1 : upd H1 T1 (.tup [.int (i : Nat), x]) kd = some (.dT kvs) := same_new hT1 _ _ hk
      have kl1 := kl.mono (im_same (τ := τ) (same_new (o := .tup [.int (i : Nat), x]) hT1))
      generalize upd H1 T1 (.tup [.int (i : Nat), x]) = H2 at sm1 hk1 kl1 ⊢
      clear hk kl hT1 sm
      have o2 := o.same sm1
      have e2 := o2.sO
      obtain ⟨ar, r, rfl, har, hr', _⟩ := o2.rul hx
      dsimp only [List.set]
      refine G.s_enum (xs := d.sa.map V.ref) (fun k' σ H' => ∃ v4 v5 v6 v7 v8 kvs, σ = [some (.ref st), some (.ref kd), some (.int (i : Nat)), some (.ref ar), v4, v5, v6, v7, v8] ∧ Same H H' ∧ H' kd = some (.dT kvs) ∧ KList (im H' τ) Ph kvs (Mth.inAll Ph i s.series.length ++ Mth.inRow Ph i k'))
        (by wtm_at "EV") (fun i σ H' _ ⟨_, _, _, _, _, _, _, sm, _⟩ => SqL.of (o.same sm).eL) ⟨v4, v5, v6, v7, v8, kvs, rfl, sm1, hk1, by rw [Mth.inRow_zero, List.append_nil]; exact kl1⟩ ?_ ?_
      · rintro j y σ H3 T2 hy ⟨w4, w5, w6, w7, w8, kvs, rfl, sm, hk, kl⟩ hT2
        have sm3 : Same H (upd H3 T2 (.tup [.int (j : Nat), y])) := sm.trans (same_new hT2)
        have hk3 : upd H3 T2 (.tup [.int (j : Nat), y]) kd = some (.dT kvs) := same_new hT2 _ _ hk
        have kl3 := kl.mono (im_same (τ := τ) (same_new (o := .tup [.int (j : Nat), y]) hT2))
        generalize upd H3 T2 (.tup [.int (j : Nat), y]) = H4 at sm3 hk3 kl3 ⊢
        clear hk kl hT2 sm
        have o4 := o.same sm3
        have e4 := o4.sO
        obtain ⟨as, x, rfl, has, hx', hS⟩ := o4.ser hy
        obtain ⟨dx, u, hR, hab⟩ := o4.rA i r ar hr' har
        have hR := im_at hR
        obtain ⟨dy, t, m, hS1, _, hS2, _, hS3⟩ := hS
        have hS1 := im_at hS1
        have okx := ok.ser x (List.mem_of_getElem? hx')
        have hnext := Mth.phase_next ok (t := s.now) hr' hx'
        rw [hPh] at hnext
        dsimp only [List.set]
        refine G.s_if (by wtm_at "EVT") (fun hc => ?_) (fun hc => ?_)
        · have hc : x.kind = r.kind := by have := of_decide_eq_true hc; omega
          rw [if_pos hc] at hnext
          wtm_at "GO"
          refine G.s_setE (G.tup_new (by wtm_at "EVA") (by show 2 ≤ sizeLine; decide) fun q hq => ?_)
          dsimp only [List.set]
          wtm_at "GO"
          have sq : Same H4 (upd H4 q (.tup [.int (i : Nat), .int (j : Nat)])) := same_new hq
          have hR5 := sq _ _ hR
          have hS15 := sq _ _ hS1
          have hS25 := sq _ _ hS2
          have hS35 := sq _ _ hS3
          have e5 := sq _ _ e4
          have hq5 : upd H4 q (.tup [.int (i : Nat), .int (j : Nat)]) q = some (.tup [.int (i : Nat), .int (j : Nat)]) := upd_same
          have hk5 := sq _ _ hk3
          have sm5 := sm3.trans sq
          have kl5 := kl3.mono (im_same (τ := τ) sq)
          generalize upd H4 q (.tup [.int (i : Nat), .int (j : Nat)]) = H5 at sq hR5 hS15 hS25 hS35 e5 hq5 hk5 sm5 kl5 ⊢
          refine G.s_setE (G.call_ (by wtm_at "EVA") ⟨ar, as, dx, dy, t, m, r, u, x.kind, x.group, s.now, x.samples, rfl, hR5, hS15, hS25, hS35, okx.srt, okx.old, fun H6 sm6 => ?_⟩)
          dsimp only [List.set]
          wtm_at "GO"
          have o6 := o.same (sm5.trans sm6)
          have e6 := o6.sO
          have hR6 := sm6 _ _ hR5
          have hq6 := sm6 _ _ hq5
          have hk6 := sm6 _ _ hk5
          have kl6 := kl5.mono (im_same (τ := τ) sm6)
          obtain ⟨kold, hK1, hK2⟩ := o6.kA
          have hK1 := im_at hK1
          refine G.s_setE (G.call_ (G.eva_cons (G.ev_dget1T (k := key i j) (by wtm_at "EV") (by wtm_at "EV") hK1 hq6) (by wtm_at "EVA")) ⟨_, s.phase i j, ar, dx, r, u, _, s.now, τ, rfl, (hK2 i j).w, hR6, hab, o6.wf, fun v H7 sm7 hv => ?_⟩)
          have hv : PhW (im H7 τ) v (Ph i j) := by
            rw [hnext]; exact hv
          have sm07 := (sm5.trans sm6).trans sm7
          have hq7 := sm7 _ _ hq6
          have hk7 := sm7 _ _ hk6
          have kl7 := kl6.mono (im_same (τ := τ) sm7)
          dsimp only [List.set]
          rcases hv with ⟨hv1, rfl⟩ | ⟨hv1, tt, rfl, hv2⟩
          · refine G.s_ifF (b := !decide (V.non = V.non)) (G.evt_tB (G.ev_notN (by wtm_at "EV"))) rfl ?_
            wtm_at "GO"
            refine ⟨_, _, _, _, _, kvs, rfl, sm07, hk7, ?_⟩
            rw [Mth.inRow_succ, if_pos hv1, List.append_nil]
            exact kl7
          · refine G.s_ifT (b := !decide (V.ref tt = V.non)) (G.evt_tB (G.ev_notN (by wtm_at "EV"))) rfl ?_
            have hnew : valV kvs (key i j) = none := (kl7.val i j).2 fun z => by
              rcases List.mem_append.mp z with z | z
              · exact Nat.lt_irrefl _ (Mth.mem_inAll.mp z).1
              · exact Nat.lt_irrefl _ (Mth.mem_inRow.mp z).2.1
            have hlen : kvs.length ≤ 4096 := by
              rw [Paired.length kl7, List.length_append]
              have h1 := Mth.inAll_len Ph i s.series.length
              have h2 := Mth.inRow_len Ph i j
              have h3 : i ≤ 32 := Nat.le_trans (Nat.le_of_lt (List.getElem?_eq_some_iff.mp hr').1) ok.nr
              have h4 : j ≤ 64 := Nat.le_trans (Nat.le_of_lt (List.getElem?_eq_some_iff.mp hx').1) ok.ns
              have h5 : i * s.series.length ≤ 32 * 64 := Nat.mul_le_mul h3 ok.ns
              omega
            refine G.s_dputT (k := key i j) (by wtm_at "EV") (by wtm_at "EV") (by wtm_at "EV") hk7 hq7 (Nat.lt_of_le_of_lt hlen (by decide)) ?_
            rw [putK_new _ hnew]
            have hkd7 : τ kd = none := tk
            have sm8 : Same H (upd H7 kd (.dT (kvs ++ [(key i j, .ref tt)]))) := fun b ob e => by
              rw [upd_ne (ne_of_none e hkd)]; exact sm07 b ob e
            refine ⟨_, _, _, _, _, _, rfl, sm8, upd_same, ?_⟩
            rw [Mth.inRow_succ, if_neg hv1, ← List.append_assoc]
            have im8 : ∀ b xs, im H7 τ b = some (.tup xs) → im (upd H7 kd (.dT (kvs ++ [(key i j, .ref tt)]))) τ b = some (.tup xs) := fun b xs e => by
              have e' := im_iff.mp e
              exact im_iff.mpr ⟨by rw [upd_ne (ne_of e'.1 hk7 (fun z => nomatch z))]; exact e'.1, e'.2⟩
            exact paired_snoc ⟨rfl, tt, rfl, im8 _ _ hv2⟩ (L2.Paired.mapP kl7 fun _ _ ⟨z1, z2, z3, z4⟩ => ⟨z1, z2, z3, im8 _ _ z4⟩)
        · have hc : ¬ x.kind = r.kind := by have := of_decide_eq_false hc; omega
          rw [if_neg hc] at hnext
          wtm_at "GO"
          refine ⟨_, _, _, _, _, kvs, rfl, sm3, hk3, ?_⟩
          rw [Mth.inRow_succ, if_pos hnext, List.append_nil]
          exact kl3
      · rintro σ H' ⟨w4, w5, w6, w7, w8, kvs, rfl, sm, hk, kl⟩
        refine ⟨_, _, _, _, _, _, _, kvs, rfl, sm, hk, ?_⟩
        rw [Mth.inAll_succ]
        rw [List.length_map, o.eN] at kl
        exact kl
    · rintro σ H' ⟨v2, v3, v4, v5, v6, v7, v8, kvs, rfl, sm, hk, kl⟩
      rw [List.length_map, o.rN] at kl
      wtm_at "GO"
      exact k H' kd kvs sm (im_iff.mpr ⟨hk, tk⟩) kl
end
section
variable {P : Program} {w : World} {K : PySem.W.Frag} {mg : Str → Option Value} {base : Heap} {c : Cs}
open Kct7 (Phase Pair Abs)
/-! ### the objects -/
def spSeries (c : Cs) : Sp := fun vs H Q _ => ∃ (p dx : Addr) (k g : Nat), vs = [.ref p, .int (k : Nat), .int (g : Nat)] ∧ H p = some (.ins c.Series dx []) ∧
  ∀ t m, H t = none → H m = none → t ≠ m → Q .non (upd (upd (upd H t (.lst [])) m (.lst [])) p (.ins c.Series dx (serF k g t m)))
theorem upd_comm {H : Hp} {a b : Addr} {x y : HO} (h : a ≠ b) : upd (upd H a x) b y = upd (upd H b y) a x := by
  funext z
  unfold upd
  by_cases h1 : z = a
  · subst h1; rw [if_neg h, if_pos rfl, if_pos rfl]
  · rw [if_neg h1, if_neg h1]
theorem md_series (T : Txt K mg c) : G.Md P w K mg base "Series" c.Series 1 (spSeries c) := T.k_Series.md fun f fd F => by
  have S := sc_Series
  have cS := T.c_Series
  refine F.ok S (fun vs H Q E h => ?_) (fun cdv A outer s H vs Q E hr h => ?_)
  · obtain ⟨p, dx, k, g, rfl, _⟩ := h
    rfl
  · obtain ⟨p, dx, kk, g, rfl, hp, k⟩ := h
    wtm_at "INIT"
    wtm_at "GO"
    wtm_at "GO"
    wtm_at "GO"
    wtm_at "GO"
    wtm_at "GO"
    rw [upd_upd]
    refine G.s_fldX (G.lst_new G.eva_nil (Nat.zero_le _) fun t ht => ?_)
    have ntp : t ≠ p := fun z => by rw [z, upd_same] at ht; cases ht
    have ht' : H t = none := by rw [upd_ne ntp] at ht; exact ht
    have hp1 : upd (upd H p (.ins c.Series dx (putF "group" (.int (g : Nat)) (putF "kind" (.int (kk : Nat)) [])))) t (.lst []) p = some (.ins c.Series dx (putF "group" (.int (g : Nat)) (putF "kind" (.int (kk : Nat)) []))) := by
      rw [upd_ne (Ne.symm ntp)]; exact upd_same
    wtm_at "GO"
    rw [upd_comm (Ne.symm ntp), upd_upd]
    refine G.s_fldX (G.lst_new G.eva_nil (Nat.zero_le _) fun m hm => ?_)
    have nmp : m ≠ p := fun z => by rw [z, upd_same] at hm; cases hm
    have hm1 : upd H t (.lst []) m = none := by rw [upd_ne nmp] at hm; exact hm
    have nmt : m ≠ t := fun z => by rw [z, upd_same] at hm1; cases hm1
    have hm' : H m = none := by rw [upd_ne nmt] at hm1; exact hm1
    rw [upd_comm (Ne.symm nmp)]
    wtm_at "GO"
    rw [upd_upd]
    exact k t m ht' hm' (Ne.symm nmt)
def spRule (c : Cs) : Sp := fun vs H Q _ => ∃ (p dx : Addr) (k wh u n h l : Nat) (b o : Int), vs = [.ref p, .int (k : Nat), .int (wh : Nat), .int (u : Nat), .int (n : Nat), .int b, .int o, .int (h : Nat), .int (l : Nat)] ∧ H p = some (.ins c.Rule dx []) ∧
  Q .non (upd H p (.ins c.Rule dx (rulF ⟨k, wh, u == 1, n, b, o, h, l⟩ u)))
theorem md_rule (T : Txt K mg c) : G.Md P w K mg base "Rule" c.Rule 1 (spRule c) := T.k_Rule.md fun f fd F => by
  have S := sc_Rule
  have cS := T.c_Rule
  refine F.ok S (fun vs H Q E h => ?_) (fun cdv A outer s H vs Q E hr h => ?_)
  · obtain ⟨p, dx, k, wh, u, n, h, l, b, o, rfl, _⟩ := h
    rfl
  · obtain ⟨p, dx, kk, wh, u, n, h, l, b, o, rfl, hp, k⟩ := h
    wtm_at "INIT"
    iterate 15 wtm_at "GO"
    simp only [upd_upd]
    exact k
def spSil (c : Cs) : Sp := fun vs H Q _ => ∃ (p dx : Addr) (r g f t : Nat), vs = [.ref p, .int (r : Nat), .int (g : Nat), .int (f : Nat), .int (t : Nat)] ∧ H p = some (.ins c.Silence dx []) ∧ Q .non (upd H p (.ins c.Silence dx (silF ⟨r, g, f, t⟩ false)))
theorem md_sil (T : Txt K mg c) : G.Md P w K mg base "Silence" c.Silence 1 (spSil c) := T.k_Silence.md fun f fd F => by
  have S := sc_Silence
  have cS := T.c_Silence
  refine F.ok S (fun vs H Q E h => ?_) (fun cdv A outer s H vs Q E hr h => ?_)
  · obtain ⟨p, dx, r, g, f, t, rfl, _⟩ := h
    rfl
  · obtain ⟨p, dx, r, g, f, t, rfl, hp, k⟩ := h
    wtm_at "INIT"
    iterate 9 wtm_at "GO"
    simp only [upd_upd]
    exact k
def spNote (c : Cs) : Sp := fun vs H Q _ => ∃ (p dx : Addr) (g a : V) (n o : V), vs = [.ref p, g, a, n, o] ∧ H p = some (.ins c.Note dx []) ∧ Q .non (upd H p (.ins c.Note dx [("group", g), ("again", a), ("new", n), ("over", o)]))
theorem md_note (T : Txt K mg c) : G.Md P w K mg base "Note" c.Note 1 (spNote c) := T.k_Note.md fun f fd F => by
  have S := sc_Note
  have cS := T.c_Note
  refine F.ok S (fun vs H Q E h => ?_) (fun cdv A outer s H vs Q E hr h => ?_)
  · obtain ⟨p, dx, g, a, n, o, rfl, _⟩ := h
    rfl
  · obtain ⟨p, dx, g, a, n, o, rfl, hp, k⟩ := h
    wtm_at "INIT"
    iterate 7 wtm_at "GO"
    simp only [upd_upd]
    exact k
def spTold (c : Cs) : Sp := fun vs H Q _ => ∃ (p dx : Addr), vs = [.ref p] ∧ H p = some (.ins c.Told dx []) ∧ ∀ q, H q = none → Q .non (upd (upd H q (.lst [])) p (.ins c.Told dx (tldF q none)))
theorem md_told (T : Txt K mg c) : G.Md P w K mg base "Told" c.Told 1 (spTold c) := T.k_Told.md fun f fd F => by
  have S := sc_Told
  have cS := T.c_Told
  refine F.ok S (fun vs H Q E h => ?_) (fun cdv A outer s H vs Q E hr h => ?_)
  · obtain ⟨p, dx, rfl, _⟩ := h
    rfl
  · obtain ⟨p, dx, rfl, hp, k⟩ := h
    wtm_at "INIT"
    wtm_at "GO"
    refine G.s_fldX (G.lst_new G.eva_nil (Nat.zero_le _) fun q hq => ?_)
    have hp1 : upd H q (.lst []) p = some (.ins c.Told dx []) := by rw [upd_ne (ne_of_none hp hq)]; exact hp
    wtm_at "GO"
    wtm_at "GO"
    rw [upd_upd]
    exact k q hq
end
section
variable {P : Program} {w : World} {K : PySem.W.Frag} {mg : Str → Option Value} {base : Heap} {c : Cs}
open Kct7 (Phase Pair Abs less seen levelOf silenced)
/-! ### those_not_in -/
def spNotIn : Sp := fun vs H Q _ => ∃ (a b : Addr) (l m : List Pair) (τ : Tg), vs = [.ref a, .ref b] ∧ Wf H τ ∧ PairsAt (im H τ) a l ∧ PairsAt (im H τ) b m ∧ l.length ≤ 2048 ∧ m.length ≤ 2048 ∧
  ∀ H' q, Same H H' → PairsAt (im H' τ) q (less l m) → Q (.ref q) H'
theorem fd_notin (T : Txt K mg c) : G.Fd P w K mg base "those_not_in" 1 spNotIn := T.d_those_not_in.fd fun f fd F => by
  have S := sc_those_not_in
  refine F.ok S (fun vs H Q E h => ?_) (fun cdv A outer s H vs Q E hr h => ?_)
  · obtain ⟨a, b, l, m, τ, rfl, _⟩ := h
    rfl
  · obtain ⟨a, b, l, m, τ, rfl, wf, ⟨xs, hxs, pxs⟩, ⟨ys, hys, pys⟩, hl, hm, k⟩ := h
    have hu := hu_of hr
    wtm_at "INIT"
    wtm_at "GO"
    refine G.s_setE (fun ld hld => ?_)
    dsimp only [List.set]
    wtm_at "GO"
    have sm0 : Same H (upd H ld (.dT [])) := same_new hld
    refine G.s_for (xs := ys) (a := b) (fun n σ H' => ∃ v3 kvs, σ = [some (.ref a), some (.ref b), some (.ref ld), v3] ∧ Same H H' ∧ H' ld = some (.dT kvs) ∧ kvs.length ≤ n ∧ ∀ i j : Nat, (valV kvs (key i j)).isSome = decide ((i, j) ∈ m.take n))
      (by wtm_at "EV") (fun n σ H' _ ⟨_, _, _, sm, _⟩ => SqL.of (sm _ _ (im_at hys))) ⟨none, [], rfl, sm0, upd_same, Nat.le_refl _, fun i j => by rw [List.take_zero]; rfl⟩ ?_ ?_
    · rintro n x σ H1 hx ⟨v3, kvs, rfl, sm, hk, hlen, hv⟩
      obtain ⟨p, hp, q, rfl, hq⟩ := paired_get pys hx
      have hq1 := sm _ _ (im_at hq)
      have hn : n < m.length := (List.getElem?_eq_some_iff.mp hp).1
      refine G.s_dputT (k := key p.1 p.2) (by wtm_at "EV") (by wtm_at "EV") (by wtm_at "EV") hk hq1 (Nat.lt_of_le_of_lt hlen (Nat.lt_trans hn (Nat.lt_of_le_of_lt hm (by decide)))) ?_
      refine ⟨_, _, rfl, fun b' ob e => by rw [upd_ne (ne_of_none e hld)]; exact sm b' ob e, upd_same, Nat.le_trans (length_putK _ _ _) (by omega), fun i j => ?_⟩
      rw [valV_put, List.take_add_one, hp]
      by_cases hk2 : key i j = key p.1 p.2
      · obtain ⟨z1, z2⟩ := key_inj hk2
        rw [if_pos hk2]
        subst z1 z2
        exact (decide_eq_true (List.mem_append_right _ (List.mem_singleton.mpr rfl))).symm
      · rw [if_neg hk2, hv i j]
        have e : (i, j) ∈ m.take n ++ (some p).toList ↔ (i, j) ∈ m.take n := by
          rw [List.mem_append]
          refine ⟨fun z => ?_, .inl⟩
          rcases z with z | z
          · exact z
          · have z : (i, j) = p := by simpa using z
            exact absurd (by rw [← z]) hk2
        rw [decide_eq_decide]
        exact e.symm
    · rintro σ H1 ⟨v3, kvs, rfl, sm, hk, hlen, hv⟩
      have hv : ∀ i j : Nat, (valV kvs (key i j)).isSome = decide ((i, j) ∈ m) := fun i j => by
        rw [hv i j, List.take_of_length_le (by rw [Paired.length pys]; exact Nat.le_refl _)]
      have im1 := im_same (τ := τ) sm
      dsimp only
      refine G.s_ret (G.lc_par (R := PairAt (im H1 τ)) (R' := PairAt (im H1 τ)) (ys := l) (xs := xs) (fun p => !m.contains p) (by wtm_at "EV") (SqL.of (im_at (im1 _ _ hxs))) (L2.Paired.mapP pxs fun _ _ z => z.mono im1) (by rw [Paired.length pxs]; exact Nat.lt_of_le_of_lt hl (by decide)) (fun _ => by rfl) ?_ ?_)
      · rintro Dd acc x p hD ⟨q, rfl, hq⟩ _
        have s2 : Same H1 (upd H1 Dd (.lst acc)) := same_new hD
        refine ⟨?_, fun _ => ⟨.ref q, ⟨q, rfl, hq⟩, by wtm_at "EV"⟩⟩
        have e : (!m.contains p) = !(valV kvs (key p.1 p.2)).isSome := by
          rw [hv]
          congr 1
          rw [Bool.eq_iff_iff]
          simp
        rw [e]
        exact G.evt_tB (G.ev_dnotinT (k := key p.1 p.2) (by wtm_at "EV") (by wtm_at "EV") (s2 _ _ hk) (s2 _ _ (im_at hq)))
      · intro Dd zs hD pz
        have s2 : Same H1 (upd H1 Dd (.lst zs)) := same_new hD
        refine k _ Dd (sm.trans s2) ⟨zs, im_iff.mpr ⟨upd_same, (wf.same sm).none hD⟩, ?_⟩
        exact L2.Paired.mapP pz fun _ _ z => z.mono (im_same s2)
def spSilNow (c : Cs) : Sp := fun vs H Q _ => ∃ (st : Addr) (s : Abs) (τ : Tg) (d : Ad), vs = [.ref st] ∧ Own c H st s τ d ∧ Mth.Ok s ∧
  ∀ H' a kvs, Same H H' → H a = none → im H' τ a = some (.dT kvs) → (∀ i j : Nat, (valV kvs (key i j)).isSome = decide ((i, j) ∈ Mth.zKeys s s.now s.silences.length)) → Q (.ref a) H'
theorem fd_silnow (T : Txt K mg c) : G.Fd P w K mg base "silenced_now" 1 (spSilNow c) := T.d_silenced_now.fd fun f fd F => by
  have S := sc_silenced_now
  have cZ := T.c_Silence
  have cT := T.c_State
  refine F.ok S (fun vs H Q E h => ?_) (fun cdv A outer s H vs Q E hr h => ?_)
  · obtain ⟨st, s, τ, d, rfl, _⟩ := h
    rfl
  · obtain ⟨st, s, τ, d, rfl, o, ok, k⟩ := h
    have hu := hu_of hr
    wtm_at "INIT"
    wtm_at "GO"
    refine G.s_setE (fun ld hld => ?_)
    dsimp only [List.set]
    wtm_at "GO"
    have sm0 : Same H (upd H ld (.dT [])) := same_new hld
    have e0 := sm0 _ _ o.sO
    refine G.s_for (xs := d.za.map V.ref) (a := d.aZ) (fun n σ H' => ∃ v2 kvs, σ = [some (.ref st), some (.ref ld), v2] ∧ Same H H' ∧ H' ld = some (.dT kvs) ∧ kvs.length ≤ n ∧ ∀ i j : Nat, (valV kvs (key i j)).isSome = decide ((i, j) ∈ Mth.zKeys s s.now n))
      (by wtm_at "EV") (fun n σ H' _ ⟨_, _, _, sm, _⟩ => SqL.of (sm _ _ o.zL)) ⟨none, [], rfl, sm0, upd_same, Nat.le_refl _, fun i j => rfl⟩ ?_ ?_
    · rintro n x σ H1 hx ⟨v2, kvs, rfl, sm, hk, hlen, hv⟩
      have o1 := o.same sm
      have e1 := o1.sO
      obtain ⟨az, oz, rfl, haz, hz, hZ⟩ := o1.sil hx
      obtain ⟨dz, z, tz, hzH, hzy⟩ := hZ
      have hn : n < s.silences.length := (List.getElem?_eq_some_iff.mp hz).1
      have hsucc := Mth.zKeys_succ (t := s.now) hz
      show tIfS _ _ _ _ _ _
      have keep : (oz = none ∨ Mth.zActive s.now z = false) → ∀ i j : Nat, (valV kvs (key i j)).isSome = decide ((i, j) ∈ Mth.zKeys s s.now (n + 1)) := fun hno i j => by
        rw [hsucc, hv i j]
        have : Mth.zOne s.now oz = [] := by
          cases oz with
          | none => rfl
          | some y =>
            rcases hno with hno | hno
            · cases hno
            · rw [← hzy y rfl] at hno
              show (if Mth.zActive s.now y = true then [(y.rule, y.group)] else []) = []
              rw [hno]; rfl
        rw [this, List.append_nil]
      refine G.s_if (by wtm_at "EVT") (fun hc => ?_) (fun hc => ?_)
      · simp only [Bool.and_eq_true, Bool.not_eq_true', decide_eq_true_eq] at hc
        obtain ⟨hc1, hc2, hc3⟩ := hc
        have hoz : oz = some z := by
          cases oz with
          | none => cases hc1
          | some y => rw [hzy y rfl]
        have hact : Mth.zActive s.now z = true := by
          unfold Mth.zActive
          simp only [Bool.and_eq_true, decide_eq_true_eq]
          omega
        refine G.s_dputN (k := key z.rule z.group) (by wtm_at "EV") (by wtm_at "EV") (by wtm_at "EVA") (by show 2 ≤ sizeLine; decide) rfl hk (Nat.lt_of_le_of_lt hlen (Nat.lt_trans hn (Nat.lt_of_le_of_lt ok.nz (by decide)))) fun p hp => ?_
        have sp : Same H (upd H1 p (.tup [.int (z.rule : Nat), .int (z.group : Nat)])) := sm.trans (same_new hp)
        refine ⟨_, _, rfl, fun b ob e => by rw [upd_ne (ne_of_none e hld)]; exact sp b ob e, upd_same, Nat.le_trans (length_putK _ _ _) (by omega), fun i j => ?_⟩
        have hone : Mth.zOne s.now oz = [(z.rule, z.group)] := by
          rw [hoz]
          show (if Mth.zActive s.now z = true then [(z.rule, z.group)] else []) = _
          rw [if_pos hact]
        rw [valV_put, hsucc, hone]
        by_cases hk2 : key i j = key z.rule z.group
        · obtain ⟨z1, z2⟩ := key_inj hk2
          rw [if_pos hk2, z1, z2]
          exact (decide_eq_true (List.mem_append_right _ (List.mem_singleton.mpr rfl))).symm
        · rw [if_neg hk2, hv i j, decide_eq_decide, List.mem_append]
          refine ⟨.inl, fun y => ?_⟩
          rcases y with y | y
          · exact y
          · obtain ⟨y1, y2⟩ := Prod.mk.inj (List.mem_singleton.mp y)
            exact absurd (by rw [y1, y2]) hk2
      · wtm_at "GO"
        refine ⟨_, kvs, rfl, sm, hk, Nat.le_succ_of_le hlen, keep ?_⟩
        cases oz with
        | none => exact .inl rfl
        | some y =>
          refine .inr ?_
          have hc : ¬ ((z.from_ : Int) ≤ (s.now : Int) ∧ (s.now : Int) < (z.till : Int)) := fun q => by
            rw [decide_eq_true q.1, decide_eq_true q.2] at hc
            cases hc
          unfold Mth.zActive
          rw [Bool.and_eq_false_iff, decide_eq_false_iff_not, decide_eq_false_iff_not]
          omega
    · rintro σ H1 ⟨v2, kvs, rfl, sm, hk, hlen, hv⟩
      rw [List.length_map, o.zN] at hv
      wtm_at "GO"
      exact k H1 ld kvs sm hld (im_iff.mpr ⟨hk, o.wf.none hld⟩) hv
end
section
variable {P : Program} {w : World} {K : PySem.W.Frag} {mg : Str → Option Value} {base : Heap} {c : Cs}
open Kct7 (Phase Pair Abs less seen levelOf silenced)
/-! ### is_silenced, silenced_now -/
def spIsSil : Sp := fun vs H Q _ => ∃ (d : Addr) (kvs : List (List Key × V)) (r g : Nat) (zk : List Pair), vs = [.ref d, .int (r : Nat), .int (g : Nat)] ∧ H d = some (.dT kvs) ∧ (∀ i j : Nat, (valV kvs (key i j)).isSome = decide ((i, j) ∈ zk)) ∧
  ∀ H', Same H H' → Q (.bl ((decide ((r, g) ∈ zk) || decide ((r, 255) ∈ zk)) || (decide ((255, g) ∈ zk) || decide ((255, 255) ∈ zk)))) H'
theorem fd_issil (T : Txt K mg c) : G.Fd P w K mg base "is_silenced" 1 spIsSil := T.d_is_silenced.fd fun f fd F => by
  have S := sc_is_silenced
  have n1 := T.v_ANY
  refine F.ok S (fun vs H Q E h => ?_) (fun cdv A outer s H vs Q E hr h => ?_)
  · obtain ⟨d, kvs, r, g, zk, rfl, _⟩ := h
    rfl
  · obtain ⟨d, kvs, r, g, zk, rfl, hd, hv, k⟩ := h
    have hu := hu_of hr
    wtm_at "INIT"
    wtm_at "GO"
    refine G.s_or (G.tb_din2 (by wtm_at "EV") (by wtm_at "EV") (fun p hp => by wtm_at "EV") hd fun p1 hp1 => ?_) (by wtm_at "MONO")
    rw [show valV kvs [.inl (r : Int), .inl (g : Int)] = valV kvs (key r g) from rfl, hv]
    have s1 : Same H (upd H p1 (.tup [.int (r : Nat), .int (g : Nat)])) := same_new hp1
    have hd1 := s1 _ _ hd
    generalize upd H p1 (.tup [.int (r : Nat), .int (g : Nat)]) = H1 at s1 hd1 ⊢
    refine ⟨fun h1 => ?_, fun h1 => ?_⟩
    · wtm_at "GO"
      have := k H1 s1
      rw [h1] at this
      exact this
    · refine G.tb_din2 (by wtm_at "EV") (by wtm_at "EV") (fun p hp => by wtm_at "EV") hd1 fun p2 hp2 => ?_
      rw [show valV kvs [.inl (r : Int), .inl (255 : Int)] = valV kvs (key r 255) from rfl, hv]
      have s2 : Same H1 (upd H1 p2 (.tup [.int (r : Nat), .int 255])) := same_new hp2
      have hd2 := s2 _ _ hd1
      have s12 := s1.trans s2
      generalize upd H1 p2 (.tup [.int (r : Nat), .int 255]) = H2 at s2 hd2 s12 ⊢
      refine L2.ite2 (fun h2 => ?_) (fun h2 => ?_)
      · wtm_at "GO"
        have := k H2 s12
        rw [h2, Bool.or_true] at this
        exact this
      · wtm_at "GO"
        refine G.s_ret (G.orV (G.din_tup2 (by wtm_at "EV") (by wtm_at "EV") (fun p hp => by wtm_at "EV") hd2 fun p3 hp3 => ⟨_, rfl, ?_⟩) (by wtm_at "MONO"))
        rw [show valV kvs [.inl (255 : Int), .inl (g : Int)] = valV kvs (key 255 g) from rfl, hv]
        have s3 : Same H2 (upd H2 p3 (.tup [.int 255, .int (g : Nat)])) := same_new hp3
        have hd3 := s3 _ _ hd2
        have s13 := s12.trans s3
        generalize upd H2 p3 (.tup [.int 255, .int (g : Nat)]) = H3 at s3 hd3 s13 ⊢
        refine ⟨fun h3 => ?_, fun h3 => ?_⟩
        · have := k H3 s13
          rw [h3, Bool.true_or, Bool.or_true] at this
          exact this
        · refine G.din_tup2 (by wtm_at "EV") (by wtm_at "EV") (fun p hp => by wtm_at "EV") hd3 fun p4 hp4 => ?_
          rw [show valV kvs [.inl (255 : Int), .inl (255 : Int)] = valV kvs (key 255 255) from rfl, hv]
          have := k _ (s13.trans (same_new (o := .tup [.int 255, .int 255]) hp4))
          rw [h1, Bool.eq_false_iff.mpr h2, h3, Bool.false_or, Bool.false_or] at this
          exact this
end
section
variable {P : Program} {w : World} {K : PySem.W.Frag} {mg : Str → Option Value} {base : Heap} {c : Cs}
open Kct7 (Phase Pair Abs less seen levelOf silenced)
/-! ### gravest -/
def top_ (s : Abs) (l : List Pair) : List Pair := l.filter fun x => !(l.any fun y => decide (levelOf s x < levelOf s y))
def spGrav (c : Cs) : Sp := fun vs H Q _ => ∃ (st : Addr) (s : Abs) (τ : Tg) (d : Ad) (a : Addr) (l : List Pair), vs = [.ref d.aR, .ref a] ∧ Own c H st s τ d ∧ PairsAt (im H τ) a l ∧ l.length ≤ 2048 ∧ (∀ x ∈ l, x.1 < s.rules.length) ∧
  ∀ H' q, Same H H' → PairsAt (im H' τ) q (top_ s l) → Q (.ref q) H'
theorem fd_grav (T : Txt K mg c) : G.Fd P w K mg base "gravest" 1 (spGrav c) := T.d_gravest.fd fun f fd F => by
  have S := sc_gravest
  have cR := T.c_Rule
  have bm := T.b_max
  refine F.ok S (fun vs H Q E h => ?_) (fun cdv A outer s H vs Q E hr h => ?_)
  · obtain ⟨st, s, τ, d, a, l, rfl, _⟩ := h
    rfl
  · obtain ⟨st, s, τ, d, a, l, rfl, o, ⟨xs, hxs, pxs⟩, hl, hin, k⟩ := h
    wtm_at "INIT"
    wtm_at "GO"
    -- the level of a pair's rule, read
    have lev : ∀ (H1 : Hp) (σ : L2.St) (p : Pair) (q : Addr), Same H H1 → σ[0]? = some (some (.ref d.aR)) → σ[3]? = some (some (.ref q)) → H1 q = some (.tup [.int (p.1 : Nat), .int (p.2 : Nat)]) → p ∈ l →
        G.Ev (tFld K (tOp (G.rIxA K) (tVar 0) (tOp (G.rIxA K) (tVar 3) (tC (.int 0)))) "level") σ H1 (.int (levelOf s p : Nat)) := by
      intro H1 σ p q sm e0 e3 hq hp
      have o1 := o.same sm
      have hlt := hin p hp
      obtain ⟨r, hr1⟩ : ∃ r, s.rules[p.1]? = some r := ⟨s.rules[p.1], List.getElem?_eq_getElem hlt⟩
      obtain ⟨ar, har⟩ := two_of o1.rN hr1
      obtain ⟨dx, u, hR, _⟩ := o1.rA _ _ _ hr1 har
      have el : levelOf s p = r.level := by unfold levelOf; rw [hr1]; rfl
      rw [el]
      exact G.ev_fld (G.ev_ixAL (G.ev_var e0) (G.ev_ixAT (j := 0) (G.ev_var e3) G.ev_c (SqT.of hq) rfl rfl) (SqL.of o1.rL) rfl (at_ref har)) (im_at hR) cR rfl rfl
    refine G.s_setE (G.maxD (G.lc_par (R := PairAt (im H τ)) (R' := fun z y => z = .int (levelOf s y : Nat)) (ys := l) (xs := xs) (fun _ => true) (by wtm_at "EV") (SqL.of (im_at hxs)) pxs (by rw [Paired.length pxs]; exact Nat.lt_of_le_of_lt hl (by decide)) (fun _ => by rfl) ?_ ?_))
    · rintro Dd acc x p hD ⟨q, rfl, hq⟩ hp
      have s2 : Same H (upd H Dd (.lst acc)) := same_new hD
      exact ⟨fun _ z => z, fun _ => ⟨_, rfl, lev _ _ p q s2 rfl rfl (s2 _ _ (im_at hq)) hp⟩⟩
    · intro Dd zs hD pz
      have ezs : zs = (l.map fun y => (levelOf s y : Int)).map V.int := by
        rw [List.filter_eq_self.mpr (fun _ _ => rfl)] at pz
        clear k hin hl pxs lev
        induction pz with
        | nil => rfl
        | cons r _ ih => rw [List.map_cons, List.map_cons, r, ih]
      subst ezs
      have s2 : Same H (upd H Dd (.lst ((l.map fun y => (levelOf s y : Int)).map V.int))) := same_new hD
      have nD : τ Dd = none := o.wf.none hD
      have hD2 : upd H Dd (.lst ((l.map fun y => (levelOf s y : Int)).map V.int)) Dd = some (.lst ((l.map fun y => (levelOf s y : Int)).map V.int)) := upd_same
      generalize upd H Dd (.lst ((l.map fun y => (levelOf s y : Int)).map V.int)) = H2 at s2 hD2 ⊢
      have fin : ∀ top : Nat, (l ≠ [] → ∃ x ∈ l, levelOf s x = top) → (∀ x ∈ l, levelOf s x ≤ top) →
          tRet (tLc (iList K (tVar 1)) (gName 3) (tTest (tOp rEq (tFld K (tOp (G.rIxA K) (tVar 0) (tOp (G.rIxA K) (tVar 3) (tC (.int 0)))) "level") (tVar 2))) (tVar 3) [3]) { nx := fun _ H' => Q V.non H', rt := Q } [some (.ref d.aR), some (.ref a), some (.int (top : Nat)), none] H2 := by
        intro top t1 t2
        have im2 := im_same (τ := τ) s2
        refine G.s_ret (G.lc_par (R := PairAt (im H2 τ)) (R' := PairAt (im H2 τ)) (ys := l) (xs := xs) (fun p => decide (levelOf s p = top)) (by wtm_at "EV") (SqL.of (im_at (im2 _ _ hxs))) (L2.Paired.mapP pxs fun _ _ z => z.mono im2) (by rw [Paired.length pxs]; exact Nat.lt_of_le_of_lt hl (by decide)) (fun _ => by rfl) ?_ ?_)
        · rintro D3 acc x p hD3 ⟨q, rfl, hq⟩ hp
          have s3 : Same H2 (upd H2 D3 (.lst acc)) := same_new hD3
          refine ⟨?_, fun _ => ⟨.ref q, ⟨q, rfl, hq⟩, by wtm_at "EV"⟩⟩
          have e : decide (levelOf s p = top) = decide ((levelOf s p : Int) = (top : Int)) := by
            rw [decide_eq_decide]; omega
          rw [e]
          exact G.evt_test (G.ev_eqI (lev _ _ p q (s2.trans s3) rfl rfl (s3 _ _ (im_at hq)) hp) (by wtm_at "EV"))
        · intro D3 zs hD3 pz
          have s3 : Same H2 (upd H2 D3 (.lst zs)) := same_new hD3
          refine k _ D3 (s2.trans s3) ⟨zs, im_iff.mpr ⟨upd_same, (o.wf.same s2).none hD3⟩, ?_⟩
          unfold top_
          rw [Mth.gravest_eq s l top t1 t2]
          exact L2.Paired.mapP pz fun _ _ z => z.mono (im_same s3)
      refine ⟨Dd, l.map fun y => (levelOf s y : Int), rfl, SqL.of hD2, fun e => ?_, fun m hm1 hm2 => ?_⟩
      · have e : l = [] := List.map_eq_nil_iff.mp e
        exact fin 0 (fun z => absurd e z) (fun x hx => by rw [e] at hx; cases hx)
      · obtain ⟨y, hy, rfl⟩ := List.mem_map.mp hm1
        refine fin (levelOf s y) (fun _ => ⟨y, hy, rfl⟩) fun x hx => ?_
        have := hm2 _ (List.mem_map.mpr ⟨x, hx, rfl⟩)
        omega
end
section
variable {P : Program} {w : World} {K : PySem.W.Frag} {mg : Str → Option Value} {base : Heap} {c : Cs}
open Kct7 (Phase Pair Abs less seen levelOf silenced isFiring)
def spUnsil (c : Cs) : Sp := fun vs H Q _ => ∃ (st : Addr) (s : Abs) (τ : Tg) (d : Ad) (kvs : List (List Key × V)), vs = [.ref st] ∧ Own c H st s τ d ∧ Mth.Ok s ∧ im H τ d.aK = some (.dT kvs) ∧ KList (im H τ) s.phase kvs (Mth.inAll s.phase s.rules.length s.series.length) ∧
  ∀ H' a (gs : List Addr), Same H H' → im H' τ a = some (.lst (gs.map .ref)) → gs.length = 16 → (∀ (g : Nat) b, gs[g]? = some b → PairsAt (im H' τ) b ((Mth.inAll s.phase s.rules.length s.series.length).filter (Mth.open_ s s.phase s.now g))) → Q (.ref a) H'
theorem phT_fires {P : Phase} (h : P ≠ .quiet) : ∃ x y, phT P = [.int x, y] ∧ decide (x = 2) = isFiring P := by
  cases P with
  | quiet => exact absurd rfl h
  | holds a => exact ⟨1, _, rfl, rfl⟩
  | fires a => exact ⟨2, _, rfl, rfl⟩
theorem fd_unsil (T : Txt K mg c) : G.Fd P w K mg base "unsilenced_by_group" 2 (spUnsil c) := T.d_unsilenced_by_group.fd fun f fd F => by
  have S := sc_unsilenced_by_group
  have cS := T.c_Series
  have cT := T.c_State
  have n1 := T.v_FIRES
  have f1 : G.Fd P w K mg base "silenced_now" 1 (spSilNow c) := fd_silnow T
  have f2 : G.Fd P w K mg base "is_silenced" 1 spIsSil := fd_issil T
  refine F.ok S (fun vs H Q E h => ?_) (fun cdv A outer s H vs Q E hr h => ?_)
  · obtain ⟨st, s, τ, d, kvs, rfl, _⟩ := h
    rfl
  · obtain ⟨st, s, τ, d, kvs, rfl, o, ok, hK, kl, k⟩ := h
    have hu := hu_of hr
    wtm_at "INIT"
    wtm_at "GO"
    refine G.s_setE (G.call_ (by wtm_at "EVA") ⟨st, s, τ, d, rfl, o, ok, fun H1 z zk sm1 hz hzk hzv => ?_⟩)
    dsimp only [List.set]
    wtm_at "GO"
    have o1 := o.same sm1
    have e1 := o1.sO
    refine G.s_setE (G.lc_news (by wtm_at "EV") (SqL.of (im_at o1.tL)) (by rw [List.length_map, o1.tN]; decide) (fun _ => by rfl) fun ga gl H2 sm2 hga hga2 hgl nd hgs => ?_)
    rw [List.length_map, o1.tN] at hgl
    dsimp only [List.set]
    wtm_at "GO"
    have sm02 := sm1.trans sm2
    have o2 := o.same sm02
    have e2 := o2.sO
    have hK2 := im_at (im_same (τ := τ) sm02 _ _ hK)
    have hKH := im_at hK
    have hKt := im_tag hK
    have hz2 := sm2 _ _ (im_at hzk)
    have nst : st ≠ d.aK := ne_of o.sO hKH (fun q => nomatch q)
    have nser : d.aS ≠ d.aK := ne_of o.eL hKH (fun q => nomatch q)
    have nz : z ≠ d.aK := fun q => by rw [q, hKH] at hz; cases hz
    have nga : ga ≠ d.aK := fun q => by rw [q, sm1 _ _ hKH] at hga; cases hga
    have nzga : z ≠ ga := fun q => by rw [← q, im_at hzk] at hga; cases hga
    have ngs : ∀ g ∈ gl, g ≠ d.aK ∧ g ≠ z ∧ H g = none ∧ g ≠ ga := fun g hg => by
      obtain ⟨z1, z2, z3⟩ := hgs g hg
      exact ⟨(fun q => by rw [q, sm1 _ _ hKH] at z1; cases z1), (fun q => by rw [q, im_at hzk] at z1; cases z1), sm1.free z1, z3⟩
    generalize hps : Mth.inAll s.phase s.rules.length s.series.length = ps at kl k
    have hmem : ∀ p ∈ ps, p.1 < s.rules.length ∧ p.2 < s.series.length ∧ s.phase p.1 p.2 ≠ .quiet := fun p hp => by
      rw [← hps] at hp
      exact Mth.mem_inAll.mp hp
    have hlenps : ps.length ≤ 2048 := by
      rw [← hps]
      refine Nat.le_trans (Mth.inAll_len _ _ _) ?_
      exact Nat.mul_le_mul ok.nr ok.ns
    refine G.s_itemsT (kvs := kvs) (d := d.aK) (fun od n σ H' => ∃ v3 v4 v5, σ = [some (.ref st), some (.ref z), some (.ref ga), v3, v4, v5, none] ∧ (∀ b x, H b = some x → b ≠ d.aK → H' b = some x) ∧ H' d.aK = some (.frz od (.dT kvs)) ∧ H' z = some (.dT zk) ∧
        H' ga = some (.lst (gl.map .ref)) ∧ ∀ (g : Nat) b, gl[g]? = some b → ∃ vs, H' b = some (.lst vs) ∧ Paired (PairAt H') vs ((ps.take n).filter (Mth.open_ s s.phase s.now g)) ∧ vs.length ≤ n)
      hK2 (fun od => ?_) (fun od => ?_) (fun od n σ H' ⟨_, _, _, _, _, q, _⟩ => q) ?_ ?_
    · have e3 : upd H2 d.aK (.frz od (.dT kvs)) st = some (.ins c.State d.dx (stF s.wait s.again s.now d)) := by rw [upd_ne nst]; exact e2
      wtm_at "EV"
    · refine ⟨none, none, none, rfl, fun b x e n => by rw [upd_ne n]; exact sm02 b x e, upd_same, by rw [upd_ne nz]; exact hz2, by rw [upd_ne nga]; exact hga2, fun g b hb => ?_⟩
      have hbg := hgs b (List.mem_of_getElem? hb)
      refine ⟨[], by rw [upd_ne (ngs b (List.mem_of_getElem? hb)).1]; exact hbg.2.1, ?_, Nat.le_refl _⟩
      rw [List.take_zero]
      exact .nil
    · rintro od n kk v σ H3 T1 q hkv ⟨v3, v4, v5, rfl, kp, hk3, hz3, hga3, hg3⟩ hq hT1 D' hD'
      obtain ⟨p, hp, ek, t, ev, ht⟩ := paired_get kl hkv
      dsimp only at ek ev
      subst ek ev
      obtain ⟨hp1, hp2, hp3⟩ := hmem p (List.mem_of_getElem? hp)
      obtain ⟨x, hx⟩ : ∃ x, s.series[p.2]? = some x := ⟨s.series[p.2], List.getElem?_eq_getElem hp2⟩
      obtain ⟨as, has⟩ := two_of o.eN hx
      obtain ⟨dy, tt, mm, hSer, _⟩ := o.eA _ _ _ hx has
      have hSerH := im_at hSer
      have nas : as ≠ d.aK := ne_of hSerH hKH (fun q => nomatch q)
      have ntt : t ≠ d.aK := ne_of (im_at ht) hKH (fun q => nomatch q)
      have okx := ok.ser x (List.mem_of_getElem? hx)
      have sT : Same H3 (upd H3 T1 (.tup [.ref q, .ref t])) := same_new hT1
      have kp4 : ∀ b x, H b = some x → b ≠ d.aK → upd H3 T1 (.tup [.ref q, .ref t]) b = some x := fun b x e n => sT _ _ (kp b x e n)
      have hk4 := sT _ _ hk3
      have hz4 := sT _ _ hz3
      have hga4 := sT _ _ hga3
      have hq4 := sT _ _ hq
      have hg4 : ∀ (g : Nat) b, gl[g]? = some b → ∃ vs, upd H3 T1 (.tup [.ref q, .ref t]) b = some (.lst vs) ∧ Paired (PairAt (upd H3 T1 (.tup [.ref q, .ref t]))) vs ((ps.take n).filter (Mth.open_ s s.phase s.now g)) ∧ vs.length ≤ n := fun g b hb => by
        obtain ⟨vs, z1, z2, z3⟩ := hg3 g b hb
        exact ⟨vs, sT _ _ z1, L2.Paired.mapP z2 fun _ _ y => y.mono sT, z3⟩
      generalize upd H3 T1 (.tup [.ref q, .ref t]) = H4 at kp4 hk4 hz4 hga4 hq4 hg4 ⊢
      clear hk3 hz3 hga3 hq hg3 kp sT hT1
      have e4 := kp4 _ _ o.sO nst
      have eL4 := kp4 _ _ o.eL nser
      have eS4 := kp4 _ _ hSerH nas
      have et4 := kp4 _ _ (im_at ht) ntt
      dsimp only [List.set]
      wtm_at "GO"
      refine G.s_set (v := .int (x.group : Nat)) (G.ev_fld (G.ev_ixAL (by wtm_at "EV") (G.ev_ixAT (j := 1) (by wtm_at "EV") (by wtm_at "EV") (SqT.of hq4) rfl rfl) (SqL.of eL4) rfl (at_ref has)) eS4 cS rfl rfl) ?_
      dsimp only [List.set]
      obtain ⟨p1, p2, eph, efire⟩ := phT_fires hp3
      rw [eph] at et4
      have etk : ps.take (n + 1) = ps.take n ++ [p] := by rw [List.take_add_one, hp]; rfl
      have hgx : x.group < gl.length := by rw [hgl]; exact okx.grp
      -- a turn at which nothing is put down
      have skip : ∀ (H5 : Hp), Same H4 H5 → (isFiring (s.phase p.1 p.2) = false ∨ silenced s s.now x.group p = true) → D'.nx [some (.ref st), some (.ref z), some (.ref ga), some (.ref q), some (.ref t), some (.int (x.group : Nat)), none] H5 := by
        intro H5 s5 hno
        rw [hD']
        refine ⟨_, _, _, rfl, fun b y e ne => s5 _ _ (kp4 b y e ne), s5 _ _ hk4, s5 _ _ hz4, s5 _ _ hga4, fun g b hb => ?_⟩
        obtain ⟨vs, z1, z2, z3⟩ := hg4 g b hb
        refine ⟨vs, s5 _ _ z1, ?_, Nat.le_succ_of_le z3⟩
        have hop : Mth.open_ s s.phase s.now g p = false := by
          unfold Mth.open_
          rw [hx]
          by_cases hgg : x.group = g
          · subst hgg
            rcases hno with hno | hno
            · rw [hno]; rfl
            · rw [hno, Bool.not_true, Bool.and_false]
          · have : ((some x).any fun y => y.group == g) = false := by simp [hgg]
            rw [this, Bool.and_false, Bool.false_and]
        rw [etk, List.filter_append, List.filter_cons, if_neg (by rw [hop]; exact Bool.false_ne_true), List.filter_nil, List.append_nil]
        exact L2.Paired.mapP z2 fun _ _ y => y.mono s5
      refine G.s_andL (b := decide (p1 = 2)) (G.evt_test (G.ev_eqI (G.ev_ixAT (j := 0) (by wtm_at "EV") (by wtm_at "EV") (SqT.of et4) rfl rfl) (by wtm_at "EV"))) (fun hf => ?_) (fun hf => ?_)
      · rw [efire] at hf
        refine G.s_notcall (G.eva_cons (by wtm_at "EV") (G.eva_cons (G.ev_ixAT (j := 0) (by wtm_at "EV") (by wtm_at "EV") (SqT.of hq4) rfl rfl) (by wtm_at "EVA"))) ⟨z, zk, p.1, x.group, _, rfl, hz4, hzv, fun H5 s5 => ⟨_, rfl, ?_⟩⟩
        rw [← Mth.silenced_eq s s.now x.group p.1 p.2]
        refine L2.ite2 (fun hs => ?_) (fun hs => ?_)
        · have hs : silenced s s.now x.group p = false := by simpa using hs
          obtain ⟨b, hb⟩ : ∃ b, gl[x.group]? = some b := ⟨gl[x.group], List.getElem?_eq_getElem hgx⟩
          obtain ⟨vs, y1, y2, y3⟩ := hg4 _ _ hb
          have hbm := ngs b (List.mem_of_getElem? hb)
          have y15 := s5 _ _ y1
          refine G.s_app (G.ev_ixAL (by wtm_at "EV") (by wtm_at "EV") (SqL.of (s5 _ _ hga4)) rfl (at_ref hb)) (by wtm_at "EV") y15 (Nat.lt_of_le_of_lt y3 (Nat.lt_trans (List.getElem?_eq_some_iff.mp hp).1 (Nat.lt_of_le_of_lt hlenps (by decide)))) ?_
          have up : ∀ b' y, H5 b' = some y → b' ≠ b → upd H5 b (.lst (vs ++ [.ref q])) b' = some y := fun b' y e ne => by rw [upd_ne ne]; exact e
          have upT : ∀ b' ys, H5 b' = some (.tup ys) → upd H5 b (.lst (vs ++ [.ref q])) b' = some (.tup ys) := fun b' ys e => up _ _ e (ne_of e y15 (fun q => nomatch q))
          rw [hD']
          refine ⟨_, _, _, rfl, fun b' y e ne => up _ _ (s5 _ _ (kp4 b' y e ne)) (fun z => by rw [z, hbm.2.2.1] at e; cases e), up _ _ (s5 _ _ hk4) (Ne.symm hbm.1), up _ _ (s5 _ _ hz4) (Ne.symm hbm.2.1), up _ _ (s5 _ _ hga4) (Ne.symm hbm.2.2.2), fun g b' hb' => ?_⟩
          by_cases hgg : x.group = g
          · subst hgg
            have eb : b' = b := Option.some.inj (hb'.symm.trans hb)
            subst eb
            refine ⟨_, upd_same, ?_, by rw [List.length_append, List.length_singleton]; omega⟩
            have hop : Mth.open_ s s.phase s.now x.group p = true := by
              unfold Mth.open_
              rw [hf, hx, hs]
              simp
            rw [etk, List.filter_append, List.filter_cons, if_pos hop]
            refine paired_snoc ⟨q, rfl, upT _ _ (s5 _ _ hq4)⟩ (L2.Paired.mapP y2 fun _ _ ⟨q', z1, z2⟩ => ⟨q', z1, upT _ _ (s5 _ _ z2)⟩)
          · obtain ⟨vs', z1, z2, z3⟩ := hg4 g b' hb'
            have nbb : b' ≠ b := fun z => hgg (nd_ix nd hb (by rw [← z]; exact hb'))
            refine ⟨vs', up _ _ (s5 _ _ z1) nbb, ?_, Nat.le_succ_of_le z3⟩
            have hop : Mth.open_ s s.phase s.now g p = false := by
              unfold Mth.open_
              rw [hx]
              have : ((some x).any fun y => y.group == g) = false := by simp [hgg]
              rw [this, Bool.and_false, Bool.false_and]
            rw [etk, List.filter_append, List.filter_cons, if_neg (by rw [hop]; exact Bool.false_ne_true), List.filter_nil, List.append_nil]
            exact L2.Paired.mapP z2 fun _ _ ⟨q', y1, y2⟩ => ⟨q', y1, upT _ _ (s5 _ _ y2)⟩
        · have hs : silenced s s.now x.group p = true := by simpa using hs
          refine G.s_next ?_
          exact skip H5 s5 (.inr hs)
      · rw [efire] at hf
        refine G.s_next ?_
        exact skip H4 (Same.refl _) (.inl hf)
    · rintro od σ H3 ⟨v3, v4, v5, rfl, kp, hk3, hz3, hga3, hg3⟩
      have sm3 : Same H (upd H3 d.aK (.dT kvs)) := fun b x e => by
        by_cases hb : b = d.aK
        · subst hb
          rw [upd_same, ← hKH, e]
        · rw [upd_ne hb]; exact kp b x e hb
      wtm_at "GO"
      refine k _ ga gl sm3 (im_iff.mpr ⟨by rw [upd_ne nga]; exact hga3, o.wf.none (sm1.free hga)⟩) hgl fun g b hb => ?_
      obtain ⟨vs, z1, z2, z3⟩ := hg3 g b hb
      have hbm := ngs b (List.mem_of_getElem? hb)
      refine ⟨vs, im_iff.mpr ⟨by rw [upd_ne hbm.1]; exact z1, o.wf.none hbm.2.2.1⟩, ?_⟩
      rw [List.take_of_length_le (by rw [Paired.length kl]; exact Nat.le_refl _)] at z2
      refine L2.Paired.mapP z2 fun _ p ⟨q', y1, y2⟩ => ⟨q', y1, ?_⟩
      have nq : q' ≠ d.aK := fun z => by rw [z, hk3] at y2; cases y2
      refine im_iff.mpr ⟨by rw [upd_ne nq]; exact y2, ?_⟩
      cases e : τ q' with
      | none => rfl
      | some r =>
        obtain ⟨o', w1, w2⟩ := o.wf q' r e
        rw [kp _ _ w1 nq] at y2
        cases y2
        cases w2
end
section
variable {P : Program} {w : World} {K : PySem.W.Frag} {mg : Str → Option Value} {base : Heap} {c : Cs}
open Kct7 (Phase Pair Abs less seen levelOf silenced isFiring noteOf)
/-! ### lists of pairs, as data -/
def dat (l : List Pair) : List PyData := l.map fun p => .tuple [.int (p.1 : Nat), .int (p.2 : Nat)]
theorem dp_pairs {H : Hp} : ∀ {vs : List V} {l : List Pair}, Paired (PairAt H) vs l → DpAll K H vs (dat l)
  | _, _, .nil => .nil
  | _, _, .cons ⟨q, e, h⟩ t => by
    subst e
    exact .cons (.tup (SqT.of h) (.cons (.int _) (.cons (.int _) .nil))) (dp_pairs t)
theorem lay_dat : ∀ l : List Pair, PyData.canLayAll0 (dat l) = true
  | [] => rfl
  | p :: l => by
    show (PyData.canLay0 (.tuple [.int (p.1 : Nat), .int (p.2 : Nat)]) && PyData.canLayAll0 (dat l)) = true
    rw [lay_dat l]; rfl
theorem depth_dat : ∀ l : List Pair, PyData.depthAll (dat l) ≤ 1
  | [] => by show 0 ≤ 1; decide
  | p :: l => by
    have := depth_dat l
    show max (PyData.depth (.tuple [.int (p.1 : Nat), .int (p.2 : Nat)])) (PyData.depthAll (dat l)) ≤ 1
    have e : PyData.depth (.tuple [.int (p.1 : Nat), .int (p.2 : Nat)]) = 1 := rfl
    rw [e]
    omega
theorem shaped_dat (l : List Pair) : SeqAt.shaped (.list (dat l)) = true := by
  unfold SeqAt.shaped
  rw [Bool.and_eq_true]
  refine ⟨lay_dat l, decide_eq_true ?_⟩
  show PyData.depthAll (dat l) + 1 ≤ 64
  have := depth_dat l
  omega
theorem eqv_dat : ∀ l m : List Pair, PyData.eqvAll (dat l) (dat m) = decide (l = m)
  | [], [] => rfl
  | [], _ :: _ => rfl
  | _ :: _, [] => rfl
  | p :: l, q :: m => by
    show (PyData.eqv (.tuple [.int (p.1 : Nat), .int (p.2 : Nat)]) (.tuple [.int (q.1 : Nat), .int (q.2 : Nat)]) && PyData.eqvAll (dat l) (dat m)) = _
    rw [eqv_dat l m]
    have e : PyData.eqv (.tuple [.int (p.1 : Nat), .int (p.2 : Nat)]) (.tuple [.int (q.1 : Nat), .int (q.2 : Nat)]) = decide (p = q) := by
      show (((p.1 : Int) == (q.1 : Int)) && (((p.2 : Int) == (q.2 : Int)) && true)) = _
      rw [Bool.eq_iff_iff]
      simp only [Bool.and_true, Bool.and_eq_true, beq_iff_eq, decide_eq_true_eq]
      constructor
      · rintro ⟨h1, h2⟩
        exact Prod.ext (by omega) (by omega)
      · rintro rfl
        exact ⟨rfl, rfl⟩
    rw [e, Bool.eq_iff_iff]
    simp only [Bool.and_eq_true, decide_eq_true_eq, List.cons.injEq]
/-! ### a group is told -/
def toldAt (s : Abs) (g : Nat) (t : Kct7.Told) : Abs := { s with told := fun i => if i = g then t else s.told i }
theorem Own.tell {H : Hp} {st : Addr} {s : Abs} {τ : Tg} {d : Ad} {g : Nat} {a dx q : Addr} {sn : List Pair} {t : Nat} (o : Own c H st s τ d) (ha : d.ta[g]? = some a) (hq : PairsAt (im H τ) q sn) : Own c (upd H a (.ins c.Told dx (tldF q (some t)))) st (toldAt s g ⟨sn, some t⟩) τ d := by
  obtain ⟨dx0, p0, ta, _, _⟩ := o.tA g a ha
  have m : Mv τ (.tob g) H (upd H a (.ins c.Told dx (tldF q (some t)))) := mv_upd ta
  refine ⟨o.wf.upd rfl, o.sT, m.at o.sO o.sT (fun z => nomatch z), o.eT, m.at o.eL o.eT (fun z => nomatch z), o.eN, fun i x b e1 e2 => (o.eA i x b e1 e2).mv m (fun z => nomatch z) (fun z => nomatch z), o.rT, m.at o.rL o.rT (fun z => nomatch z), o.rN, fun i x b e1 e2 => (o.rA i x b e1 e2).mono m.im,
    o.zT, m.at o.zL o.zT (fun z => nomatch z), o.zN, fun i x b e1 e2 => (o.zA i x b e1 e2).mv m (fun z => nomatch z), o.kA.mono m.im, m.im _ _ o.tL, o.tN, fun i b e1 => ?_, m.im _ _ o.nL, o.nN, fun i x b e1 e2 => (o.nA i x b e1 e2).mono m.im⟩
  unfold toldAt
  dsimp only
  by_cases hi : i = g
  · subst hi
    rw [if_pos rfl]
    have e : b = a := Option.some.inj (e1.symm.trans ha)
    subst e
    exact ⟨dx, q, ta, upd_same, hq.mono m.im⟩
  · rw [if_neg hi]
    exact (o.tA i b e1).mv m (fun z => hi (Rl.tob.inj z))
def noteR (s : Abs) (g : Nat) (sn : List Pair) : Option Kct7.Note :=
  if sn = (s.told g).pairs then (if sn.isEmpty = false ∧ 0 < s.again ∧ ((s.told g).last.any fun a => decide (a + s.again ≤ s.now)) = true then some ⟨g, [], [], true⟩ else none)
  else if ((s.told g).last.all fun a => decide (a + s.wait ≤ s.now)) = true then some ⟨g, less sn (s.told g).pairs, less (s.told g).pairs sn, false⟩ else none
def spNoteOf (c : Cs) : Sp := fun vs H Q _ => ∃ (st : Addr) (s : Abs) (τ : Tg) (d : Ad) (g : Nat) (q : Addr) (sn : List Pair), vs = [.ref st, .int (g : Nat), .ref q] ∧ Own c H st s τ d ∧ Mth.Ok s ∧ g < 16 ∧ PairsAt (im H τ) q sn ∧ sn.length ≤ 2048 ∧
  (noteR s g sn = none → Q .non H) ∧ ∀ n H' a, noteR s g sn = some n → Own c H' st (toldAt s g ⟨sn, some s.now⟩) τ d → Mv τ (.tob g) H H' → NoteAt c (im H' τ) a n → Q (.ref a) H'
theorem pairs_dp {H : Hp} {τ : Tg} {q : Addr} {l : List Pair} (h : PairsAt (im H τ) q l) : Dp K H (.ref q) (.list (dat l)) := by
  obtain ⟨vs, hv, pv⟩ := h
  exact .lst (SqL.of (im_at hv)) (dp_pairs (L2.Paired.mapP pv fun _ _ ⟨a, e, h⟩ => ⟨a, e, im_at h⟩))
theorem fd_noteof (T : Txt K mg c) : G.Fd P w K mg base "note_of" 3 (spNoteOf c) := T.d_note_of.fd fun f fd F => by
  have S := sc_note_of
  have cT := T.c_State
  have cO := T.c_Told
  have bl := T.b_len
  have f1 : G.Fd P w K mg base "is_ago" 1 spIsAgo := fd_is_ago T
  have f2 : G.Fd P w K mg base "those_not_in" 1 spNotIn := fd_notin T
  have f3 : G.Md P w K mg base "Note" c.Note 1 (spNote c) := md_note T
  refine F.ok S (fun vs H Q E h => ?_) (fun cdv A outer s H vs Q E hr h => ?_)
  · obtain ⟨st, s, τ, d, g, q, sn, rfl, _⟩ := h
    rfl
  · obtain ⟨st, s, τ, d, g, q, sn, rfl, o, ok, hg, hq, hsn, k1, k2⟩ := h
    have e0 := o.sO
    obtain ⟨a, ha⟩ : ∃ a, d.ta[g]? = some a := ⟨d.ta[g]'(by rw [o.tN]; exact hg), List.getElem?_eq_getElem _⟩
    obtain ⟨dx, p, ta, ha1, hp⟩ := o.tA g a ha
    have nst : st ≠ a := fun z => by have := o.sT; rw [z, ta] at this; cases this
    -- the end: what is told is put down
    have fin : ∀ (n : Kct7.Note) (H5 : Hp) (an : Addr), Same H H5 → noteR s g sn = some n → NoteAt c (im H5 τ) an n →
        tSeq (sFld K (tVar 3) (tVar 2) "pairs") (tSeq (sFld K (tVar 3) (tFld K (tVar 0) "now") "last") (tRet (tVar 4))) { nx := fun _ H' => Q V.non H', rt := Q } [some (.ref st), some (.int (g : Nat)), some (.ref q), some (.ref a), some (.ref an)] H5 := by
      intro n H5 an sm hn hN
      have o5 := o.same sm
      have h5 := sm _ _ ha1
      wtm_at "GO"
      wtm_at "GO"
      wtm_at "GO"
      have e5 : upd H5 a (.ins c.Told dx (putF "pairs" (.ref q) (tldF p (s.told g).last))) st = some (.ins c.State d.dx (stF s.wait s.again s.now d)) := by rw [upd_ne nst]; exact o5.sO
      wtm_at "GO"
      rw [upd_upd]
      wtm_at "GO"
      have m5 : Mv τ (.tob g) H5 (upd H5 a (.ins c.Told dx (tldF q (some s.now)))) := mv_upd ta
      exact k2 n _ an hn (o5.tell ha (hq.mono (im_same sm))) ((Same.mv sm τ _).trans m5) (hN.mono m5.im)
    wtm_at "INIT"
    wtm_at "GO"
    refine G.s_set (v := .ref a) (G.ev_ixAL (by wtm_at "EV") (by wtm_at "EV") (SqL.of (im_at o.tL)) rfl (at_ref ha)) ?_
    dsimp only [List.set]
    wtm_at "GO"
    have hne : G.EvT (tTest (tOp (rNeD K) (tVar 2) (tFld K (tVar 3) "pairs"))) [some (.ref st), some (.int (g : Nat)), some (.ref q), some (.ref a), none] H (!decide (sn = (s.told g).pairs)) := by
      refine G.evt_test (fun Q' q' => ?_)
      refine (by wtm_at "EV" : G.Ev (tVar 2) _ _ (.ref q)) _ ((by wtm_at "EV" : G.Ev (tFld K (tVar 3) "pairs") _ _ (.ref p)) _ ⟨_, _, pairs_dp hq, pairs_dp hp, shaped_dat _, shaped_dat _, ?_⟩)
      show Q' (.bl (!PyData.eqvAll (dat sn) (dat (s.told g).pairs))) H
      rw [eqv_dat]
      exact q'
    refine G.s_if hne (fun h => ?_) (fun h => ?_)
    · have h : ¬ sn = (s.told g).pairs := by simpa using h
      wtm_at "GO"
      refine G.s_notcall (vs := [lastV (s.told g).last, .int (s.wait : Nat), .int (s.now : Nat)]) (by wtm_at "EVA") ⟨(s.told g).last, s.wait, s.now, rfl, _, rfl, L2.ite2 (fun hb => ?_) (fun hb => ?_)⟩
      · wtm_at "GO"
        refine k1 ?_
        unfold noteR
        rw [if_neg h, if_neg (by simpa using hb)]
      · have hb : ((s.told g).last.all fun a => decide (a + s.wait ≤ s.now)) = true := by simpa using hb
        have hn : noteR s g sn = some ⟨g, less sn (s.told g).pairs, less (s.told g).pairs sn, false⟩ := by
          unfold noteR
          rw [if_neg h, if_pos hb]
        wtm_at "GO"
        refine G.s_setE ?_
        refine G.consV (by wtm_at "EV") (G.consV (by wtm_at "EV") ?_)
        refine G.call2 (G.use (by wtm_at "EV") (G.use (by wtm_at "EV") ⟨q, p, sn, (s.told g).pairs, τ, rfl, o.wf, hq, hp, hsn, ok.tld g, fun H1 q1 sm1 hq1 => ?_⟩))
        have ha2 := sm1 _ _ ha1
        have hp1 := hp.mono (im_same (τ := τ) sm1)
        have hq2 := hq.mono (im_same (τ := τ) sm1)
        refine G.call2 (G.use (by wtm_at "EV") (G.use (by wtm_at "EV") ⟨p, q, (s.told g).pairs, sn, τ, rfl, o.wf.same sm1, hp1, hq2, ok.tld g, hsn, fun H2 q2 sm2 hq3 => ?_⟩))
        intro an dn n1 n2 n3
        refine ⟨an, dn, .int (g : Nat), .int 0, .ref q1, .ref q2, rfl, upd_same, rfl, ?_⟩
        rw [upd_upd]
        have sm12 := sm1.trans sm2
        have sm3 : Same H2 (upd (upd H2 dn (.own an)) an (.ins c.Note dn [("group", .int (g : Nat)), ("again", .int 0), ("new", .ref q1), ("over", .ref q2)])) := fun b ob e => by
          rw [upd_ne (ne_of_none e n1), upd_ne (ne_of_none e n2)]; exact e
        refine fin _ _ an (sm12.trans sm3) hn ⟨dn, q1, q2, im_iff.mpr ⟨upd_same, (o.wf.same sm12).none n1⟩, (hq1.mono (im_same sm2)).mono (im_same sm3), hq3.mono (im_same sm3)⟩
    · have h : sn = (s.told g).pairs := by simpa using h
      have hn0 : noteR s g sn = if sn.isEmpty = false ∧ 0 < s.again ∧ ((s.told g).last.any fun a => decide (a + s.again ≤ s.now)) = true then some ⟨g, [], [], true⟩ else none := by
        unfold noteR
        rw [if_pos h]
      obtain ⟨vs, hvs, pvs⟩ := id hq
      have hvs := im_at hvs
      have hlen := Paired.length pvs
      wtm_at "GO"
      refine G.s_if (G.evt_or (by wtm_at "EVT") (fun _ => G.evt_or (by wtm_at "EVT") (fun _ => G.evt_not (G.evt_tB (G.ev_call (vs := [lastV (s.told g).last, .int (s.again : Nat), .int (s.now : Nat)]) (by wtm_at "EVA") (fun _ q' => ⟨(s.told g).last, s.again, s.now, rfl, q'⟩)))))) (fun hb => ?_) (fun hb => ?_)
      · wtm_at "GO"
        refine k1 ?_
        rw [hn0, if_neg]
        rintro ⟨h1, h2, h3⟩
        simp only [Bool.or_eq_true, decide_eq_true_eq, Bool.not_eq_true'] at hb
        rcases hb with hb | hb | hb
        · have : sn = [] := List.eq_nil_of_length_eq_zero (by omega)
          rw [this] at h1
          cases h1
        · omega
        · cases hl : (s.told g).last with
          | none => rw [hl] at h3; cases h3
          | some b =>
            rw [hl] at h3 hb
            simp only [Option.any_some, Option.all_some] at h3 hb
            rw [h3] at hb
            cases hb
      · simp only [Bool.or_eq_false_iff, decide_eq_false_iff_not, Bool.not_eq_false'] at hb
        obtain ⟨hb1, hb2, hb3⟩ := hb
        have hsne : sn ≠ [] := fun z => by
          rw [z] at hlen
          exact hb1 (by rw [hlen]; rfl)
        have hn : noteR s g sn = some ⟨g, [], [], true⟩ := by
          rw [hn0, if_pos]
          refine ⟨by cases hh : sn with | nil => exact absurd hh hsne | cons _ _ => rfl, by omega, ?_⟩
          cases hl : (s.told g).last with
          | none => exact absurd hl (ok.tln g (by rw [← h]; exact hsne))
          | some b =>
            rw [hl] at hb3
            exact hb3
        wtm_at "GO"
        refine G.s_setE ?_
        refine G.consV (by wtm_at "EV") (G.consV (by wtm_at "EV") ?_)
        refine G.lst_new G.eva_nil (Nat.zero_le _) fun q1 hq1 => ?_
        refine G.lst_new G.eva_nil (Nat.zero_le _) fun q2 hq2 => ?_
        have s1 : Same H (upd H q1 (.lst [])) := same_new hq1
        have s2 : Same (upd H q1 (.lst [])) (upd (upd H q1 (.lst [])) q2 (.lst [])) := same_new hq2
        have hh1 := s2 q1 _ (upd_same (H := H) (o := .lst []))
        have hh2 : upd (upd H q1 (.lst [])) q2 (.lst []) q2 = some (.lst []) := upd_same
        have sm12 := s1.trans s2
        have w1 : τ q1 = none := o.wf.none hq1
        have w2 : τ q2 = none := (o.wf.same s1).none hq2
        generalize upd (upd H q1 (.lst [])) q2 (.lst []) = H2 at sm12 hh1 hh2 ⊢
        clear s2
        intro an dn n1 n2 n3
        refine ⟨an, dn, .int (g : Nat), .int 1, .ref q1, .ref q2, rfl, upd_same, rfl, ?_⟩
        rw [upd_upd]
        have sm3 : Same H2 (upd (upd H2 dn (.own an)) an (.ins c.Note dn [("group", .int (g : Nat)), ("again", .int 1), ("new", .ref q1), ("over", .ref q2)])) := fun b ob e => by
          rw [upd_ne (ne_of_none e n1), upd_ne (ne_of_none e n2)]; exact e
        refine fin _ _ an (sm12.trans sm3) hn ⟨dn, q1, q2, im_iff.mpr ⟨upd_same, (o.wf.same sm12).none n1⟩, ⟨[], im_iff.mpr ⟨sm3 _ _ hh1, w1⟩, .nil⟩, ⟨[], im_iff.mpr ⟨sm3 _ _ hh2, w2⟩, .nil⟩⟩
end
section
variable {P : Program} {w : World} {K : PySem.W.Frag} {mg : Str → Option Value} {base : Heap} {c : Cs}
open Kct7 (Phase Pair Abs less seen levelOf silenced isFiring noteOf phases)
/-! ### notes_now -/
def sN (s : Abs) (n : Nat) : Abs := { s with told := Mth.toldTo s s.phase s.now n }
theorem sN_zero (s : Abs) : sN s 0 = s := by
  unfold sN Mth.toldTo
  have : (fun g => if g < 0 ∧ (noteOf s s.phase s.now g).isSome = true then (⟨seen s s.phase s.now g, some s.now⟩ : Kct7.Told) else s.told g) = s.told := by
    funext g
    rw [if_neg (fun z => absurd z.1 (Nat.not_lt_zero _))]
  rw [this]
theorem sN_told (s : Abs) (n : Nat) : (sN s n).told n = s.told n := by
  show Mth.toldTo s s.phase s.now n n = _
  unfold Mth.toldTo
  rw [if_neg (fun z => absurd z.1 (Nat.lt_irrefl _))]
theorem seen_top (s : Abs) (g : Nat) : seen s s.phase s.now g = top_ s ((Mth.inAll s.phase s.rules.length s.series.length).filter (Mth.open_ s s.phase s.now g)) := by
  unfold Kct7.seen top_
  rw [← Mth.firing_eq]
theorem noteR_eq (s : Abs) (n : Nat) : noteR (sN s n) n (seen s s.phase s.now n) = noteOf s s.phase s.now n := by
  unfold noteR noteOf
  rw [sN_told]
  rfl
theorem sN_none {s : Abs} {n : Nat} (h : noteOf s s.phase s.now n = none) : sN s (n + 1) = sN s n := by
  unfold sN
  have : Mth.toldTo s s.phase s.now (n + 1) = Mth.toldTo s s.phase s.now n := by
    funext g
    unfold Mth.toldTo
    by_cases hg : g = n
    · subst hg
      rw [h, if_neg (fun z => by cases z.2), if_neg (fun z => by cases z.2)]
    · have e : (g < n + 1) = (g < n) := by rw [eq_iff_iff]; omega
      simp only [e]
  rw [this]
theorem sN_some {s : Abs} {n : Nat} {x : Kct7.Note} (h : noteOf s s.phase s.now n = some x) : toldAt (sN s n) n ⟨seen s s.phase s.now n, some s.now⟩ = sN s (n + 1) := by
  unfold toldAt sN
  dsimp only
  have : (fun i => if i = n then (⟨seen s s.phase s.now n, some s.now⟩ : Kct7.Told) else Mth.toldTo s s.phase s.now n i) = Mth.toldTo s s.phase s.now (n + 1) := by
    funext g
    unfold Mth.toldTo
    by_cases hg : g = n
    · subst hg
      rw [if_pos rfl, if_pos ⟨Nat.lt_succ_self _, by rw [h]; rfl⟩]
    · have e : (g < n + 1) = (g < n) := by rw [eq_iff_iff]; omega
      simp only [if_neg hg, e]
  rw [this]
theorem ok_sN {s : Abs} (h : Mth.Ok s) (n : Nat) : Mth.Ok (sN s n) where
  ns := h.ns
  nr := h.nr
  nz := h.nz
  ser := h.ser
  pha := h.pha
  tld := fun g => by
    show (Mth.toldTo s s.phase s.now n g).pairs.length ≤ 2048
    unfold Mth.toldTo
    split
    · exact Mth.seen_len h _ _ _
    · exact h.tld g
  tln := fun g => by
    show (Mth.toldTo s s.phase s.now n g).pairs ≠ [] → (Mth.toldTo s s.phase s.now n g).last ≠ none
    unfold Mth.toldTo
    split
    · exact fun _ z => nomatch z
    · exact h.tln g
  nnt := h.nnt
  nts := h.nts
def spNotesNow (c : Cs) : Sp := fun vs H Q _ => ∃ (st : Addr) (s : Abs) (τ : Tg) (d : Ad) (kvs : List (List Key × V)), vs = [.ref st] ∧ Own c H st s τ d ∧ Mth.Ok s ∧ im H τ d.aK = some (.dT kvs) ∧ KList (im H τ) s.phase kvs (Mth.inAll s.phase s.rules.length s.series.length) ∧
  ∀ H' a (na : List Addr), Own c H' st (sN s 16) τ d → Fo H τ H' τ → im H' τ a = some (.lst (na.map .ref)) → Paired (NoteAt c (im H' τ)) na (Mth.notesTo s s.phase s.now 16) → Q (.ref a) H'
theorem fd_notes (T : Txt K mg c) : G.Fd P w K mg base "notes_now" 4 (spNotesNow c) := T.d_notes_now.fd fun f fd F => by
  have S := sc_notes_now
  have cT := T.c_State
  have be := T.b_enumerate
  have f1 : G.Fd P w K mg base "unsilenced_by_group" 2 (spUnsil c) := fd_unsil T
  have f2 : G.Fd P w K mg base "gravest" 1 (spGrav c) := fd_grav T
  have f3 : G.Fd P w K mg base "note_of" 3 (spNoteOf c) := fd_noteof T
  refine F.ok S (fun vs H Q E h => ?_) (fun cdv A outer s H vs Q E hr h => ?_)
  · obtain ⟨st, s, τ, d, kvs, rfl, _⟩ := h
    rfl
  · obtain ⟨st, s, τ, d, kvs, rfl, o, ok, hK, kl, k⟩ := h
    wtm_at "INIT"
    wtm_at "GO"
    refine G.s_setE (G.lst_new G.eva_nil (Nat.zero_le _) fun nl hnl => ?_)
    dsimp only [List.set]
    wtm_at "GO"
    have s1 : Same H (upd H nl (.lst [])) := same_new hnl
    have hnl1 : upd H nl (.lst []) nl = some (.lst []) := upd_same
    generalize upd H nl (.lst []) = H1 at s1 hnl1 ⊢
    have tn : τ nl = none := o.wf.none hnl
    have w1 : Wf H1 (setT τ nl .tmp) := (o.wf.same s1).set hnl1 rfl
    have o1 : Own c H1 st s (setT τ nl .tmp) d := o.lift (fun b x e => ⟨s1 b x e, setT_ne (ne_of_none e hnl)⟩) w1
    have im1 : Same (im H τ) (im H1 (setT τ nl .tmp)) := fun b x e => im_iff.mpr ⟨s1 _ _ (im_at e), by rw [setT_ne (ne_of_none (im_at e) hnl)]; exact im_tag e⟩
    generalize hτ : setT τ nl .tmp = τ' at w1 o1 im1
    have tnl : τ' nl = some .tmp := by rw [← hτ]; exact setT_same
    refine G.s_enumE (G.call_ (by wtm_at "EVA") ⟨st, s, τ', d, kvs, rfl, o1, ok, im1 _ _ hK, kl.mono im1, fun H2 ga gs s2 hga hgl hgs => ?_⟩)
    refine G.s_enum (xs := gs.map V.ref) (fun n σ H' => ∃ v2 v3 v4 na, σ = [some (.ref st), some (.ref nl), v2, v3, v4] ∧ Own c H' st (sN s n) τ' d ∧ Fo H1 τ' H' τ' ∧ im H' τ' ga = some (.lst (gs.map .ref)) ∧
        (∀ (g : Nat) b, gs[g]? = some b → PairsAt (im H' τ') b ((Mth.inAll s.phase s.rules.length s.series.length).filter (Mth.open_ s s.phase s.now g))) ∧ H' nl = some (.lst (na.map .ref)) ∧ Paired (NoteAt c (im H' τ')) na (Mth.notesTo s s.phase s.now n) ∧ na.length ≤ n)
      (by wtm_at "EV") (fun n σ H' _ ⟨_, _, _, _, _, _, _, q, _⟩ => SqL.of (im_at q)) ⟨none, none, none, [], rfl, by rw [sN_zero]; exact o1.same s2, Fo.same s2, hga, hgs, s2 _ _ hnl1, .nil, Nat.le_refl _⟩ ?_ ?_
    · rintro n x σ H3 T1 hx ⟨v2, v3, v4, na, rfl, o3, im3, hga3, hgs3, hnl3, hna3, hlen⟩ hT1
      obtain ⟨b, rfl, hb⟩ := ref_at hx
      have sT : Same H3 (upd H3 T1 (.tup [.int (n : Nat), .ref b])) := same_new hT1
      have o4 := o3.same sT
      have imT := im_same (τ := τ') sT
      have im4 := im3.trans (Fo.same (τ := τ') sT)
      have hga4 := imT _ _ hga3
      have hgs4 : ∀ (g : Nat) b', gs[g]? = some b' → PairsAt (im (upd H3 T1 (.tup [.int (n : Nat), .ref b])) τ') b' ((Mth.inAll s.phase s.rules.length s.series.length).filter (Mth.open_ s s.phase s.now g)) := fun g b' hb' => (hgs3 g b' hb').mono imT
      have hnl4 := sT _ _ hnl3
      have hna4 : Paired (NoteAt c (im (upd H3 T1 (.tup [.int (n : Nat), .ref b])) τ')) na (Mth.notesTo s s.phase s.now n) := L2.Paired.mapP hna3 fun _ _ z => z.mono imT
      generalize upd H3 T1 (.tup [.int (n : Nat), .ref b]) = H4 at o4 im4 hga4 hgs4 hnl4 hna4 ⊢
      clear imT sT o3 im3 hga3 hgs3 hnl3 hna3 hT1
      have e4 := o4.sO
      have hn16 : n < 16 := by rw [← hgl]; exact (List.getElem?_eq_some_iff.mp hb).1
      have hL : ((Mth.inAll s.phase s.rules.length s.series.length).filter (Mth.open_ s s.phase s.now n)).length ≤ 2048 := by
        refine Nat.le_trans (List.length_filter_le _ _) (Nat.le_trans (Mth.inAll_len _ _ _) ?_)
        exact Nat.mul_le_mul ok.nr ok.ns
      have etop : top_ (sN s n) ((Mth.inAll s.phase s.rules.length s.series.length).filter (Mth.open_ s s.phase s.now n)) = Kct7.seen s s.phase s.now n := (seen_top s n).symm
      dsimp only [List.set]
      wtm_at "GO"
      refine G.s_setE (G.call3 (G.use (by wtm_at "EV") (G.use (by wtm_at "EV") (G.call2 (G.use (by wtm_at "EV") (G.use (by wtm_at "EV") ⟨st, sN s n, τ', d, b, _, rfl, o4, hgs4 n b hb, hL, fun x hx => (Mth.mem_inAll.mp (List.mem_filter.mp hx).1).1, fun H5 q sm5 hq5 => ?_⟩))))))
      rw [etop] at hq5
      have o5 := o4.same sm5
      have im5 := im_same (τ := τ') sm5
      refine ⟨st, sN s n, τ', d, n, q, _, rfl, o5, ok_sN ok n, hn16, hq5, Mth.seen_len ok _ _ _, fun hno => ?_, fun x H6 an hso o6 m6 hN => ?_⟩
      · rw [noteR_eq] at hno
        dsimp only [List.set]
        refine G.s_ifF (b := !decide (V.non = V.non)) (G.evt_tB (G.ev_notN (by wtm_at "EV"))) rfl ?_
        wtm_at "GO"
        refine ⟨_, _, _, na, rfl, by rw [sN_none hno]; exact o5, im4.trans (Fo.same sm5), im5 _ _ hga4, fun g b' hb' => (hgs4 g b' hb').mono im5, sm5 _ _ hnl4, ?_, Nat.le_succ_of_le hlen⟩
        rw [Mth.notesTo_succ, hno, Option.toList_none, List.append_nil]
        exact L2.Paired.mapP hna4 fun _ _ z => z.mono im5
      · rw [noteR_eq] at hso
        have o6 : Own c H6 st (sN s (n + 1)) τ' d := by
          have := o6
          rw [show (sN s n).now = s.now from rfl, sN_some hso] at this
          exact this
        dsimp only [List.set]
        refine G.s_ifT (b := !decide (V.ref an = V.non)) (G.evt_tB (G.ev_notN (by wtm_at "EV"))) rfl ?_
        have hnl6 : H6 nl = some (.lst (na.map .ref)) := m6.at (sm5 _ _ hnl4) tnl (fun z => nomatch z)
        refine G.s_app (by wtm_at "EV") (by wtm_at "EV") hnl6 (by rw [List.length_map]; exact Nat.lt_of_le_of_lt hlen (Nat.lt_trans hn16 (by decide))) ?_
        have m7 : Mv τ' .tmp H6 (upd H6 nl (.lst (na.map .ref ++ [.ref an]))) := mv_upd tnl
        have im6 := im5.trans (m6.im.trans m7.im)
        refine ⟨_, _, _, na ++ [an], rfl, o6.mvTmp m7 (o6.wf.upd rfl), im4.trans ((Fo.same sm5).trans ((Fo.mv m6 (fun z => nomatch z)).trans (Fo.mv m7 (fun z => nomatch z)))), im6 _ _ hga4, fun g b' hb' => (hgs4 g b' hb').mono im6, by rw [upd_same, List.map_append]; rfl, ?_, by rw [List.length_append, List.length_singleton]; omega⟩
        rw [Mth.notesTo_succ, hso]
        exact paired_snoc (hN.mono m7.im) (L2.Paired.mapP hna4 fun _ _ z => z.mono im6)
    · rintro σ H3 ⟨v2, v3, v4, na, rfl, o3, im3, hga3, hgs3, hnl3, hna3, hlen⟩
      rw [List.length_map, hgl] at o3 hna3
      wtm_at "GO"
      subst hτ
      have w3 : Wf H3 τ := fun b r e => o3.wf b r (by rw [setT_ne (fun z => by rw [z, tn] at e; cases e)]; exact e)
      have fo : Fo H τ H3 τ := ⟨fun b x e => im_untag _ _ (im3.1 _ _ (im1 _ _ e)), fun b y t e => ⟨t, (im3.2 b y (by rw [setT_ne (fun z => by rw [z, tn] at t; cases t)]; exact t) (s1 _ _ e)).2⟩⟩
      exact k H3 nl na (o3.untag w3) fo (im_iff.mpr ⟨hnl3, tn⟩) (L2.Paired.mapP hna3 fun _ _ z => z.mono im_untag)
end
section
variable {P : Program} {w : World} {K : PySem.W.Frag} {mg : Str → Option Value} {base : Heap} {c : Cs}
open Kct7 (Phase Pair Abs less levelOf silenced isFiring noteOf phases tick)
/-! ### tick -/
theorem paired_of {α β : Type} {F : α → β → Prop} : ∀ {l : List α} {m : List β}, l.length = m.length → (∀ (i : Nat) x a, m[i]? = some x → l[i]? = some a → F a x) → Paired F l m
  | [], [], _, _ => .nil
  | [], _ :: _, h, _ => by cases h
  | _ :: _, [], h, _ => by cases h
  | a :: l, b :: m, h, f => .cons (f 0 b a rfl rfl) (paired_of (by simpa using h) fun i x c e1 e2 => f (i + 1) x c (by simpa using e1) (by simpa using e2))
theorem of_paired {α β : Type} {F : α → β → Prop} {l : List α} {m : List β} (h : Paired F l m) (i : Nat) (x : β) (a : α) (e1 : m[i]? = some x) (e2 : l[i]? = some a) : F a x := by
  obtain ⟨y, e, r⟩ := paired_get h e2
  rw [e1] at e
  cases e
  exact r
theorem Own.nP {H : Hp} {st : Addr} {s : Abs} {τ : Tg} {d : Ad} (o : Own c H st s τ d) : Paired (NoteAt c (im H τ)) d.na s.notes := paired_of o.nN o.nA
theorem Own.put {H : Hp} {st : Addr} {s : Abs} {τ : Tg} {d : Ad} (o : Own c H st s τ d) (n : Nat) {ph : Nat → Nat → Phase} {aK : Addr} (kA : KnownAt (im H τ) aK ph) {nts : List Kct7.Note} {aN : Addr} {na : List Addr} (nL : im H τ aN = some (.lst (na.map .ref))) (nP : Paired (NoteAt c (im H τ)) na nts) :
    Own c (upd H st (.ins c.State d.dx (stF s.wait s.again n { d with aK := aK, aN := aN, na := na }))) st { s with now := n, phase := ph, notes := nts } τ { d with aK := aK, aN := aN, na := na } := by
  have m : Mv τ .st H (upd H st (.ins c.State d.dx (stF s.wait s.again n { d with aK := aK, aN := aN, na := na }))) := mv_upd o.sT
  exact ⟨o.wf.upd rfl, o.sT, upd_same, o.eT, m.at o.eL o.eT (fun z => nomatch z), o.eN, fun i x b e1 e2 => (o.eA i x b e1 e2).mv m (fun z => nomatch z) (fun z => nomatch z), o.rT, m.at o.rL o.rT (fun z => nomatch z), o.rN, fun i x b e1 e2 => (o.rA i x b e1 e2).mono m.im,
    o.zT, m.at o.zL o.zT (fun z => nomatch z), o.zN, fun i x b e1 e2 => (o.zA i x b e1 e2).mv m (fun z => nomatch z), kA.mono m.im, m.im _ _ o.tL, o.tN, fun i b e1 => (o.tA i b e1).mv m (fun z => nomatch z), m.im _ _ nL, Paired.length nP, fun i x b e1 e2 => (of_paired nP i x b e1 e2).mono m.im⟩
theorem put_im {H : Hp} {τ : Tg} {st : Addr} {x : HO} (t : τ st = some .st) : Fo H τ (upd H st x) τ := Fo.mv (mv_upd (o := x) t) (fun z => nomatch z)
theorem Own.toldC {H : Hp} {st : Addr} {s : Abs} {τ : Tg} {d : Ad} (o : Own c H st s τ d) {f : Nat → Kct7.Told} (h : ∀ g, g < 16 → f g = s.told g) : Own c H st { s with told := f } τ d :=
  ⟨o.wf, o.sT, o.sO, o.eT, o.eL, o.eN, o.eA, o.rT, o.rL, o.rN, o.rA, o.zT, o.zL, o.zN, o.zA, o.kA, o.tL, o.tN, fun g b e => by
    have hg : g < 16 := by rw [← o.tN]; exact (List.getElem?_eq_some_iff.mp e).1
    show TldAt c H τ g b (f g)
    rw [h g hg]
    exact o.tA g b e, o.nL, o.nN, o.nA⟩
theorem ok_now {s : Abs} (h : Mth.Ok s) {t : Nat} (ht : s.now ≤ t) : Mth.Ok { s with now := t } :=
  ⟨h.ns, h.nr, h.nz, fun x hx => ⟨(h.ser x hx).grp, (h.ser x hx).len, (h.ser x hx).srt, fun y hy => Nat.le_trans ((h.ser x hx).old y hy) ht⟩, h.pha, h.tld, h.tln, h.nnt, h.nts⟩
theorem ok_phase {s : Abs} (h : Mth.Ok s) (t : Nat) : Mth.Ok { s with phase := phases s t } :=
  ⟨h.ns, h.nr, h.nz, h.ser, fun i k e => by
    have e : phases s t i k ≠ .quiet := e
    show ∃ r x, s.rules[i]? = some r ∧ s.series[k]? = some x ∧ r.kind = x.kind
    unfold phases at e
    split at e
    · rename_i r x hr hx
      split at e
      · rename_i hk
        exact ⟨r, x, hr, hx, hk⟩
      · exact h.pha i k e
    · exact h.pha i k e, h.tld, h.tln, h.nnt, h.nts⟩
def spTick (c : Cs) : Sp := fun vs H Q _ => ∃ (st : Addr) (s : Abs) (τ : Tg) (d : Ad) (t : Nat), vs = [.ref st, .int (t : Nat)] ∧ Own c H st s τ d ∧ Mth.Ok s ∧ ((t < s.now ∨ 1099511627776 < t) → Q (.int (-22)) H) ∧
  (¬ (t < s.now ∨ 1099511627776 < t) → ∀ H' d', Own c H' st (tick s t) τ d' → Fo H τ H' τ → Q (.int ((tick s t).notes.length : Nat)) H')
theorem fd_tick (T : Txt K mg c) : G.Fd P w K mg base "tick" 5 (spTick c) := T.d_tick.fd fun f fd F => by
  have S := sc_tick
  have cT := T.c_State
  have n1 := T.v_WRONG
  have n2 := T.v_LAST_TIME
  have bl := T.b_len
  have f1 : G.Fd P w K mg base "known_now" 4 (spKNow c) := fd_know T
  have f2 : G.Fd P w K mg base "notes_now" 4 (spNotesNow c) := fd_notes T
  refine F.ok S (fun vs H Q E h => ?_) (fun cdv A outer s H vs Q E hr h => ?_)
  · obtain ⟨st, s, τ, d, t, rfl, _⟩ := h
    rfl
  · obtain ⟨st, s, τ, d, t, rfl, o, ok, k1, k2⟩ := h
    have e0 := o.sO
    wtm_at "INIT"
    wtm_at "GO"
    refine G.s_if (by wtm_at "EVT") (fun h => ?_) (fun h => ?_)
    · simp only [Bool.or_eq_true, decide_eq_true_eq] at h
      wtm_at "GO"
      exact k1 (by omega)
    · simp only [Bool.or_eq_false_iff, decide_eq_false_iff_not] at h
      have hn : ¬ (t < s.now ∨ 1099511627776 < t) := by omega
      wtm_at "GO"
      wtm_at "GO"
      wtm_at "GO"
      have o1 := o.put t o.kA o.nL o.nP
      have i1 : Fo H τ (upd H st (.ins c.State d.dx (stF s.wait s.again t { d with aK := d.aK, aN := d.aN, na := d.na }))) τ := put_im o.sT
      have ok1 := ok_now ok (t := t) (by omega)
      show tSeq _ _ _ _ (upd H st (.ins c.State d.dx (stF s.wait s.again t { d with aK := d.aK, aN := d.aN, na := d.na })))
      generalize upd H st (.ins c.State d.dx (stF s.wait s.again t { d with aK := d.aK, aN := d.aN, na := d.na })) = H1 at o1 i1 ⊢
      wtm_at "GO"
      refine G.s_fldX (G.call_ (by wtm_at "EVA") ⟨st, _, τ, _, rfl, o1, ok1, fun H2 a kvs sm2 hk kl => ?_⟩)
      have o2 := o1.same sm2
      have e2 := o2.sO
      have i2 := i1.trans (Fo.same sm2)
      have o3 := o2.put t (ph := phases s t) (aK := a) ⟨kvs, hk, kl.known fun i k hik => Mth.phase_out ok1 (t := t) hik⟩ o2.nL o2.nP
      have i3 : Fo H2 τ (upd H2 st (.ins c.State d.dx (stF s.wait s.again t { d with aK := a, aN := d.aN, na := d.na }))) τ := put_im o.sT
      have ok3 := ok_phase ok1 t
      wtm_at "GO"
      show tSeq _ _ _ _ (upd H2 st (.ins c.State d.dx (stF s.wait s.again t { d with aK := a, aN := d.aN, na := d.na })))
      generalize upd H2 st (.ins c.State d.dx (stF s.wait s.again t { d with aK := a, aN := d.aN, na := d.na })) = H3 at o3 i3 ⊢
      wtm_at "GO"
      refine G.s_fldX (G.call_ (by wtm_at "EVA") ⟨st, _, τ, _, kvs, rfl, o3, ok3, i3.1 _ _ hk, kl.mono i3.1, fun H4 b na o4 i4 hb hna => ?_⟩)
      have e4 := o4.sO
      have o5 : Own c (upd H4 st (.ins c.State d.dx (stF s.wait s.again t { d with aK := a, aN := b, na := na }))) st _ τ { d with aK := a, aN := b, na := na } := o4.put t o4.kA hb hna
      have i5 : Fo H4 τ (upd H4 st (.ins c.State d.dx (stF s.wait s.again t { d with aK := a, aN := b, na := na }))) τ := put_im o.sT
      have hb5 := im_at (i5.1 _ _ hb)
      wtm_at "GO"
      show tRet _ _ _ (upd H4 st (.ins c.State d.dx (stF s.wait s.again t { d with aK := a, aN := b, na := na })))
      have e5 : upd H4 st (.ins c.State d.dx (stF s.wait s.again t { d with aK := a, aN := b, na := na })) st = some (.ins c.State d.dx (stF s.wait s.again t { d with aK := a, aN := b, na := na })) := upd_same
      generalize upd H4 st (.ins c.State d.dx (stF s.wait s.again t { d with aK := a, aN := b, na := na })) = H5 at o5 i5 hb5 e5 ⊢
      wtm_at "GO"
      have el : (na.map V.ref).length = (tick s t).notes.length := by
        rw [List.length_map, Paired.length hna]
        rfl
      rw [el]
      have oF := o5.toldC (f := (tick s t).told) fun g hg => by
        show (if (noteOf s (phases s t) t g).isSome = true then (⟨Kct7.seen s (phases s t) t g, some t⟩ : Kct7.Told) else s.told g) = (if g < 16 ∧ (noteOf s (phases s t) t g).isSome = true then (⟨Kct7.seen s (phases s t) t g, some t⟩ : Kct7.Told) else s.told g)
        simp only [hg, true_and]
      exact k2 hn H5 _ oF (((i2.trans i3).trans i4).trans i5)
end
section
variable {P : Program} {w : World} {K : PySem.W.Frag} {mg : Str → Option Value} {base : Heap} {c : Cs}
open Kct7 (Phase Pair Abs)
/-! ### lists that grow -/
theorem ix_snoc {α : Type} {l : List α} {x y : α} {i : Nat} (h : (l ++ [x])[i]? = some y) : (l[i]? = some y ∧ i < l.length) ∨ (i = l.length ∧ y = x) := by
  rw [List.getElem?_append] at h
  split at h
  · rename_i hi
    exact .inl ⟨h, hi⟩
  · rename_i hi
    have := (List.getElem?_eq_some_iff.mp h).1
    rw [List.length_singleton] at this
    have e : i - l.length = 0 := by omega
    rw [e] at h
    exact .inr ⟨by omega, (Option.some.inj h).symm⟩
section
variable {H : Hp} {st : Addr} {s : Abs} {τ : Tg} {d : Ad}
theorem Own.addSer (o : Own c H st s τ d) {a : Addr} {x : Kct7.Series} (hS : SerAt c H τ s.series.length a x) : Own c (upd H d.aS (.lst (d.sa.map .ref ++ [.ref a]))) st { s with series := s.series ++ [x] } τ { d with sa := d.sa ++ [a] } := by
  have m : Mv τ .ser H (upd H d.aS (.lst (d.sa.map .ref ++ [.ref a]))) := mv_upd o.eT
  refine ⟨o.wf.upd rfl, o.sT, m.at o.sO o.sT (fun z => nomatch z), o.eT, by rw [upd_same, List.map_append]; rfl, by rw [List.length_append, List.length_append, o.eN]; rfl, fun i y b e1 e2 => ?_, o.rT, m.at o.rL o.rT (fun z => nomatch z), o.rN, fun i x b e1 e2 => (o.rA i x b e1 e2).mono m.im,
    o.zT, m.at o.zL o.zT (fun z => nomatch z), o.zN, fun i x b e1 e2 => (o.zA i x b e1 e2).mv m (fun z => nomatch z), o.kA.mono m.im, m.im _ _ o.tL, o.tN, fun i b e1 => (o.tA i b e1).mv m (fun z => nomatch z), m.im _ _ o.nL, o.nN, fun i x b e1 e2 => (o.nA i x b e1 e2).mono m.im⟩
  rcases ix_snoc e1 with ⟨f1, _⟩ | ⟨f1, rfl⟩ <;> rcases ix_snoc e2 with ⟨f2, g2⟩ | ⟨f2, rfl⟩
  · exact (o.eA i y b f1 f2).mv m (fun z => nomatch z) (fun z => nomatch z)
  · have := (List.getElem?_eq_some_iff.mp f1).1
    have := o.eN
    omega
  · have := o.eN
    omega
  · rw [f1]
    exact hS.mv m (fun z => nomatch z) (fun z => nomatch z)
theorem Own.addRul (o : Own c H st s τ d) {a : Addr} {x : Kct7.Rule} (hR : RulAt c (im H τ) a x) : Own c (upd H d.aR (.lst (d.ra.map .ref ++ [.ref a]))) st { s with rules := s.rules ++ [x] } τ { d with ra := d.ra ++ [a] } := by
  have m : Mv τ .rul H (upd H d.aR (.lst (d.ra.map .ref ++ [.ref a]))) := mv_upd o.rT
  refine ⟨o.wf.upd rfl, o.sT, m.at o.sO o.sT (fun z => nomatch z), o.eT, m.at o.eL o.eT (fun z => nomatch z), o.eN, fun i x b e1 e2 => (o.eA i x b e1 e2).mv m (fun z => nomatch z) (fun z => nomatch z), o.rT, by rw [upd_same, List.map_append]; rfl, by rw [List.length_append, List.length_append, o.rN]; rfl, fun i y b e1 e2 => ?_,
    o.zT, m.at o.zL o.zT (fun z => nomatch z), o.zN, fun i x b e1 e2 => (o.zA i x b e1 e2).mv m (fun z => nomatch z), o.kA.mono m.im, m.im _ _ o.tL, o.tN, fun i b e1 => (o.tA i b e1).mv m (fun z => nomatch z), m.im _ _ o.nL, o.nN, fun i x b e1 e2 => (o.nA i x b e1 e2).mono m.im⟩
  rcases ix_snoc e1 with ⟨f1, _⟩ | ⟨f1, rfl⟩ <;> rcases ix_snoc e2 with ⟨f2, g2⟩ | ⟨f2, rfl⟩
  · exact (o.rA i y b f1 f2).mono m.im
  · have := (List.getElem?_eq_some_iff.mp f1).1
    have := o.rN
    omega
  · have := o.rN
    omega
  · exact hR.mono m.im
theorem Own.addSil (o : Own c H st s τ d) {a : Addr} {x : Option Kct7.Silence} (hZ : SilAt c H τ s.silences.length a x) : Own c (upd H d.aZ (.lst (d.za.map .ref ++ [.ref a]))) st { s with silences := s.silences ++ [x] } τ { d with za := d.za ++ [a] } := by
  have m : Mv τ .sil H (upd H d.aZ (.lst (d.za.map .ref ++ [.ref a]))) := mv_upd o.zT
  refine ⟨o.wf.upd rfl, o.sT, m.at o.sO o.sT (fun z => nomatch z), o.eT, m.at o.eL o.eT (fun z => nomatch z), o.eN, fun i x b e1 e2 => (o.eA i x b e1 e2).mv m (fun z => nomatch z) (fun z => nomatch z), o.rT, m.at o.rL o.rT (fun z => nomatch z), o.rN, fun i x b e1 e2 => (o.rA i x b e1 e2).mono m.im,
    o.zT, by rw [upd_same, List.map_append]; rfl, by rw [List.length_append, List.length_append, o.zN]; rfl, fun i y b e1 e2 => ?_, o.kA.mono m.im, m.im _ _ o.tL, o.tN, fun i b e1 => (o.tA i b e1).mv m (fun z => nomatch z), m.im _ _ o.nL, o.nN, fun i x b e1 e2 => (o.nA i x b e1 e2).mono m.im⟩
  rcases ix_snoc e1 with ⟨f1, _⟩ | ⟨f1, rfl⟩ <;> rcases ix_snoc e2 with ⟨f2, g2⟩ | ⟨f2, rfl⟩
  · exact (o.zA i y b f1 f2).mv m (fun z => nomatch z)
  · have := (List.getElem?_eq_some_iff.mp f1).1
    have := o.zN
    omega
  · have := o.zN
    omega
  · rw [f1]
    exact hZ.mv m (fun z => nomatch z)
theorem Own.endSil (o : Own c H st s τ d) {k : Nat} {a dx : Addr} {z : Kct7.Silence} (hk : d.za[k]? = some a) : Own c (upd H a (.ins c.Silence dx (silF z true))) st { s with silences := s.silences.set k none } τ d := by
  obtain ⟨x0, hx0⟩ := two_at o.zN hk
  obtain ⟨dx0, z0, ta, _, _⟩ := o.zA k x0 a hx0 hk
  have m : Mv τ (.zob k) H (upd H a (.ins c.Silence dx (silF z true))) := mv_upd ta
  refine ⟨o.wf.upd rfl, o.sT, m.at o.sO o.sT (fun z => nomatch z), o.eT, m.at o.eL o.eT (fun z => nomatch z), o.eN, fun i x b e1 e2 => (o.eA i x b e1 e2).mv m (fun z => nomatch z) (fun z => nomatch z), o.rT, m.at o.rL o.rT (fun z => nomatch z), o.rN, fun i x b e1 e2 => (o.rA i x b e1 e2).mono m.im,
    o.zT, m.at o.zL o.zT (fun z => nomatch z), by rw [List.length_set]; exact o.zN, fun i y b e1 e2 => ?_, o.kA.mono m.im, m.im _ _ o.tL, o.tN, fun i b e1 => (o.tA i b e1).mv m (fun z => nomatch z), m.im _ _ o.nL, o.nN, fun i x b e1 e2 => (o.nA i x b e1 e2).mono m.im⟩
  by_cases hi : k = i
  · subst hi
    have e : b = a := Option.some.inj (e2.symm.trans hk)
    subst e
    rw [List.getElem?_set_self (List.getElem?_eq_some_iff.mp hx0).1] at e1
    cases e1
    exact ⟨dx, z, ta, upd_same, fun y hy => by cases hy⟩
  · rw [List.getElem?_set_ne hi] at e1
    exact (o.zA i y b e1 e2).mv m (fun z => hi (Rl.zob.inj z).symm)
theorem Own.sampled (o : Own c H st s τ d) {k : Nat} {a dx t m : Addr} {x : Kct7.Series} {l : List Kct7.Sample} (hk : d.sa[k]? = some a) (hx : s.series[k]? = some x) (hI : im H τ a = some (.ins c.Series dx (serF x.kind x.group t m))) (tt : τ t = some (.tim k)) (tm : τ m = some (.mea k)) :
    Own c (upd (upd H t (.lst (l.map fun y => V.int (y.time : Nat)))) m (.lst (l.map fun y => V.int y.value))) st { s with series := s.series.set k { x with samples := l } } τ d := by
  have m1 : Mv τ (.tim k) H (upd H t (.lst (l.map fun y => V.int (y.time : Nat)))) := mv_upd tt
  have m2 : Mv τ (.mea k) (upd H t (.lst (l.map fun y => V.int (y.time : Nat)))) (upd (upd H t (.lst (l.map fun y => V.int (y.time : Nat)))) m (.lst (l.map fun y => V.int y.value))) := mv_upd tm
  have at' : ∀ {b : Addr} {ob : HO} {r : Rl}, H b = some ob → τ b = some r → r ≠ .tim k → r ≠ .mea k → upd (upd H t (.lst (l.map fun y => V.int (y.time : Nat)))) m (.lst (l.map fun y => V.int y.value)) b = some ob := fun e t n1 n2 => m2.at (m1.at e t n1) t n2
  have ims := m1.im.trans m2.im
  refine ⟨(o.wf.upd rfl).upd rfl, o.sT, at' o.sO o.sT (fun z => nomatch z) (fun z => nomatch z), o.eT, at' o.eL o.eT (fun z => nomatch z) (fun z => nomatch z), by rw [List.length_set]; exact o.eN, fun i y b e1 e2 => ?_, o.rT, at' o.rL o.rT (fun z => nomatch z) (fun z => nomatch z), o.rN, fun i x b e1 e2 => (o.rA i x b e1 e2).mono ims,
    o.zT, at' o.zL o.zT (fun z => nomatch z) (fun z => nomatch z), o.zN, fun i x b e1 e2 => ((o.zA i x b e1 e2).mv m1 (fun z => nomatch z)).mv m2 (fun z => nomatch z), o.kA.mono ims, ims _ _ o.tL, o.tN, fun i b e1 => ((o.tA i b e1).mv m1 (fun z => nomatch z)).mv m2 (fun z => nomatch z), ims _ _ o.nL, o.nN, fun i x b e1 e2 => (o.nA i x b e1 e2).mono ims⟩
  by_cases hi : k = i
  · subst hi
    have e : b = a := Option.some.inj (e2.symm.trans hk)
    subst e
    rw [List.getElem?_set_self (List.getElem?_eq_some_iff.mp hx).1] at e1
    cases e1
    have ntm : t ≠ m := fun z => by rw [z, tm] at tt; cases tt
    exact ⟨dx, t, m, ims _ _ hI, tt, by rw [upd_ne ntm]; exact upd_same, tm, upd_same⟩
  · rw [List.getElem?_set_ne hi] at e1
    exact ((o.eA i y b e1 e2).mv m1 (fun z => hi (Rl.tim.inj z).symm) (fun z => nomatch z)).mv m2 (fun z => nomatch z) (fun z => hi (Rl.mea.inj z).symm)
end
/-! ### sample -/
def spSample (c : Cs) : Sp := fun vs H Q _ => ∃ (st : Addr) (s : Abs) (τ : Tg) (d : Ad) (k : Nat) (v : Int), vs = [.ref st, .int (k : Nat), .int v] ∧ Own c H st s τ d ∧ Mth.Ok s ∧ (s.series.length ≤ k → Q (.int (-2)) H) ∧ (k < s.series.length → Kct7.off Kct7.VALUE v = true → Q (.int (-22)) H) ∧
  (∀ x, s.series[k]? = some x → Kct7.off Kct7.VALUE v = false → ∀ H', Own c H' st { s with series := s.series.set k { x with samples := Kct7.newest (x.samples ++ [⟨s.now, v⟩]) } } τ d → Fo H τ H' τ → Q (.int 0) H')
theorem fd_sample (T : Txt K mg c) : G.Fd P w K mg base "sample" 1 (spSample c) := T.d_sample.fd fun f fd F => by
  have S := sc_sample
  have cT := T.c_State
  have cS := T.c_Series
  have n1 := T.v_MISSING
  have n2 := T.v_WRONG
  have n3 := T.v_WIDEST_VALUE
  have n4 := T.v_MOST_MEASURED
  have bl := T.b_len
  have ba := T.b_abs
  refine F.ok S (fun vs H Q E h => ?_) (fun cdv A outer s H vs Q E hr h => ?_)
  · obtain ⟨st, s, τ, d, k, v, rfl, _⟩ := h
    rfl
  · obtain ⟨st, s, τ, d, k, v, rfl, o, ok, k1, k2, k3⟩ := h
    have e0 := o.sO
    have eL := o.eL
    wtm_at "INIT"
    wtm_at "GO"
    refine G.s_if (by wtm_at "EVT") (fun h => ?_) (fun h => ?_)
    · have h := of_decide_eq_true h
      rw [List.length_map, o.eN] at h
      wtm_at "GO"
      exact k1 (by omega)
    · have h := of_decide_eq_false h
      rw [List.length_map, o.eN] at h
      have hk : k < s.series.length := by omega
      wtm_at "GO"
      wtm_at "GO"
      refine G.s_if (by wtm_at "EVT") (fun h1 => ?_) (fun h1 => ?_)
      · have h1 := of_decide_eq_true h1
        wtm_at "GO"
        refine k2 hk ?_
        unfold Kct7.off Kct7.VALUE
        rw [Bool.or_eq_true, decide_eq_true_eq, decide_eq_true_eq]
        split at h1 <;> omega
      · have h1 := of_decide_eq_false h1
        have hoff : Kct7.off Kct7.VALUE v = false := by
          unfold Kct7.off Kct7.VALUE
          rw [Bool.or_eq_false_iff, decide_eq_false_iff_not, decide_eq_false_iff_not]
          split at h1 <;> omega
        obtain ⟨x, hx⟩ : ∃ x, s.series[k]? = some x := ⟨s.series[k], List.getElem?_eq_getElem hk⟩
        obtain ⟨a, ha⟩ := two_of o.eN hx
        obtain ⟨dx, t, m, hI, tt, ht, tm, hm⟩ := o.eA k x a hx ha
        have hI' := im_at hI
        have okx := ok.ser x (List.mem_of_getElem? hx)
        have ntm : t ≠ m := fun z => by rw [z, tm] at tt; cases tt
        have nat : a ≠ t := fun z => by have := im_tag hI; rw [z, tt] at this; cases this
        have nam : a ≠ m := fun z => by have := im_tag hI; rw [z, tm] at this; cases this
        have nst : st ≠ t := fun z => by have := o.sT; rw [z, tt] at this; cases this
        have nsm : st ≠ m := fun z => by have := o.sT; rw [z, tm] at this; cases this
        -- the end: both lists grow
        have fin : ∀ (l : List Kct7.Sample) (H1 : Hp), l.length ≤ 64 → (∀ b ob, H b = some ob → b ≠ t → b ≠ m → H1 b = some ob) → (H1 t = some (.lst (l.map fun y => V.int (y.time : Nat)))) → H1 m = some (.lst (l.map fun y => V.int y.value)) → (∀ b, H1 b = none → H b = none) → (∀ b, b ≠ t → b ≠ m → H1 b = H b) →
            Kct7.newest (x.samples ++ [⟨s.now, v⟩]) = l ++ [⟨s.now, v⟩] →
            tSeq (tDrop (tBM K "list" rAppend (tFld K (tVar 3) "times") (tCons (tFld K (tVar 0) "now") tNil))) (tSeq (tDrop (tBM K "list" rAppend (tFld K (tVar 3) "measured") (tCons (tVar 2) tNil))) (tRet (tC (.int 0)))) { nx := fun _ H' => Q V.non H', rt := Q } [some (.ref st), some (.int (k : Nat)), some (.int v), some (.ref a)] H1 := by
          intro l H1 hl kp h1t h1m _ eqH en
          have hA1 := kp _ _ hI' nat nam
          have hS1 := kp _ _ e0 nst nsm
          wtm_at "GO"
          refine G.s_app (by wtm_at "EV") (by wtm_at "EV") h1t (by rw [List.length_map]; exact Nat.lt_of_le_of_lt hl (by decide)) ?_
          dsimp only
          have hA2 : upd H1 t (.lst ((l.map fun y => V.int (y.time : Nat)) ++ [.int (s.now : Nat)])) a = some (.ins c.Series dx (serF x.kind x.group t m)) := by rw [upd_ne nat]; exact hA1
          wtm_at "GO"
          refine G.s_app (l := m) (by wtm_at "EV") (by wtm_at "EV") (by rw [upd_ne (Ne.symm ntm)]; exact h1m) (by rw [List.length_map]; exact Nat.lt_of_le_of_lt hl (by decide)) ?_
          dsimp only
          wtm_at "GO"
          have e1 : (l.map fun y => V.int (y.time : Nat)) ++ [.int (s.now : Nat)] = (l ++ [(⟨s.now, v⟩ : Kct7.Sample)]).map fun y => V.int (y.time : Nat) := by rw [List.map_append]; rfl
          have e2 : (l.map fun y => V.int y.value) ++ [.int v] = (l ++ [(⟨s.now, v⟩ : Kct7.Sample)]).map fun y => V.int y.value := by rw [List.map_append]; rfl
          rw [e1, e2]
          have eH : upd (upd H1 t (.lst ((l ++ [(⟨s.now, v⟩ : Kct7.Sample)]).map fun y => V.int (y.time : Nat)))) m (.lst ((l ++ [(⟨s.now, v⟩ : Kct7.Sample)]).map fun y => V.int y.value)) = upd (upd H t (.lst ((l ++ [(⟨s.now, v⟩ : Kct7.Sample)]).map fun y => V.int (y.time : Nat)))) m (.lst ((l ++ [(⟨s.now, v⟩ : Kct7.Sample)]).map fun y => V.int y.value)) := by
            funext b
            by_cases b1 : b = m
            · subst b1; rw [upd_same, upd_same]
            · rw [upd_ne b1, upd_ne b1]
              by_cases b2 : b = t
              · subst b2; rw [upd_same, upd_same]
              · rw [upd_ne b2, upd_ne b2]; exact eqH b b2 b1
          rw [eH, ← en]
          exact k3 x hx hoff _ (o.sampled ha hx hI tt tm) ((Fo.mv (mv_upd (o := _) tt) (fun z => nomatch z)).trans (Fo.mv (mv_upd (o := _) tm) (fun z => nomatch z)))
        wtm_at "GO"
        wtm_at "GO"
        refine G.s_set (v := .ref a) (G.ev_ixAL (by wtm_at "EV") (by wtm_at "EV") (SqL.of eL) rfl (at_ref ha)) ?_
        dsimp only [List.set]
        wtm_at "GO"
        refine G.s_if (by wtm_at "EVT") (fun h2 => ?_) (fun h2 => ?_)
        · have h2 := of_decide_eq_true h2
          rw [List.length_map] at h2
          have hl : x.samples.length = 64 := by omega
          obtain ⟨y, ys, ey⟩ : ∃ y ys, x.samples = y :: ys := by
            cases hh : x.samples with
            | nil => rw [hh] at hl; cases hl
            | cons y ys => exact ⟨y, ys, rfl⟩
          have ht2 := ht
          have hm2 := hm
          rw [ey, List.map_cons] at ht2 hm2
          wtm_at "GO"
          refine G.s_pop0 (by wtm_at "EV") ht2 ?_
          dsimp only
          have hA2 : upd H t (.lst (ys.map fun y => V.int (y.time : Nat))) a = some (.ins c.Series dx (serF x.kind x.group t m)) := by rw [upd_ne nat]; exact hI'
          refine G.s_pop0 (l := m) (by wtm_at "EV") (by rw [upd_ne (Ne.symm ntm)]; exact hm2) ?_
          refine fin ys _ (by rw [ey] at hl; simp at hl; omega) (fun b ob e b1 b2 => by rw [upd_ne b2, upd_ne b1]; exact e) (by rw [upd_ne ntm]; exact upd_same) upd_same (fun b e => ?_) (fun b b1 b2 => by rw [upd_ne b2, upd_ne b1]) ?_
          · by_cases b1 : b = m
            · subst b1; rw [upd_same] at e; cases e
            · rw [upd_ne b1] at e
              by_cases b2 : b = t
              · subst b2; rw [upd_same] at e; cases e
              · rw [upd_ne b2] at e; exact e
          · rw [Mth.newest_full hl, ey]; rfl
        · have h2 := of_decide_eq_false h2
          rw [List.length_map] at h2
          have hl : x.samples.length < 64 := by have := okx.len; omega
          wtm_at "GO"
          exact fin x.samples H okx.len (fun b ob e _ _ => e) ht hm (fun b e => e) (fun _ _ _ => rfl) (Mth.newest_less hl)
end
section
variable {P : Program} {w : World} {K : PySem.W.Frag} {mg : Str → Option Value} {base : Heap} {c : Cs}
open Kct7 (Phase Pair Abs)
def spAddSer (c : Cs) : Sp := fun vs H Q _ => ∃ (st : Addr) (s : Abs) (τ : Tg) (d : Ad) (H0 : Hp) (a dx t m : Addr) (k g : Nat), vs = [.ref st, .ref a] ∧ Own c H0 st s τ d ∧ Mth.Ok s ∧ Same H0 H ∧ H a = some (.ins c.Series dx (serF k g t m)) ∧ H0 a = none ∧ H0 t = none ∧ H0 m = none ∧ t ≠ m ∧ H t = some (.lst []) ∧ H m = some (.lst []) ∧
  ((31 < k ∨ 15 < g) → Q (.int (-22)) H) ∧ (¬ (31 < k ∨ 15 < g) → 64 ≤ s.series.length → Q (.int (-28)) H) ∧
  (¬ (31 < k ∨ 15 < g) → s.series.length < 64 → ∀ H' τ' d', Own c H' st { s with series := s.series ++ [⟨k, g, []⟩] } τ' d' → Fo H0 τ H' τ' → Q (.int (s.series.length : Nat)) H')
theorem fd_addser (T : Txt K mg c) : G.Fd P w K mg base "add_series" 2 (spAddSer c) := T.d_add_series.fd fun f fd F => by
  have S := sc_add_series
  have cT := T.c_State
  have cS := T.c_Series
  have n1 := T.v_LAST_KIND
  have n2 := T.v_LAST_GROUP
  have n3 := T.v_WRONG
  have n4 := T.v_MOST_SERIES
  have f1 : G.Fd P w K mg base "number_of_added" 1 spAdded := fd_added T
  refine F.ok S (fun vs H Q E h => ?_) (fun cdv A outer s H vs Q E hr h => ?_)
  · obtain ⟨st, s, τ, d, H0, a, dx, t, m, k, g, rfl, _⟩ := h
    rfl
  · obtain ⟨st, s, τ, d, H0, a, dx, t, m, k, g, rfl, o, ok, sm, ha, ha0, ht0, hm0, ntm, ht, hm, k1, k2, k3⟩ := h
    have e0 := sm _ _ o.sO
    wtm_at "INIT"
    wtm_at "GO"
    refine G.s_if (by wtm_at "EVT") (fun h => ?_) (fun h => ?_)
    · simp only [Bool.or_eq_true, decide_eq_true_eq] at h
      wtm_at "GO"
      exact k1 (by omega)
    · simp only [Bool.or_eq_false_iff, decide_eq_false_iff_not] at h
      have hn : ¬ (31 < k ∨ 15 < g) := by omega
      wtm_at "GO"
      refine G.s_ret (G.call_ (by wtm_at "EVA") ⟨d.aS, d.sa.map .ref, 64, .ref a, rfl, sm _ _ o.eL, ?_, fun hl => ?_, fun hl => ?_⟩)
      · rw [List.length_map, o.eN]; have := ok.ns; omega
      · rw [List.length_map, o.eN] at hl
        exact k2 hn (by omega)
      · rw [List.length_map, o.eN] at hl ⊢
        have w1 : Wf H (setT (setT τ t (.tim s.series.length)) m (.mea s.series.length)) := ((o.wf.same sm).set ht rfl).set hm rfl
        have tg : ∀ b x, H0 b = some x → setT (setT τ t (.tim s.series.length)) m (.mea s.series.length) b = τ b := fun b x e => by rw [setT_ne (ne_of_none e hm0), setT_ne (ne_of_none e ht0)]
        have o1 : Own c H st s (setT (setT τ t (.tim s.series.length)) m (.mea s.series.length)) d := o.lift (fun b x e => ⟨sm b x e, tg b x e⟩) w1
        have nat : a ≠ t := ne_of ha ht (fun z => nomatch z)
        have nam : a ≠ m := ne_of ha hm (fun z => nomatch z)
        have hS : SerAt c H (setT (setT τ t (.tim s.series.length)) m (.mea s.series.length)) s.series.length a ⟨k, g, []⟩ :=
          ⟨dx, t, m, im_iff.mpr ⟨ha, by rw [setT_ne nam, setT_ne nat]; exact o.wf.none ha0⟩, by rw [setT_ne ntm]; exact setT_same, ht, setT_same, hm⟩
        have i1 : Fo H0 τ H (setT (setT τ t (.tim s.series.length)) m (.mea s.series.length)) := Fo.tags fun b x e => ⟨sm b x e, tg b x e⟩
        exact k3 hn (by omega) _ _ _ (o1.addSer hS) (i1.trans (Fo.mv (mv_upd (o := _) o1.eT) (fun z => nomatch z)))
instance {r : Kct7.Rule} {u : Nat} : Decidable (badBound r u) := by unfold badBound; infer_instance
def badRule (r : Kct7.Rule) (u : Nat) : Prop := (31 < r.kind ∨ 5 < r.what ∨ 1 < u ∨ 3 < r.level) ∨ (r.window = 0 ∨ 16777216 < r.window ∨ 16777216 < r.hold) ∨ badBound r u
def spAddRul (c : Cs) : Sp := fun vs H Q _ => ∃ (st : Addr) (s : Abs) (τ : Tg) (d : Ad) (H0 : Hp) (a dx : Addr) (r : Kct7.Rule) (u : Nat), vs = [.ref st, .ref a] ∧ Own c H0 st s τ d ∧ Mth.Ok s ∧ Same H0 H ∧ H a = some (.ins c.Rule dx (rulF r u)) ∧ H0 a = none ∧ r.above = (u == 1) ∧
  (badRule r u → Q (.int (-22)) H) ∧ (¬ badRule r u → 32 ≤ s.rules.length → Q (.int (-28)) H) ∧
  (¬ badRule r u → s.rules.length < 32 → ∀ H' τ' d', Own c H' st { s with rules := s.rules ++ [r] } τ' d' → Fo H0 τ H' τ' → Q (.int (s.rules.length : Nat)) H')
theorem fd_addrul (T : Txt K mg c) : G.Fd P w K mg base "add_rule" 2 (spAddRul c) := T.d_add_rule.fd fun f fd F => by
  have S := sc_add_rule
  have cT := T.c_State
  have n3 := T.v_WRONG
  have n4 := T.v_MOST_RULES
  have f1 : G.Fd P w K mg base "number_of_added" 1 spAdded := fd_added T
  have f2 : G.Fd P w K mg base "is_wrong_choice" 1 (spChoice c) := fd_choice T
  have f3 : G.Fd P w K mg base "is_wrong_span" 1 (spSpan c) := fd_span T
  have f4 : G.Fd P w K mg base "is_wrong_bound" 1 (spBound c) := fd_bound T
  refine F.ok S (fun vs H Q E h => ?_) (fun cdv A outer s H vs Q E hr h => ?_)
  · obtain ⟨st, s, τ, d, H0, a, dx, r, u, rfl, _⟩ := h
    rfl
  · obtain ⟨st, s, τ, d, H0, a, dx, r, u, rfl, o, ok, sm, ha, ha0, hab, k1, k2, k3⟩ := h
    have e0 := sm _ _ o.sO
    wtm_at "INIT"
    wtm_at "GO"
    refine G.s_if (G.evt_or (G.evt_tB (G.ev_call (by wtm_at "EVA") (fun _ q => ⟨a, dx, r, u, rfl, ha, q⟩))) (fun _ => G.evt_or (G.evt_tB (G.ev_call (by wtm_at "EVA") (fun _ q => ⟨a, dx, r, u, rfl, ha, q⟩))) (fun _ => G.evt_tB (G.ev_call (v := .bl (decide (badBound r u))) (by wtm_at "EVA") (fun _ q => ⟨a, dx, r, u, rfl, ha, fun b hb => by
      have e : b = decide (badBound r u) := by rw [Bool.eq_iff_iff, decide_eq_true_eq]; exact hb
      rw [e]; exact q⟩))))) (fun h => ?_) (fun h => ?_)
    · simp only [Bool.or_eq_true, decide_eq_true_eq] at h
      wtm_at "GO"
      exact k1 h
    · simp only [Bool.or_eq_false_iff, decide_eq_false_iff_not] at h
      have hn : ¬ badRule r u := fun z => by
        rcases z with z | z | z
        · exact h.1 z
        · exact h.2.1 z
        · exact h.2.2 z
      wtm_at "GO"
      refine G.s_ret (G.call_ (by wtm_at "EVA") ⟨d.aR, d.ra.map .ref, 32, .ref a, rfl, sm _ _ o.rL, ?_, fun hl => ?_, fun hl => ?_⟩)
      · rw [List.length_map, o.rN]; have := ok.nr; omega
      · rw [List.length_map, o.rN] at hl
        exact k2 hn (by omega)
      · rw [List.length_map, o.rN] at hl ⊢
        have o1 := o.same sm
        exact k3 hn (by omega) _ _ _ (o1.addRul ⟨dx, u, im_iff.mpr ⟨ha, o.wf.none ha0⟩, hab⟩) ((Fo.same sm).trans (Fo.mv (mv_upd (o := _) o1.rT) (fun z => nomatch z)))
def badSil (s : Abs) (z : Kct7.Silence) : Prop := (z.rule ≠ 255 ∧ s.rules.length ≤ z.rule) ∨ (z.group ≠ 255 ∧ 15 < z.group) ∨ z.till ≤ z.from_ ∨ 1099511627776 < z.till
def spAddSil (c : Cs) : Sp := fun vs H Q _ => ∃ (st : Addr) (s : Abs) (τ : Tg) (d : Ad) (H0 : Hp) (a dx : Addr) (z : Kct7.Silence), vs = [.ref st, .ref a] ∧ Own c H0 st s τ d ∧ Mth.Ok s ∧ Same H0 H ∧ H a = some (.ins c.Silence dx (silF z false)) ∧ H0 a = none ∧
  (badSil s z → Q (.int (-22)) H) ∧ (¬ badSil s z → 32 ≤ s.silences.length → Q (.int (-28)) H) ∧
  (¬ badSil s z → s.silences.length < 32 → ∀ H' τ' d', Own c H' st { s with silences := s.silences ++ [some z] } τ' d' → Fo H0 τ H' τ' → Q (.int (s.silences.length : Nat)) H')
theorem fd_addsil (T : Txt K mg c) : G.Fd P w K mg base "add_silence" 2 (spAddSil c) := T.d_add_silence.fd fun f fd F => by
  have S := sc_add_silence
  have cT := T.c_State
  have cZ := T.c_Silence
  have n1 := T.v_ANY
  have n2 := T.v_LAST_GROUP
  have n3 := T.v_WRONG
  have n4 := T.v_MOST_SILENCES
  have n5 := T.v_LAST_TIME
  have bl := T.b_len
  have f1 : G.Fd P w K mg base "number_of_added" 1 spAdded := fd_added T
  refine F.ok S (fun vs H Q E h => ?_) (fun cdv A outer s H vs Q E hr h => ?_)
  · obtain ⟨st, s, τ, d, H0, a, dx, z, rfl, _⟩ := h
    rfl
  · obtain ⟨st, s, τ, d, H0, a, dx, z, rfl, o, ok, sm, ha, ha0, k1, k2, k3⟩ := h
    have e0 := sm _ _ o.sO
    have eR := sm _ _ o.rL
    wtm_at "INIT"
    wtm_at "GO"
    refine G.s_if (by wtm_at "EVT") (fun h => ?_) (fun h => ?_)
    · simp only [Bool.and_eq_true, Bool.not_eq_true', decide_eq_true_eq, decide_eq_false_iff_not, List.length_map, o.rN] at h
      wtm_at "GO"
      exact k1 (.inl (by omega))
    simp only [Bool.and_eq_false_iff, Bool.not_eq_false', decide_eq_true_eq, decide_eq_false_iff_not, List.length_map, o.rN] at h
    wtm_at "GO"
    wtm_at "GO"
    refine G.s_if (by wtm_at "EVT") (fun h2 => ?_) (fun h2 => ?_)
    · simp only [Bool.and_eq_true, Bool.not_eq_true', decide_eq_true_eq, decide_eq_false_iff_not] at h2
      wtm_at "GO"
      exact k1 (.inr (.inl (by omega)))
    simp only [Bool.and_eq_false_iff, Bool.not_eq_false', decide_eq_true_eq, decide_eq_false_iff_not] at h2
    wtm_at "GO"
    wtm_at "GO"
    refine G.s_if (by wtm_at "EVT") (fun h3 => ?_) (fun h3 => ?_)
    · simp only [Bool.or_eq_true, decide_eq_true_eq] at h3
      wtm_at "GO"
      exact k1 (.inr (.inr (by omega)))
    simp only [Bool.or_eq_false_iff, decide_eq_false_iff_not] at h3
    have hn : ¬ badSil s z := by unfold badSil; omega
    wtm_at "GO"
    refine G.s_ret (G.call_ (by wtm_at "EVA") ⟨d.aZ, d.za.map .ref, 32, .ref a, rfl, sm _ _ o.zL, ?_, fun hl => ?_, fun hl => ?_⟩)
    · rw [List.length_map, o.zN]; have := ok.nz; omega
    · rw [List.length_map, o.zN] at hl
      exact k2 hn (by omega)
    · rw [List.length_map, o.zN] at hl ⊢
      have w1 : Wf H (setT τ a (.zob s.silences.length)) := (o.wf.same sm).set ha rfl
      have tg : ∀ b x, H0 b = some x → setT τ a (.zob s.silences.length) b = τ b := fun b x e => setT_ne (ne_of_none e ha0)
      have o1 : Own c H st s (setT τ a (.zob s.silences.length)) d := o.lift (fun b x e => ⟨sm b x e, tg b x e⟩) w1
      have i1 : Fo H0 τ H (setT τ a (.zob s.silences.length)) := Fo.tags fun b x e => ⟨sm b x e, tg b x e⟩
      exact k3 hn (by omega) _ _ _ (o1.addSil ⟨dx, z, setT_same, ha, fun y hy => (Option.some.inj hy).symm⟩) (i1.trans (Fo.mv (mv_upd (o := _) o1.zT) (fun z => nomatch z)))
def spEnd (c : Cs) : Sp := fun vs H Q _ => ∃ (st : Addr) (s : Abs) (τ : Tg) (d : Ad) (k : Nat), vs = [.ref st, .int (k : Nat)] ∧ Own c H st s τ d ∧ Mth.Ok s ∧ ((∀ z, s.silences[k]? ≠ some (some z)) → Q (.int (-2)) H) ∧
  (∀ z, s.silences[k]? = some (some z) → ∀ H', Own c H' st { s with silences := s.silences.set k none } τ d → Fo H τ H' τ → Q (.int 0) H')
theorem fd_end (T : Txt K mg c) : G.Fd P w K mg base "end_silence" 1 (spEnd c) := T.d_end_silence.fd fun f fd F => by
  have S := sc_end_silence
  have cT := T.c_State
  have cZ := T.c_Silence
  have n1 := T.v_MISSING
  have bl := T.b_len
  refine F.ok S (fun vs H Q E h => ?_) (fun cdv A outer s H vs Q E hr h => ?_)
  · obtain ⟨st, s, τ, d, k, rfl, _⟩ := h
    rfl
  · obtain ⟨st, s, τ, d, k, rfl, o, ok, k1, k2⟩ := h
    have e0 := o.sO
    have eZ := o.zL
    wtm_at "INIT"
    wtm_at "GO"
    refine G.s_if (by wtm_at "EVT") (fun h => ?_) (fun h => ?_)
    · have h := of_decide_eq_true h
      rw [List.length_map, o.zN] at h
      wtm_at "GO"
      refine k1 fun z e => ?_
      have := (List.getElem?_eq_some_iff.mp e).1
      omega
    · have h := of_decide_eq_false h
      rw [List.length_map, o.zN] at h
      have hk : k < s.silences.length := by omega
      obtain ⟨x, hx⟩ : ∃ x, s.silences[k]? = some x := ⟨s.silences[k], List.getElem?_eq_getElem hk⟩
      obtain ⟨a, ha⟩ := two_of o.zN hx
      obtain ⟨dx, z, ta, hz, hy⟩ := o.zA k x a hx ha
      wtm_at "GO"
      wtm_at "GO"
      refine G.s_set (v := .ref a) (G.ev_ixAL (by wtm_at "EV") (by wtm_at "EV") (SqL.of eZ) rfl (at_ref ha)) ?_
      dsimp only [List.set]
      wtm_at "GO"
      cases x with
      | none =>
        wtm_at "IFT"
        wtm_at "GO"
        refine k1 fun y e => ?_
        rw [hx] at e
        cases e
      | some y =>
        wtm_at "IFF"
        wtm_at "GO"
        wtm_at "GO"
        wtm_at "GO"
        wtm_at "GO"
        have o1 := o.endSil (dx := dx) (z := z) ha
        exact k2 y hx _ o1 (Fo.mv (mv_upd (o := _) ta) (fun z => nomatch z))
end
section
variable {P : Program} {w : World} {K : PySem.W.Frag} {mg : Str → Option Value} {base : Heap} {c : Cs}
open Kct7 (Phase Pair Abs first)
/-! ### start_over, State, begin -/
theorem lc_tolds {σ : L2.St} {H : Hp} {Q : VK} {te : TE} {i : Nat} (he : G.Ev te σ H (.int 16)) (hw : ∀ x, wipe ((wipe σ [i]).set i (some x)) [i] = wipe σ [i])
    (q : ∀ (Dd : Addr) (as : List Addr) H', Same H H' → H Dd = none → H' Dd = some (.lst (as.map V.ref)) → as.length = 16 → as.Nodup → (∀ a ∈ as, H a = none ∧ ∃ dx p, H' a = some (.ins c.Told dx (tldF p none)) ∧ H p = none ∧ H' p = some (.lst []) ∧ p ≠ Dd) → Q (.ref Dd) H') :
    tLc (iRng1 (tCons te tNil)) (gName i) tYes (tMake c.Told (spTold c) [] E0 tNil) [i] σ H Q := by
  refine he _ ⟨16, rfl, by omega, by omega, fun Dd hD => ?_⟩
  refine lc_range (lo := 0) (n := 16) (fun n H' => ∃ as : List Addr, Same H H' ∧ H' Dd = some (.lst (as.map V.ref)) ∧ as.length = n ∧ as.Nodup ∧ ∀ a ∈ as, H a = none ∧ ∃ dx p, H' a = some (.ins c.Told dx (tldF p none)) ∧ H p = none ∧ H' p = some (.lst []) ∧ p ≠ Dd)
    ⟨[], same_new hD, upd_same, rfl, List.nodup_nil, fun a ha => by cases ha⟩ (fun n H' hn ⟨as, sm, h1, h2, h3, h4⟩ => ?_) fun H' ⟨as, sm, h1, h2, h3, h4⟩ => q Dd as H' sm hD h1 h2 h3 h4
  refine ⟨hw _, ?_⟩
  unfold tYes
  refine L2.iteT ?_
  refine G.make_ G.eva_nil fun x dx nx nd ndx => ⟨x, dx, rfl, upd_same, fun p hp => ⟨rfl, ?_⟩⟩
  have npx : p ≠ x := fun z => by rw [z, upd_same] at hp; cases hp
  have hp1 : upd H' dx (.own x) p = none := by rw [upd_ne npx] at hp; exact hp
  have npd : p ≠ dx := fun z => by rw [z, upd_same] at hp1; cases hp1
  have hp2 : H' p = none := by rw [upd_ne npd] at hp1; exact hp1
  have old : ∀ b o, H' b = some o → upd (upd (upd (upd H' dx (.own x)) x (.ins c.Told dx [])) p (.lst [])) x (.ins c.Told dx (tldF p none)) b = some o := fun b o e => by
    rw [upd_ne (ne_of_none e nx), upd_ne (ne_of_none e hp2), upd_ne (ne_of_none e nx), upd_ne (ne_of_none e nd)]; exact e
  have gx : upd (upd (upd (upd H' dx (.own x)) x (.ins c.Told dx [])) p (.lst [])) x (.ins c.Told dx (tldF p none)) x = some (.ins c.Told dx (tldF p none)) := upd_same
  have gp : upd (upd (upd (upd H' dx (.own x)) x (.ins c.Told dx [])) p (.lst [])) x (.ins c.Told dx (tldF p none)) p = some (.lst []) := by rw [upd_ne npx]; exact upd_same
  generalize upd (upd (upd (upd H' dx (.own x)) x (.ins c.Told dx [])) p (.lst [])) x (.ins c.Told dx (tldF p none)) = H4 at old gx gp ⊢
  have nxD : x ≠ Dd := fun z => by rw [z, h1] at nx; cases nx
  have npD : p ≠ Dd := fun z => by rw [z, h1] at hp2; cases hp2
  have xas : x ∉ as := fun z => by
    obtain ⟨_, dx', p', e, _⟩ := h4 x z
    rw [nx] at e; cases e
  refine ⟨as.map V.ref, old _ _ h1, by rw [List.length_map, h2]; exact Nat.lt_trans hn (by decide), as ++ [x], fun b o e => ?_, by rw [upd_same, List.map_append]; rfl, by rw [List.length_append, h2]; rfl, ?_, fun b hb => ?_⟩
  · rw [upd_ne (ne_of_none e hD)]; exact old _ _ (sm _ _ e)
  · rw [List.nodup_append]
    exact ⟨h3, by simp, fun a ha b hb z => by rw [List.mem_singleton.mp hb] at z; rw [z] at ha; exact xas ha⟩
  · rcases List.mem_append.mp hb with hb | hb
    · obtain ⟨z1, dx', p', z2, z3, z4, z5⟩ := h4 b hb
      have nb : b ≠ Dd := fun z => by rw [z, h1] at z2; cases z2
      exact ⟨z1, dx', p', by rw [upd_ne nb]; exact old _ _ z2, z3, by rw [upd_ne z5]; exact old _ _ z4, z5⟩
    · rw [List.mem_singleton.mp hb]
      exact ⟨sm.free nx, dx, p, by rw [upd_ne nxD]; exact gx, sm.free hp2, by rw [upd_ne npD]; exact gp, npD⟩
/-- a new object is laid, then a field of the state is set -/
theorem put_new {H1 : Hp} {st p : Addr} {Y X o : HO} (hst : H1 st = some Y) (hp : H1 p = none) : p ≠ st ∧ upd (upd H1 p o) st X st = some X ∧ upd (upd H1 p o) st X p = some o ∧ (∀ b y, H1 b = some y → b ≠ st → upd (upd H1 p o) st X b = some y) ∧ ∀ b, upd (upd H1 p o) st X b = none → H1 b = none := by
  have n : p ≠ st := fun z => by rw [z, hst] at hp; cases hp
  refine ⟨n, upd_same, by rw [upd_ne n]; exact upd_same, fun b y e nb => by rw [upd_ne nb, upd_ne (ne_of_none e hp)]; exact e, fun b e => ?_⟩
  by_cases h1 : b = st
  · subst h1; rw [upd_same] at e; cases e
  · rw [upd_ne h1] at e
    by_cases h2 : b = p
    · subst h2; exact hp
    · rw [upd_ne h2] at e; exact e
def allF (v1 v2 v3 v4 v5 v6 v7 v8 v9 : V) : List (Str × V) := [("wait", v1), ("again", v2), ("now", v3), ("series", v4), ("rules", v5), ("silences", v6), ("known", v7), ("told", v8), ("notes", v9)]
def spStart (c : Cs) : Sp := fun vs H Q _ => ∃ (st dx : Addr) (fs : List (Str × V)) (w a : Nat) (τ : Tg), vs = [.ref st, .int (w : Nat), .int (a : Nat)] ∧ H st = some (.ins c.State dx fs) ∧ fs.length ≤ 9 ∧
  (∀ v1 v2 v3 v4 v5 v6 v7 v8 v9, putF "notes" v9 (putF "told" v8 (putF "known" v7 (putF "silences" v6 (putF "rules" v5 (putF "series" v4 (putF "now" v3 (putF "again" v2 (putF "wait" v1 fs)))))))) = allF v1 v2 v3 v4 v5 v6 v7 v8 v9) ∧ Wf H τ ∧ τ st = some .st ∧
  ∀ H' τ' d', Own c H' st (first w a) τ' d' → Fo H τ H' τ' → Q .non H'
theorem lenF {f : Str} {v : V} {fs : List (Str × V)} {n : Nat} (h : fs.length ≤ n) : (putF f v fs).length ≤ n + 1 := Nat.le_trans (length_putF _ _ _) (Nat.succ_le_succ h)
theorem lt1000 {fs : List (Str × V)} {n : Nat} (h : fs.length ≤ n) (hn : n < 1000) : fs.length < 1000 := Nat.lt_of_le_of_lt h hn
theorem idx_of {l : List Addr} (nd : l.Nodup) {g : Nat} {a : Addr} (h : l[g]? = some a) : l.idxOf a = g := by
  obtain ⟨hg, e⟩ := List.getElem?_eq_some_iff.mp h
  have hm : a ∈ l := List.mem_of_getElem? h
  have h2 : l[l.idxOf a]? = some a := by
    rw [List.getElem?_eq_getElem (List.idxOf_lt_length_of_mem hm), List.getElem_idxOf]
  exact nd_ix nd h2 h
theorem mt_start (T : Txt K mg c) : G.MetOk P w K mg base c.State "start_over" 3 (spStart c) := T.m_State_start_over.ok fun f fd F => by
  have S := sc_State_start_over
  have cT := T.c_State
  have n1 := T.v_LAST_GROUP
  have br := T.b_range
  have f1 : G.Md P w K mg base "Told" c.Told 1 (spTold c) := md_told T
  refine F.ok S (fun vs H Q E h => ?_) (fun cdv A outer s H vs Q E hr h => ?_)
  · obtain ⟨st, dx, fs, w, a, τ, rfl, _⟩ := h
    rfl
  · obtain ⟨st, dx, fs, w, a, τ, rfl, hst, hfs, hput, wf, tst, k⟩ := h
    wtm_at "INIT"
    wtm_at "GO"
    refine G.s_fld (by wtm_at "EV") (by wtm_at "EV") hst cT (by rfl) (lt1000 hfs (by decide)) ?_
    dsimp only
    wtm_at "GO"
    refine G.s_fld (by wtm_at "EV") (by wtm_at "EV") upd_same cT (by rfl) (lt1000 (lenF hfs) (by decide)) ?_
    dsimp only
    rw [upd_upd]
    wtm_at "GO"
    refine G.s_fld (by wtm_at "EV") (by wtm_at "EV") upd_same cT (by rfl) (lt1000 (lenF (lenF hfs)) (by decide)) ?_
    dsimp only
    rw [upd_upd]
    have e3 : upd H st (.ins c.State dx (putF "now" (.int 0) (putF "again" (.int (a : Nat)) (putF "wait" (.int (w : Nat)) fs)))) st = some (.ins c.State dx (putF "now" (.int 0) (putF "again" (.int (a : Nat)) (putF "wait" (.int (w : Nat)) fs)))) := upd_same
    have k3 : ∀ b y, H b = some y → b ≠ st → upd H st (.ins c.State dx (putF "now" (.int 0) (putF "again" (.int (a : Nat)) (putF "wait" (.int (w : Nat)) fs)))) b = some y := fun b y e n => by rw [upd_ne n]; exact e
    have r3 : ∀ b, upd H st (.ins c.State dx (putF "now" (.int 0) (putF "again" (.int (a : Nat)) (putF "wait" (.int (w : Nat)) fs)))) b = none → H b = none := fun b e => by
      by_cases h1 : b = st
      · subst h1; rw [upd_same] at e; cases e
      · rw [upd_ne h1] at e; exact e
    have l3 := lenF (f := "now") (v := .int 0) (lenF (f := "again") (v := .int (a : Nat)) (lenF (f := "wait") (v := .int (w : Nat)) hfs))
    generalize upd H st (.ins c.State dx (putF "now" (.int 0) (putF "again" (.int (a : Nat)) (putF "wait" (.int (w : Nat)) fs)))) = H3 at e3 k3 r3 ⊢
    -- series
    wtm_at "GO"
    refine G.s_fldX (G.lst_new G.eva_nil (Nat.zero_le _) fun aS hS => ?_)
    refine G.s_fld (by wtm_at "EV") (by wtm_at "EV") (same_new hS _ _ e3) cT (by rfl) (lt1000 l3 (by decide)) ?_
    dsimp only
    obtain ⟨nS, e4, hS4, k4, r4⟩ := put_new (X := .ins c.State dx (putF "series" (.ref aS) (putF "now" (.int 0) (putF "again" (.int (a : Nat)) (putF "wait" (.int (w : Nat)) fs))))) (o := .lst []) e3 hS
    have l4 := lenF (f := "series") (v := .ref aS) l3
    generalize upd (upd H3 aS (.lst [])) st (.ins c.State dx (putF "series" (.ref aS) (putF "now" (.int 0) (putF "again" (.int (a : Nat)) (putF "wait" (.int (w : Nat)) fs))))) = H4 at e4 hS4 k4 r4 ⊢
    -- rules
    wtm_at "GO"
    refine G.s_fldX (G.lst_new G.eva_nil (Nat.zero_le _) fun aR hR => ?_)
    refine G.s_fld (by wtm_at "EV") (by wtm_at "EV") (same_new hR _ _ e4) cT (by rfl) (lt1000 l4 (by decide)) ?_
    dsimp only
    obtain ⟨nR, e5, hR5, k5, r5⟩ := put_new (X := .ins c.State dx (putF "rules" (.ref aR) (putF "series" (.ref aS) (putF "now" (.int 0) (putF "again" (.int (a : Nat)) (putF "wait" (.int (w : Nat)) fs)))))) (o := .lst []) e4 hR
    have l5 := lenF (f := "rules") (v := .ref aR) l4
    generalize upd (upd H4 aR (.lst [])) st (.ins c.State dx (putF "rules" (.ref aR) (putF "series" (.ref aS) (putF "now" (.int 0) (putF "again" (.int (a : Nat)) (putF "wait" (.int (w : Nat)) fs)))))) = H5 at e5 hR5 k5 r5 ⊢
    -- silences
    wtm_at "GO"
    refine G.s_fldX (G.lst_new G.eva_nil (Nat.zero_le _) fun aZ hZ => ?_)
    refine G.s_fld (by wtm_at "EV") (by wtm_at "EV") (same_new hZ _ _ e5) cT (by rfl) (lt1000 l5 (by decide)) ?_
    dsimp only
    obtain ⟨nZ, e6, hZ6, k6, r6⟩ := put_new (X := .ins c.State dx (putF "silences" (.ref aZ) (putF "rules" (.ref aR) (putF "series" (.ref aS) (putF "now" (.int 0) (putF "again" (.int (a : Nat)) (putF "wait" (.int (w : Nat)) fs))))))) (o := .lst []) e5 hZ
    have l6 := lenF (f := "silences") (v := .ref aZ) l5
    generalize upd (upd H5 aZ (.lst [])) st (.ins c.State dx (putF "silences" (.ref aZ) (putF "rules" (.ref aR) (putF "series" (.ref aS) (putF "now" (.int 0) (putF "again" (.int (a : Nat)) (putF "wait" (.int (w : Nat)) fs))))))) = H6 at e6 hZ6 k6 r6 ⊢
    -- known
    wtm_at "GO"
    refine G.s_fldX (fun aK hK => ?_)
    refine G.s_fld (by wtm_at "EV") (by wtm_at "EV") (same_new hK _ _ e6) cT (by rfl) (lt1000 l6 (by decide)) ?_
    dsimp only
    obtain ⟨nK, e7, hK7, k7, r7⟩ := put_new (X := .ins c.State dx (putF "known" (.ref aK) (putF "silences" (.ref aZ) (putF "rules" (.ref aR) (putF "series" (.ref aS) (putF "now" (.int 0) (putF "again" (.int (a : Nat)) (putF "wait" (.int (w : Nat)) fs)))))))) (o := .dT []) e6 hK
    have l7 := lenF (f := "known") (v := .ref aK) l6
    generalize upd (upd H6 aK (.dT [])) st (.ins c.State dx (putF "known" (.ref aK) (putF "silences" (.ref aZ) (putF "rules" (.ref aR) (putF "series" (.ref aS) (putF "now" (.int 0) (putF "again" (.int (a : Nat)) (putF "wait" (.int (w : Nat)) fs)))))))) = H7 at e7 hK7 k7 r7 ⊢
    -- told
    wtm_at "GO"
    refine G.s_fldX (lc_tolds (show G.Ev _ _ _ (V.int (15 + 1)) from G.ev_i0 G.ev_c G.ev_c) (fun _ => by rfl) fun aT ta H8 s8 hT hT8 lta nta hta => ?_)
    have e8 := s8 _ _ e7
    refine G.s_fld (by wtm_at "EV") (by wtm_at "EV") e8 cT (by rfl) (lt1000 l7 (by decide)) ?_
    dsimp only
    have l8 := lenF (f := "told") (v := .ref aT) l7
    have nT : aT ≠ st := fun z => by rw [z, e7] at hT; cases hT
    have e9 : upd H8 st (.ins c.State dx (putF "told" (.ref aT) (putF "known" (.ref aK) (putF "silences" (.ref aZ) (putF "rules" (.ref aR) (putF "series" (.ref aS) (putF "now" (.int 0) (putF "again" (.int (a : Nat)) (putF "wait" (.int (w : Nat)) fs))))))))) st = some (.ins c.State dx (putF "told" (.ref aT) (putF "known" (.ref aK) (putF "silences" (.ref aZ) (putF "rules" (.ref aR) (putF "series" (.ref aS) (putF "now" (.int 0) (putF "again" (.int (a : Nat)) (putF "wait" (.int (w : Nat)) fs))))))))) := upd_same
    have k9 : ∀ b y, H8 b = some y → b ≠ st → upd H8 st (.ins c.State dx (putF "told" (.ref aT) (putF "known" (.ref aK) (putF "silences" (.ref aZ) (putF "rules" (.ref aR) (putF "series" (.ref aS) (putF "now" (.int 0) (putF "again" (.int (a : Nat)) (putF "wait" (.int (w : Nat)) fs))))))))) b = some y := fun b y e n => by rw [upd_ne n]; exact e
    have r9 : ∀ b, upd H8 st (.ins c.State dx (putF "told" (.ref aT) (putF "known" (.ref aK) (putF "silences" (.ref aZ) (putF "rules" (.ref aR) (putF "series" (.ref aS) (putF "now" (.int 0) (putF "again" (.int (a : Nat)) (putF "wait" (.int (w : Nat)) fs))))))))) b = none → H8 b = none := fun b e => by
      by_cases h1 : b = st
      · subst h1; rw [upd_same] at e; cases e
      · rw [upd_ne h1] at e; exact e
    generalize upd H8 st (.ins c.State dx (putF "told" (.ref aT) (putF "known" (.ref aK) (putF "silences" (.ref aZ) (putF "rules" (.ref aR) (putF "series" (.ref aS) (putF "now" (.int 0) (putF "again" (.int (a : Nat)) (putF "wait" (.int (w : Nat)) fs))))))))) = H9 at e9 k9 r9 ⊢
    -- notes
    refine G.s_fldX (G.lst_new G.eva_nil (Nat.zero_le _) fun aN hN => ?_)
    refine G.s_fld (by wtm_at "EV") (by wtm_at "EV") (same_new hN _ _ e9) cT (by rfl) (lt1000 l8 (by decide)) ?_
    rw [hput]
    obtain ⟨nN, eX, hNX, kX, rX⟩ := put_new (X := .ins c.State dx (allF (.int (w : Nat)) (.int (a : Nat)) (.int 0) (.ref aS) (.ref aR) (.ref aZ) (.ref aK) (.ref aT) (.ref aN))) (o := .lst []) e9 hN
    generalize upd (upd H9 aN (.lst [])) st (.ins c.State dx (allF (.int (w : Nat)) (.int (a : Nat)) (.int 0) (.ref aS) (.ref aR) (.ref aZ) (.ref aK) (.ref aT) (.ref aN))) = HX at eX hNX kX rX ⊢
    have hSX := kX _ _ (k9 _ _ (s8 _ _ (k7 _ _ (k6 _ _ (k5 _ _ hS4 nS) nS) nS)) nS) nS
    have hRX := kX _ _ (k9 _ _ (s8 _ _ (k7 _ _ (k6 _ _ hR5 nR) nR)) nR) nR
    have hZX := kX _ _ (k9 _ _ (s8 _ _ (k7 _ _ hZ6 nZ)) nZ) nZ
    have hKX := kX _ _ (k9 _ _ (s8 _ _ hK7) nK) nK
    have hTX := kX _ _ (k9 _ _ hT8 nT) nT
    have fr7 : ∀ b, H7 b = none → H b = none := fun b e => r3 _ (r4 _ (r5 _ (r6 _ (r7 _ e))))
    have oldX : ∀ b y, H b = some y → b ≠ st → HX b = some y := fun b y e n => kX _ _ (k9 _ _ (s8 _ _ (k7 _ _ (k6 _ _ (k5 _ _ (k4 _ _ (k3 _ _ e n) n) n) n) n)) n) n
    have fS : H aS = none := r3 _ hS
    have fR : H aR = none := r3 _ (r4 _ hR)
    have fZ : H aZ = none := r3 _ (r4 _ (r5 _ hZ))
    have fK : H aK = none := r3 _ (r4 _ (r5 _ (r6 _ hK)))
    have fT : H aT = none := fr7 _ hT
    have hN8 : H8 aN = none := r9 _ hN
    have fN : H aN = none := fr7 _ (s8.free hN8)
    have S5 := k5 _ _ hS4 nS
    have S7 := k7 _ _ (k6 _ _ S5 nS) nS
    have R6 := k6 _ _ hR5 nR
    have R7 := k7 _ _ R6 nR
    have Z7 := k7 _ _ hZ6 nZ
    have dSR : aS ≠ aR := ne_of_none hS4 hR
    have dSZ : aS ≠ aZ := ne_of_none S5 hZ
    have dRZ : aR ≠ aZ := ne_of_none hR5 hZ
    have taX : ∀ b ∈ ta, H b = none ∧ b ≠ st ∧ ∃ dx p, HX b = some (.ins c.Told dx (tldF p none)) ∧ H7 p = none ∧ HX p = some (.lst []) := fun b hb => by
      obtain ⟨z1, dx', p, z2, z3, z4, z5⟩ := hta b hb
      have nb : b ≠ st := fun z => by rw [z, e7] at z1; cases z1
      have np : p ≠ st := fun z => by rw [z, e7] at z3; cases z3
      exact ⟨fr7 _ z1, nb, dx', p, kX _ _ (k9 _ _ z2 nb) nb, z3, kX _ _ (k9 _ _ z4 np) np⟩
    have taL : ∀ b ∈ ta, b ≠ aS ∧ b ≠ aR ∧ b ≠ aZ := fun b hb => by
      obtain ⟨_, _, dx', p, z2, _, _⟩ := taX b hb
      exact ⟨ne_of z2 hSX (fun z => nomatch z), ne_of z2 hRX (fun z => nomatch z), ne_of z2 hZX (fun z => nomatch z)⟩
    -- the tags
    let τ' : Tg := fun b => if b = aS then some .ser else if b = aR then some .rul else if b = aZ then some .sil else if b ∈ ta then some (.tob (ta.idxOf b)) else τ b
    have tS : τ' aS = some .ser := if_pos rfl
    have tR : τ' aR = some .rul := by
      show (if aR = aS then _ else _) = _
      rw [if_neg (Ne.symm dSR), if_pos rfl]
    have tZ : τ' aZ = some .sil := by
      show (if aZ = aS then _ else _) = _
      rw [if_neg (Ne.symm dSZ), if_neg (Ne.symm dRZ), if_pos rfl]
    have tA : ∀ (g : Nat) b, ta[g]? = some b → τ' b = some (.tob g) := fun g b hb => by
      have hm := List.mem_of_getElem? hb
      obtain ⟨y1, y2, y3⟩ := taL b hm
      show (if b = aS then _ else _) = _
      rw [if_neg y1, if_neg y2, if_neg y3, if_pos hm, idx_of nta hb]
    have tO : ∀ b, b ≠ aS → b ≠ aR → b ≠ aZ → b ∉ ta → τ' b = τ b := fun b y1 y2 y3 y4 => by
      show (if b = aS then _ else _) = _
      rw [if_neg y1, if_neg y2, if_neg y3, if_neg y4]
    have tOld : ∀ b y, H b = some y → τ' b = τ b := fun b y e => tO b (ne_of_none e fS) (ne_of_none e fR) (ne_of_none e fZ) fun z => by
      rw [(taX b z).1] at e; cases e
    have tNew : ∀ b y, H b = none → HX b = some y → b ≠ aS → b ≠ aR → b ≠ aZ → (∀ C dx fs, y ≠ .ins C dx fs) → τ' b = none := fun b y e eX y1 y2 y3 y4 => by
      rw [tO b y1 y2 y3 fun z => by
        obtain ⟨_, _, dx', p, z2, _, _⟩ := taX b z
        rw [z2] at eX
        exact y4 _ _ _ (Option.some.inj eX).symm]
      exact wf.none e
    have wX : Wf HX τ' := fun b r e => by
      by_cases b1 : b = aS
      · subst b1; exact ⟨_, hSX, rfl⟩
      · by_cases b2 : b = aR
        · subst b2; exact ⟨_, hRX, rfl⟩
        · by_cases b3 : b = aZ
          · subst b3; exact ⟨_, hZX, rfl⟩
          · by_cases b4 : b ∈ ta
            · obtain ⟨_, _, dx', p, z2, _, _⟩ := taX b b4
              exact ⟨_, z2, rfl⟩
            · rw [tO b b1 b2 b3 b4] at e
              by_cases b5 : b = st
              · subst b5; exact ⟨_, eX, rfl⟩
              · obtain ⟨y, y1, y2⟩ := wf b r e
                exact ⟨y, oldX b y y1 b5, y2⟩
    have i1 : Fo H τ HX τ' := ⟨fun b y e => im_iff.mpr ⟨oldX b y (im_at e) (fun z => by have := im_tag e; rw [z, tst] at this; cases this), by rw [tOld b y (im_at e)]; exact im_tag e⟩, fun b y t e => ⟨by rw [tOld b y e]; exact t, oldX b y e (fun z => by rw [z, tst] at t; cases t)⟩⟩
    have iK : im HX τ' aK = some (.dT []) := im_iff.mpr ⟨hKX, tNew aK _ fK hKX (ne_of hKX hSX (fun z => nomatch z)) (ne_of hKX hRX (fun z => nomatch z)) (ne_of hKX hZX (fun z => nomatch z)) (fun _ _ _ z => nomatch z)⟩
    have iT : im HX τ' aT = some (.lst (ta.map .ref)) := im_iff.mpr ⟨hTX, tNew aT _ fT hTX (Ne.symm (ne_of_none S7 hT)) (Ne.symm (ne_of_none R7 hT)) (Ne.symm (ne_of_none Z7 hT)) (fun _ _ _ z => nomatch z)⟩
    have iN : im HX τ' aN = some (.lst []) := im_iff.mpr ⟨hNX, tNew aN _ fN hNX (Ne.symm (ne_of_none (s8 _ _ S7) hN8)) (Ne.symm (ne_of_none (s8 _ _ R7) hN8)) (Ne.symm (ne_of_none (s8 _ _ Z7) hN8)) (fun _ _ _ z => nomatch z)⟩
    refine k HX τ' ⟨dx, aS, aR, aZ, aK, aT, aN, [], [], [], ta, []⟩ ⟨wX, by rw [tOld st _ hst]; exact tst, eX, tS, hSX, rfl, fun i x b e => ?_, tR, hRX, rfl, fun i x b e => ?_, tZ, hZX, rfl, fun i x b e => ?_, ⟨[], iK, fun i j => rfl⟩, iT, lta, fun g b hb => ?_, iN, rfl, fun i x b e => ?_⟩ i1
    · exact absurd (show ([] : List Kct7.Series)[i]? = some x from e) (by simp)
    · exact absurd (show ([] : List Kct7.Rule)[i]? = some x from e) (by simp)
    · exact absurd (show ([] : List (Option Kct7.Silence))[i]? = some x from e) (by simp)
    · obtain ⟨_, _, dx', p, z2, z3, z4⟩ := taX b (List.mem_of_getElem? hb)
      exact ⟨dx', p, tA g b hb, z2, [], im_iff.mpr ⟨z4, tNew p _ (fr7 _ z3) z4 (Ne.symm (ne_of_none S7 z3)) (Ne.symm (ne_of_none R7 z3)) (Ne.symm (ne_of_none Z7 z3)) (fun _ _ _ z => nomatch z)⟩, .nil⟩
    · exact absurd (show ([] : List Kct7.Note)[i]? = some x from e) (by simp)
/-! ### State(), begin -/
def spState (c : Cs) : Sp := fun vs H Q _ => ∃ (p dx : Addr), vs = [.ref p] ∧ H p = some (.ins c.State dx []) ∧ ∀ H' τ' d', Own c H' p (first 0 0) τ' d' → (∀ b y, H b = some y → b ≠ p → im H' τ' b = some y) → Q .non H'
theorem md_state (T : Txt K mg c) : G.Md P w K mg base "State" c.State 4 (spState c) := T.k_State.md fun f fd F => by
  have S := sc_State
  have cT := T.c_State
  have f1 : G.MetOk P w K mg base c.State "start_over" 3 (spStart c) := mt_start T
  refine F.ok S (fun vs H Q E h => ?_) (fun cdv A outer s H vs Q E hr h => ?_)
  · obtain ⟨p, dx, rfl, _⟩ := h
    rfl
  · obtain ⟨p, dx, rfl, hp, k⟩ := h
    wtm_at "INIT"
    refine G.s_drop (G.meth_ (by wtm_at "EV") hp rfl (by wtm_at "EVA") ⟨p, dx, [], 0, 0, fun b => if b = p then some .st else none, rfl, hp, Nat.zero_le _, fun _ _ _ _ _ _ _ _ _ => rfl, fun b r e => ?_, if_pos rfl, fun H' τ' d' o i => ?_⟩)
    · by_cases hb : b = p
      · subst hb; exact ⟨_, hp, rfl⟩
      · dsimp only at e
        rw [if_neg hb] at e; cases e
    · exact k H' τ' d' o fun b y e n => i.1 _ _ (im_iff.mpr ⟨e, if_neg n⟩)
def spBegin (c : Cs) : Sp := fun vs H Q _ => ∃ (st : Addr) (s : Abs) (τ : Tg) (d : Ad) (w a : Nat), vs = [.ref st, .int (w : Nat), .int (a : Nat)] ∧ Own c H st s τ d ∧ ((16777216 < w ∨ 16777216 < a) → Q (.int (-22)) H) ∧
  (¬ (16777216 < w ∨ 16777216 < a) → ∀ H' τ' d', Own c H' st (first w a) τ' d' → Fo H τ H' τ' → Q (.int 0) H')
theorem fd_begin (T : Txt K mg c) : G.Fd P w K mg base "begin" 4 (spBegin c) := T.d_begin.fd fun f fd F => by
  have S := sc_begin
  have cT := T.c_State
  have n1 := T.v_LONGEST_SPAN
  have n2 := T.v_WRONG
  have f1 : G.MetOk P w K mg base c.State "start_over" 3 (spStart c) := mt_start T
  refine F.ok S (fun vs H Q E h => ?_) (fun cdv A outer s H vs Q E hr h => ?_)
  · obtain ⟨st, s, τ, d, w, a, rfl, _⟩ := h
    rfl
  · obtain ⟨st, s, τ, d, w, a, rfl, o, k1, k2⟩ := h
    have e0 := o.sO
    wtm_at "INIT"
    wtm_at "GO"
    refine G.s_if (by wtm_at "EVT") (fun h => ?_) (fun h => ?_)
    · simp only [Bool.or_eq_true, decide_eq_true_eq] at h
      wtm_at "GO"
      exact k1 (by omega)
    · simp only [Bool.or_eq_false_iff, decide_eq_false_iff_not] at h
      have hn : ¬ (16777216 < w ∨ 16777216 < a) := by omega
      wtm_at "GO"
      wtm_at "GO"
      refine G.s_drop (G.meth_ (by wtm_at "EV") e0 rfl (by wtm_at "EVA") ⟨st, d.dx, _, w, a, τ, rfl, e0, by show 9 ≤ 9; decide, fun _ _ _ _ _ _ _ _ _ => rfl, o.wf, o.sT, fun H' τ' d' o' i => ?_⟩)
      dsimp only
      wtm_at "GO"
      exact k2 hn H' τ' d' o' i
end
section
variable {P : Program} {w : World} {K : PySem.W.Frag} {mg : Str → Option Value} {base : Heap} {c : Cs}
open Kct7 (Phase Pair Abs look inWindow valueOf)
/-! ### asking -/
def spThere (c : Cs) : Sp := fun vs H Q _ => ∃ (st : Addr) (s : Abs) (τ : Tg) (d : Ad) (i k : Nat), vs = [.ref st, .int (i : Nat), .int (k : Nat)] ∧ Own c H st s τ d ∧ Q (.bl (decide (i < s.rules.length) && decide (k < s.series.length))) H
theorem fd_there (T : Txt K mg c) : G.Fd P w K mg base "is_there" 1 (spThere c) := T.d_is_there.fd fun f fd F => by
  have S := sc_is_there
  have cT := T.c_State
  have bl := T.b_len
  refine F.ok S (fun vs H Q E h => ?_) (fun cdv A outer s H vs Q E hr h => ?_)
  · obtain ⟨st, s, τ, d, i, k, rfl, _⟩ := h
    rfl
  · obtain ⟨st, s, τ, d, i, kk, rfl, o, k⟩ := h
    have e0 := o.sO
    have eR := o.rL
    have eS := o.eL
    wtm_at "INIT"
    refine G.s_ret (G.use (v := .bl (decide ((i : Int) < ((d.ra.map V.ref).length : Int)) && decide ((kk : Int) < ((d.sa.map V.ref).length : Int)))) (G.ev_andV (by wtm_at "EV") (fun _ => by wtm_at "EV")) ?_)
    rw [List.length_map, List.length_map, o.rN, o.eN]
    have e1 : decide ((i : Int) < (s.rules.length : Int)) = decide (i < s.rules.length) := by rw [decide_eq_decide]; omega
    have e2 : decide ((kk : Int) < (s.series.length : Int)) = decide (kk < s.series.length) := by rw [decide_eq_decide]; omega
    rw [e1, e2]
    exact k
def spPhaseA (c : Cs) : Sp := fun vs H Q _ => ∃ (st : Addr) (s : Abs) (τ : Tg) (d : Ad) (i k : Nat), vs = [.ref st, .int (i : Nat), .int (k : Nat)] ∧ Own c H st s τ d ∧
  ∀ H' a, Same H H' → H a = none → H' a = some (.lst ((if s.rules.length ≤ i ∨ s.series.length ≤ k then [-2] else Stp.phaseRow (s.phase i k)).map V.int)) → Q (.ref a) H'
theorem fd_phasea (T : Txt K mg c) : G.Fd P w K mg base "phase_answer" 2 (spPhaseA c) := T.d_phase_answer.fd fun f fd F => by
  have S := sc_phase_answer
  have cT := T.c_State
  have n1 := T.v_MISSING
  have f1 : G.Fd P w K mg base "is_there" 1 (spThere c) := fd_there T
  refine F.ok S (fun vs H Q E h => ?_) (fun cdv A outer s H vs Q E hr h => ?_)
  · obtain ⟨st, s, τ, d, i, k, rfl, _⟩ := h
    rfl
  · obtain ⟨st, s, τ, d, i, kk, rfl, o, k⟩ := h
    have e0 := o.sO
    have hu := hu_of hr
    wtm_at "INIT"
    wtm_at "GO"
    refine G.s_if (G.evt_not (G.evt_tB (G.ev_call (by wtm_at "EVA") (fun _ q => ⟨st, s, τ, d, i, kk, rfl, o, q⟩)))) (fun h => ?_) (fun h => ?_)
    · have h : s.rules.length ≤ i ∨ s.series.length ≤ kk := by
        simp only [Bool.not_eq_true', Bool.and_eq_false_iff, decide_eq_false_iff_not] at h
        omega
      refine G.s_ret (G.lst_new (by wtm_at "EVA") (by show 1 ≤ sizeLine; decide) fun p hp => ?_)
      refine k _ p (same_new hp) hp ?_
      rw [upd_same, if_pos h]
      rfl
    · have h : ¬ (s.rules.length ≤ i ∨ s.series.length ≤ kk) := by
        simp only [Bool.not_eq_false', Bool.and_eq_true, decide_eq_true_eq] at h
        omega
      rw [if_neg h] at k
      wtm_at "GO"
      wtm_at "GO"
      obtain ⟨kvs, hK1, hK2⟩ := o.kA
      have hK1 := im_at hK1
      refine G.s_setE (G.dget_tup2 (by wtm_at "EV") (by wtm_at "EV") (by wtm_at "EV") hK1 fun p hp => ?_)
      have hv : PhW (im H τ) ((valV kvs (key i kk)).getD .non) (s.phase i kk) := (hK2 i kk).w
      have sm : Same H (upd H p (.tup [.int (i : Nat), .int (kk : Nat)])) := same_new hp
      show _
      generalize upd H p (.tup [.int (i : Nat), .int (kk : Nat)]) = H1 at sm ⊢
      have ev : (valV kvs [.inl (i : Int), .inl (kk : Int)]).getD .non = (valV kvs (key i kk)).getD .non := rfl
      rw [ev]
      generalize (valV kvs (key i kk)).getD .non = v at hv
      dsimp only [List.set]
      wtm_at "GO"
      rcases hv with ⟨h1, rfl⟩ | ⟨h1, t, rfl, ht⟩
      · wtm_at "IFT"
        refine G.s_ret (G.lst_new (by wtm_at "EVA") (by show 1 ≤ sizeLine; decide) fun q hq => ?_)
        refine k _ q (sm.trans (same_new hq)) (sm.free hq) ?_
        rw [upd_same, h1]
        rfl
      · wtm_at "IFF"
        wtm_at "GO"
        have ht1 := sm _ _ (im_at ht)
        cases hph : s.phase i kk with
        | quiet => exact absurd hph h1
        | holds b =>
          rw [hph] at ht1 k
          refine G.s_ret (G.lst_new (vs := [.int 1, .int (b : Nat)]) (G.eva_cons (G.ev_ixAT (j := 0) (by wtm_at "EV") (by wtm_at "EV") (SqT.of ht1) rfl rfl) (G.eva_cons (G.ev_ixAT (j := 1) (by wtm_at "EV") (by wtm_at "EV") (SqT.of ht1) rfl rfl) G.eva_nil)) (by show 2 ≤ sizeLine; decide) fun q hq => ?_)
          exact k _ q (sm.trans (same_new hq)) (sm.free hq) upd_same
        | fires b =>
          rw [hph] at ht1 k
          refine G.s_ret (G.lst_new (vs := [.int 2, .int (b : Nat)]) (G.eva_cons (G.ev_ixAT (j := 0) (by wtm_at "EV") (by wtm_at "EV") (SqT.of ht1) rfl rfl) (G.eva_cons (G.ev_ixAT (j := 1) (by wtm_at "EV") (by wtm_at "EV") (SqT.of ht1) rfl rfl) G.eva_nil)) (by show 2 ≤ sizeLine; decide) fun q hq => ?_)
          exact k _ q (sm.trans (same_new hq)) (sm.free hq) upd_same
def spValueA (c : Cs) : Sp := fun vs H Q _ => ∃ (st : Addr) (s : Abs) (τ : Tg) (d : Ad) (i k : Nat), vs = [.ref st, .int (i : Nat), .int (k : Nat)] ∧ Own c H st s τ d ∧ Mth.Ok s ∧ ((s.rules.length ≤ i ∨ s.series.length ≤ k) → ∀ H' a, Same H H' → H a = none → H' a = some (.lst [.int (-2)]) → Q (.ref a) H') ∧
  (∀ r x, s.rules[i]? = some r → s.series[k]? = some x → ∀ H' a, Same H H' → H a = none → H' a = some (.lst ((Stp.valueRow (valueOf r s.now x)).map V.int)) → Q (.ref a) H')
theorem fd_valuea (T : Txt K mg c) : G.Fd P w K mg base "value_answer" 3 (spValueA c) := T.d_value_answer.fd fun f fd F => by
  have S := sc_value_answer
  have cT := T.c_State
  have n1 := T.v_MISSING
  have f1 : G.Fd P w K mg base "is_there" 1 (spThere c) := fd_there T
  have f2 : G.Fd P w K mg base "value_of" 2 (spValueOf c) := fd_value_of T
  refine F.ok S (fun vs H Q E h => ?_) (fun cdv A outer s H vs Q E hr h => ?_)
  · obtain ⟨st, s, τ, d, i, k, rfl, _⟩ := h
    rfl
  · obtain ⟨st, s, τ, d, i, kk, rfl, o, ok, k1, k2⟩ := h
    have e0 := o.sO
    wtm_at "INIT"
    wtm_at "GO"
    refine G.s_if (G.evt_not (G.evt_tB (G.ev_call (by wtm_at "EVA") (fun _ q => ⟨st, s, τ, d, i, kk, rfl, o, q⟩)))) (fun h => ?_) (fun h => ?_)
    · have h : s.rules.length ≤ i ∨ s.series.length ≤ kk := by
        simp only [Bool.not_eq_true', Bool.and_eq_false_iff, decide_eq_false_iff_not] at h
        omega
      refine G.s_ret (G.lst_new (by wtm_at "EVA") (by show 1 ≤ sizeLine; decide) fun p hp => ?_)
      exact k1 h _ p (same_new hp) hp upd_same
    · have h : i < s.rules.length ∧ kk < s.series.length := by
        simp only [Bool.not_eq_false', Bool.and_eq_true, decide_eq_true_eq] at h
        omega
      obtain ⟨r, hr1⟩ : ∃ r, s.rules[i]? = some r := ⟨s.rules[i], List.getElem?_eq_getElem h.1⟩
      obtain ⟨x, hx1⟩ : ∃ x, s.series[kk]? = some x := ⟨s.series[kk], List.getElem?_eq_getElem h.2⟩
      obtain ⟨ar, har⟩ := two_of o.rN hr1
      obtain ⟨as, has⟩ := two_of o.eN hx1
      obtain ⟨dx, u, hR, _⟩ := o.rA _ _ _ hr1 har
      obtain ⟨dy, t, m, hS1, _, hS2, _, hS3⟩ := o.eA _ _ _ hx1 has
      have okx := ok.ser x (List.mem_of_getElem? hx1)
      wtm_at "GO"
      wtm_at "GO"
      refine G.s_setE (G.call_ (vs := [.ref ar, .ref as, .int (s.now : Nat)]) (G.eva_cons (G.ev_ixAL (by wtm_at "EV") (by wtm_at "EV") (SqL.of o.rL) rfl (at_ref har)) (G.eva_cons (G.ev_ixAL (by wtm_at "EV") (by wtm_at "EV") (SqL.of o.eL) rfl (at_ref has)) (by wtm_at "EVA")))
        ⟨ar, as, dx, dy, t, m, r, u, x.kind, x.group, s.now, x.samples, rfl, im_at hR, im_at hS1, hS2, hS3, okx.srt, okx.old, fun H1 sm => ?_⟩)
      have k2 := k2 r x hr1 hx1
      have ev : look r.what (inWindow r.window s.now x.samples) = valueOf r s.now x := rfl
      rw [ev]
      generalize valueOf r s.now x = v at k2
      dsimp only [List.set]
      wtm_at "GO"
      cases v with
      | none =>
        wtm_at "IFT"
        refine G.s_ret (G.lst_new (by wtm_at "EVA") (by show 1 ≤ sizeLine; decide) fun q hq => ?_)
        exact k2 _ q (sm.trans (same_new hq)) (sm.free hq) upd_same
      | some y =>
        wtm_at "IFF"
        wtm_at "GO"
        refine G.s_ret (G.lst_new (vs := [.int 1, .int y]) (by wtm_at "EVA") (by show 2 ≤ sizeLine; decide) fun q hq => ?_)
        exact k2 _ q (sm.trans (same_new hq)) (sm.free hq) upd_same
def noteRow (n : Kct7.Note) : List Int := 1 :: (n.group : Int) :: Stp.b2n n.again :: (n.new.length : Int) :: (n.gone.length : Int) :: Stp.pairs (n.new ++ n.gone)
def spNoteA (c : Cs) : Sp := fun vs H Q _ => ∃ (st : Addr) (s : Abs) (τ : Tg) (d : Ad) (k : Nat), vs = [.ref st, .int (k : Nat)] ∧ Own c H st s τ d ∧ Mth.Ok s ∧ (s.notes[k]? = none → ∀ H' a, Same H H' → H a = none → H' a = some (.lst [.int 0]) → Q (.ref a) H') ∧
  (∀ n, s.notes[k]? = some n → ∀ H' a, Same H H' → H a = none → H' a = some (.lst ((noteRow n).map V.int)) → Q (.ref a) H')
theorem pairs_snoc (l : List Pair) (p : Pair) : Stp.pairs (l ++ [p]) = Stp.pairs l ++ [(p.1 : Int), (p.2 : Int)] := by
  unfold Stp.pairs
  rw [List.flatMap_append, List.flatMap_singleton]
theorem pairs_len (l : List Pair) : (Stp.pairs l).length = 2 * l.length := by
  induction l with
  | nil => rfl
  | cons p l ih =>
    show (([(p.1 : Int), (p.2 : Int)] : List Int) ++ Stp.pairs l).length = _
    rw [List.length_append, ih]
    show 2 + 2 * l.length = 2 * (l.length + 1)
    omega
theorem paired_app {α β : Type} {F : α → β → Prop} : ∀ {l₁ l₂ : List α} {m₁ m₂ : List β}, Paired F l₁ m₁ → Paired F l₂ m₂ → Paired F (l₁ ++ l₂) (m₁ ++ m₂)
  | _, _, _, _, .nil, h => h
  | _, _, _, _, .cons r t, h => .cons r (paired_app t h)
theorem fd_notea (T : Txt K mg c) : G.Fd P w K mg base "note_answer" 1 (spNoteA c) := T.d_note_answer.fd fun f fd F => by
  have S := sc_note_answer
  have cT := T.c_State
  have cN := T.c_Note
  have bl := T.b_len
  refine F.ok S (fun vs H Q E h => ?_) (fun cdv A outer s H vs Q E hr h => ?_)
  · obtain ⟨st, s, τ, d, k, rfl, _⟩ := h
    rfl
  · obtain ⟨st, s, τ, d, kk, rfl, o, ok, k1, k2⟩ := h
    have e0 := o.sO
    have eN := im_at o.nL
    wtm_at "INIT"
    wtm_at "GO"
    refine G.s_if (by wtm_at "EVT") (fun h => ?_) (fun h => ?_)
    · have h := of_decide_eq_true h
      rw [List.length_map, o.nN] at h
      refine G.s_ret (G.lst_new (by wtm_at "EVA") (by show 1 ≤ sizeLine; decide) fun p hp => ?_)
      exact k1 (List.getElem?_eq_none (by omega)) _ p (same_new hp) hp upd_same
    · have h := of_decide_eq_false h
      rw [List.length_map, o.nN] at h
      obtain ⟨n, hn⟩ : ∃ n, s.notes[kk]? = some n := ⟨s.notes[kk]'(by omega), List.getElem?_eq_getElem _⟩
      obtain ⟨an, han⟩ := two_of o.nN hn
      obtain ⟨dx, p, q, hA, ⟨vp, hp, pp⟩, ⟨vq, hq, pq⟩⟩ := o.nA _ _ _ hn han
      have hA := im_at hA
      have hp := im_at hp
      have hq := im_at hq
      have okn := ok.nts n (List.mem_of_getElem? hn)
      have lp := Paired.length pp
      have lq := Paired.length pq
      wtm_at "GO"
      wtm_at "GO"
      refine G.s_set (v := .ref an) (G.ev_ixAL (by wtm_at "EV") (by wtm_at "EV") (SqL.of eN) rfl (at_ref han)) ?_
      dsimp only [List.set]
      wtm_at "GO"
      refine G.s_setE (G.lst_new (vs := [.int 1, .int (n.group : Nat), b2v n.again, .int (vp.length : Nat), .int (vq.length : Nat)]) (by wtm_at "EVA") (by show 5 ≤ sizeLine; decide) fun aw haw => ?_)
      dsimp only [List.set]
      wtm_at "GO"
      have s1 : Same H (upd H aw (.lst [.int 1, .int (n.group : Nat), b2v n.again, .int (vp.length : Nat), .int (vq.length : Nat)])) := same_new haw
      have h1 : upd H aw (.lst [.int 1, .int (n.group : Nat), b2v n.again, .int (vp.length : Nat), .int (vq.length : Nat)]) aw = some (.lst (([1, (n.group : Int), Stp.b2n n.again, (n.new.length : Int), (n.gone.length : Int)] ++ Stp.pairs []).map V.int)) := by
        rw [upd_same, lp, lq]; rfl
      generalize upd H aw (.lst [.int 1, .int (n.group : Nat), b2v n.again, .int (vp.length : Nat), .int (vq.length : Nat)]) = H1 at s1 h1 ⊢
      have hA1 := s1 _ _ hA
      refine G.s_forE (G.cat_new (by wtm_at "EV") (by wtm_at "EV") (s1 _ _ hp) (s1 _ _ hq) (by rw [lp, lq]; exact Nat.le_trans (Nat.add_le_add okn.1 okn.2) (by decide)) fun cl hcl => ?_)
      have s2 : Same H1 (upd H1 cl (.lst (vp ++ vq))) := same_new hcl
      have h2 := s2 _ _ h1
      have hc2 : upd H1 cl (.lst (vp ++ vq)) cl = some (.lst (vp ++ vq)) := upd_same
      have ncl : cl ≠ aw := Ne.symm (ne_of_none h1 hcl)
      have s12 := s1.trans s2
      generalize upd H1 cl (.lst (vp ++ vq)) = H2 at s2 h2 hc2 s12 ⊢
      have pall := paired_app pp pq
      have lall : (n.new ++ n.gone).length ≤ 4096 := by rw [List.length_append]; omega
      refine G.s_for (xs := vp ++ vq) (a := cl) (fun i σ H' => ∃ v4, σ = [some (.ref st), some (.int (kk : Nat)), some (.ref an), some (.ref aw), v4] ∧ Same H H' ∧ H' cl = some (.lst (vp ++ vq)) ∧ H' aw = some (.lst (([1, (n.group : Int), Stp.b2n n.again, (n.new.length : Int), (n.gone.length : Int)] ++ Stp.pairs ((n.new ++ n.gone).take i)).map V.int)))
        (by wtm_at "EV") (fun i σ H' _ ⟨_, _, _, z, _⟩ => SqL.of z) ⟨none, rfl, s12, hc2, h2⟩ ?_ ?_
      · rintro i y σ H3 hy ⟨v4, rfl, s3, hc3, h3⟩
        obtain ⟨pr, hpr, tq, rfl, htq⟩ := paired_get pall hy
        have htq3 := s3 _ _ (im_at htq)
        have etk : (n.new ++ n.gone).take (i + 1) = (n.new ++ n.gone).take i ++ [pr] := by rw [List.take_add_one, hpr]; rfl
        have hlt : ((n.new ++ n.gone).take i).length ≤ 4096 := by rw [List.length_take]; omega
        refine G.s_extT (by wtm_at "EV") (by wtm_at "EV") h3 (SqT.of htq3) ?_ ?_
        · rw [List.length_map, List.length_append, pairs_len]
          show 5 + 2 * _ + 2 ≤ sizeLine
          exact Nat.le_trans (by omega : _ ≤ 10000) (by decide)
        · refine ⟨_, rfl, fun b ob e => by rw [upd_ne (ne_of_none e haw)]; exact s3 b ob e, by rw [upd_ne ncl]; exact hc3, ?_⟩
          rw [upd_same, etk, pairs_snoc, ← List.append_assoc, List.map_append (l₂ := [(pr.1 : Int), (pr.2 : Int)])]
          rfl
      · rintro σ H3 ⟨v4, rfl, s3, hc3, h3⟩
        rw [List.take_of_length_le (by rw [Paired.length pall]; exact Nat.le_refl _)] at h3
        wtm_at "GO"
        exact k2 n hn H3 aw s3 haw h3
end
section
variable {P : Program} {w : World} {K : PySem.W.Frag} {mg : Str → Option Value} {base : Heap} {c : Cs}
open Kct7 (Phase Pair Abs first)
/-! ### every call keeps what every state is -/
theorem ok_step {s : Abs} (h : Mth.Ok s) {r : List Int} (hr : Dec.Row r) : Mth.Ok (Kct7Neutral.step s [r]).1 := by
  cases hr with
  | begin_ a b =>
    rw [Stp.s_begin]
    split
    · exact h
    · exact Mth.ok_first a b
  | series a b =>
    rw [Stp.s_series]
    split
    · exact h
    · rename_i h1
      split
      · exact h
      · rename_i h2
        exact Mth.ok_series h (by unfold Kct7.GROUPS at h1; omega) (by unfold Kct7.SERIES at h2; omega)
  | rule a b u n e o g l =>
    rw [Stp.s_rule]
    split
    · exact h
    · split
      · exact h
      · rename_i h2
        exact Mth.ok_rule h _ (by unfold Kct7.RULES at h2; omega)
  | silence a b f t =>
    rw [Stp.s_silence]
    split
    · exact h
    · split
      · exact h
      · rename_i h2
        exact Mth.ok_silence h _ (by unfold Kct7.SILENCES at h2; omega)
  | end_ k =>
    by_cases hz : ∃ z, s.silences[k]? = some (some z)
    · obtain ⟨z, hz⟩ := hz
      rw [Stp.s_end_some s k hz]
      exact Mth.ok_end h k
    · rw [Stp.s_end_none s k fun z e => hz ⟨z, e⟩]
      exact h
  | sample k v =>
    cases hx : s.series[k]? with
    | none =>
      rw [Stp.s_sample_none s k v hx]
      exact h
    | some x =>
      rw [Stp.s_sample_some s k v hx]
      split
      · exact h
      · exact Mth.ok_sample h hx v
  | tick t =>
    rw [Stp.s_tick]
    split
    · exact h
    · rename_i h1
      exact Mth.ok_tick h (by omega)
  | note k =>
    cases hn : s.notes[k]? with
    | none => rw [Stp.s_note_none s k hn]; exact h
    | some n => rw [Stp.s_note_some s k hn]; exact h
  | phase i k =>
    by_cases hp : s.rules.length ≤ i ∨ s.series.length ≤ k
    · rw [Stp.s_phase_none s i k hp]; exact h
    · rw [Stp.s_phase_some s i k hp]; exact h
  | value i k =>
    cases hr : s.rules[i]? with
    | none => rw [Stp.s_value_none s i k (.inl hr)]; exact h
    | some r =>
      cases hx : s.series[k]? with
      | none => rw [Stp.s_value_none s i k (.inr hx)]; exact h
      | some x => rw [Stp.s_value_some s i k hr hx]; exact h
/-! ### rule_of -/
def spRuleOf (c : Cs) : Sp := fun vs H Q _ => ∃ (rw_ : Addr) (k wh u n h l : Nat) (b o : Int), vs = [.ref rw_] ∧ H rw_ = some (.lst [.int (k : Nat), .int (wh : Nat), .int (u : Nat), .int (n : Nat), .int b, .int o, .int (h : Nat), .int (l : Nat)]) ∧
  ∀ H' a dx, Same H H' → H a = none → H' a = some (.ins c.Rule dx (rulF ⟨k, wh, u == 1, n, b, o, h, l⟩ u)) → Q (.ref a) H'
theorem fd_ruleof (T : Txt K mg c) : G.Fd P w K mg base "rule_of" 3 (spRuleOf c) := T.d_rule_of.fd fun f fd F => by
  have S := sc_rule_of
  have f1 : G.Md P w K mg base "Rule" c.Rule 1 (spRule c) := md_rule T
  refine F.ok S (fun vs H Q E h => ?_) (fun cdv A outer s H vs Q E hr h => ?_)
  · obtain ⟨rw_, k, wh, u, n, h, l, b, o, rfl, _⟩ := h
    rfl
  · obtain ⟨rw_, kk, wh, u, n, h, l, b, o, rfl, hrw, k⟩ := h
    wtm_at "INIT"
    have ix : ∀ (j : Nat) (v : V), ([.int (kk : Nat), .int (wh : Nat), .int (u : Nat), .int (n : Nat), .int b, .int o, .int (h : Nat), .int (l : Nat)] : List V)[j]? = some v → G.Ev (tOp (G.rIxA K) (tVar 0) (tC (.int (j : Nat)))) [some (.ref rw_)] H v := fun j v e => G.ev_ixAL (G.ev_var rfl) G.ev_c (SqL.of hrw) rfl e
    refine G.s_ret (G.make_ (G.eva_cons (ix 0 _ rfl) (G.eva_cons (ix 1 _ rfl) (G.eva_cons (ix 2 _ rfl) (G.eva_cons (ix 3 _ rfl) (G.eva_cons (ix 4 _ rfl) (G.eva_cons (ix 5 _ rfl) (G.eva_cons (ix 6 _ rfl) (G.eva_cons (ix 7 _ rfl) G.eva_nil)))))))) fun x dx n1 n2 n3 => ⟨x, dx, kk, wh, u, n, h, l, b, o, rfl, upd_same, rfl, ?_⟩)
    rw [upd_upd]
    exact k _ x dx (fun b' ob e => by rw [upd_ne (ne_of_none e n1), upd_ne (ne_of_none e n2)]; exact e) n1 upd_same
/-! ### number_of -/
def spNum (c : Cs) : Sp := fun vs H Q _ => ∃ (st rw_ : Addr) (cc : Int) (args : List Int) (s : Abs) (τ : Tg) (d : Ad), vs = [.ref st, .int cc, .ref rw_] ∧ Own c H st s τ d ∧ Mth.Ok s ∧ H rw_ = some (.lst (args.map V.int)) ∧ Dec.Row (cc :: args) ∧ cc ≠ 7 ∧ cc ≠ 8 ∧ cc ≠ 9 ∧
  ∀ (H' : Hp) (τ' : Tg) (d' : Ad) (r : Int), Own c H' st (Kct7Neutral.step s [cc :: args]).1 τ' d' → Fo H τ H' τ' → (Kct7Neutral.step s [cc :: args]).2 = [r] → Q (.int r) H'
theorem fd_num (T : Txt K mg c) : G.Fd P w K mg base "number_of" 6 (spNum c) := T.d_number_of.fd fun f fd F => by
  have S := sc_number_of
  have v0 := T.v_BEGIN
  have v1 := T.v_SERIES
  have v2 := T.v_RULE
  have v3 := T.v_SILENCE
  have v4 := T.v_END
  have v5 := T.v_SAMPLE
  have f0 : G.Fd P w K mg base "begin" 4 (spBegin c) := fd_begin T
  have f1 : G.Fd P w K mg base "add_series" 2 (spAddSer c) := fd_addser T
  have f2 : G.Fd P w K mg base "add_rule" 2 (spAddRul c) := fd_addrul T
  have f3 : G.Fd P w K mg base "add_silence" 2 (spAddSil c) := fd_addsil T
  have f4 : G.Fd P w K mg base "end_silence" 1 (spEnd c) := fd_end T
  have f5 : G.Fd P w K mg base "sample" 1 (spSample c) := fd_sample T
  have f6 : G.Fd P w K mg base "tick" 5 (spTick c) := fd_tick T
  have f7 : G.Fd P w K mg base "rule_of" 3 (spRuleOf c) := fd_ruleof T
  have m1 : G.Md P w K mg base "Series" c.Series 1 (spSeries c) := md_series T
  have m2 : G.Md P w K mg base "Silence" c.Silence 1 (spSil c) := md_sil T
  refine F.ok S (fun vs H Q E h => ?_) (fun cdv A outer s H vs Q E hr h => ?_)
  · obtain ⟨st, rw_, cc, args, s, τ, d, rfl, _⟩ := h
    rfl
  · obtain ⟨st, rw_, cc, args, s, τ, d, rfl, o, ok, hrw, row, n7, n8, n9, k⟩ := h
    wtm_at "INIT"
    have ix : ∀ (j : Nat) (v : V), (args.map V.int)[j]? = some v → G.Ev (tOp (G.rIxA K) (tVar 2) (tC (.int (j : Nat)))) [some (.ref st), some (.int cc), some (.ref rw_)] H v := fun j v e => G.ev_ixAL (G.ev_var rfl) G.ev_c (SqL.of hrw) rfl e
    wtm_at "GO"
    cases row with
    | begin_ a b =>
      wtm_at "IFT"
      refine G.s_ret (G.call_ (G.eva_cons (by wtm_at "EV") (G.eva_cons (ix 0 _ rfl) (G.eva_cons (ix 1 _ rfl) G.eva_nil))) ⟨st, s, τ, d, a, b, rfl, o, fun h => ?_, fun h H' τ' d' o' i' => ?_⟩)
      · have e := Stp.s_begin s a b
        rw [if_pos (show Kct7.LONG < a ∨ Kct7.LONG < b from h)] at e
        refine k H τ d (-22) (by rw [e]; exact o) (Fo.refl _ _) (by rw [e])
      · have e := Stp.s_begin s a b
        rw [if_neg (show ¬ (Kct7.LONG < a ∨ Kct7.LONG < b) from h)] at e
        refine k H' τ' d' 0 (by rw [e]; exact o') i' (by rw [e])
    | series a b =>
      wtm_at "IFF"
      wtm_at "GO"
      wtm_at "GO"
      wtm_at "IFT"
      refine G.s_ret (G.call2 (G.use (by wtm_at "EV") (G.make_ (G.eva_cons (ix 0 _ rfl) (G.eva_cons (ix 1 _ rfl) G.eva_nil)) fun x dx nx nd ndx => ⟨x, dx, a, b, rfl, upd_same, fun t m ht hm ntm => ⟨rfl, ?_⟩⟩)))
      have ntx : t ≠ x := fun z => by rw [z, upd_same] at ht; cases ht
      have nmx : m ≠ x := fun z => by rw [z, upd_same] at hm; cases hm
      have ht1 : H t = none := by
        rw [upd_ne ntx] at ht
        rw [upd_ne (fun z => by rw [z, upd_same] at ht; cases ht)] at ht
        exact ht
      have hm1 : H m = none := by
        rw [upd_ne nmx] at hm
        rw [upd_ne (fun z => by rw [z, upd_same] at hm; cases hm)] at hm
        exact hm
      have sm : Same H (upd (upd (upd (upd (upd H dx (.own x)) x (.ins c.Series dx [])) t (.lst [])) m (.lst [])) x (.ins c.Series dx (serF a b t m))) := fun b' ob e => by
        rw [upd_ne (ne_of_none e nx), upd_ne (ne_of_none e hm1), upd_ne (ne_of_none e ht1), upd_ne (ne_of_none e nx), upd_ne (ne_of_none e nd)]; exact e
      have hX : upd (upd (upd (upd (upd H dx (.own x)) x (.ins c.Series dx [])) t (.lst [])) m (.lst [])) x (.ins c.Series dx (serF a b t m)) x = some (.ins c.Series dx (serF a b t m)) := upd_same
      have hTx : upd (upd (upd (upd (upd H dx (.own x)) x (.ins c.Series dx [])) t (.lst [])) m (.lst [])) x (.ins c.Series dx (serF a b t m)) t = some (.lst []) := by rw [upd_ne ntx, upd_ne ntm]; exact upd_same
      have hMx : upd (upd (upd (upd (upd H dx (.own x)) x (.ins c.Series dx [])) t (.lst [])) m (.lst [])) x (.ins c.Series dx (serF a b t m)) m = some (.lst []) := by rw [upd_ne nmx]; exact upd_same
      generalize upd (upd (upd (upd (upd H dx (.own x)) x (.ins c.Series dx [])) t (.lst [])) m (.lst [])) x (.ins c.Series dx (serF a b t m)) = H2 at sm hX hTx hMx ⊢
      have e := Stp.s_series s a b
      refine ⟨st, s, τ, d, H, x, dx, t, m, a, b, rfl, o, ok, sm, hX, nx, ht1, hm1, ntm, hTx, hMx, fun h => ?_, fun h h2 => ?_, fun h h2 H' τ' d' o' i' => ?_⟩
      · rw [if_pos (show Kct7.KINDS ≤ a ∨ Kct7.GROUPS ≤ b by unfold Kct7.KINDS Kct7.GROUPS; omega)] at e
        exact k H2 τ d (-22) (by rw [e]; exact o.same sm) (Fo.same sm) (by rw [e])
      · rw [if_neg (show ¬ (Kct7.KINDS ≤ a ∨ Kct7.GROUPS ≤ b) by unfold Kct7.KINDS Kct7.GROUPS; omega), if_pos (show Kct7.SERIES ≤ s.series.length from h2)] at e
        exact k H2 τ d (-28) (by rw [e]; exact o.same sm) (Fo.same sm) (by rw [e])
      · rw [if_neg (show ¬ (Kct7.KINDS ≤ a ∨ Kct7.GROUPS ≤ b) by unfold Kct7.KINDS Kct7.GROUPS; omega), if_neg (show ¬ Kct7.SERIES ≤ s.series.length by unfold Kct7.SERIES; omega)] at e
        exact k H' τ' d' _ (by rw [e]; exact o') i' (by rw [e])
    | rule a b u n e1 e2 g l =>
      wtm_at "IFF"
      wtm_at "GO"
      wtm_at "GO"
      wtm_at "IFF"
      wtm_at "GO"
      wtm_at "GO"
      wtm_at "IFT"
      refine G.s_ret (G.call2 (G.use (by wtm_at "EV") (G.call_ (by wtm_at "EVA") ⟨rw_, a, b, u, n, g, l, e1, e2, rfl, hrw, fun H2 x dx sm nx hX => ?_⟩)))
      have e := Stp.s_rule s a b u n e1 e2 g l
      have ebad : (Kct7.KINDS ≤ a ∨ 5 < b ∨ 1 < u ∨ n = 0 ∨ Kct7.LONG < n ∨ Kct7.LONG < g ∨ 3 < l ∨ Kct7.off Kct7.BOUND e1 = true ∨ Kct7.off Kct7.BOUND e2 = true ∨ (u = 1 ∧ e1 < e2) ∨ (u = 0 ∧ e2 < e1)) ↔ badRule ⟨a, b, u == 1, n, e1, e2, g, l⟩ u := by
        unfold badRule badBound Kct7.off Kct7.BOUND Kct7.KINDS Kct7.LONG
        simp only [Bool.or_eq_true, decide_eq_true_eq]
        omega
      refine ⟨st, s, τ, d, H, x, dx, ⟨a, b, u == 1, n, e1, e2, g, l⟩, u, rfl, o, ok, sm, hX, nx, rfl, fun h => ?_, fun h h2 => ?_, fun h h2 H' τ' d' o' i' => ?_⟩
      · rw [if_pos (ebad.mpr h)] at e
        exact k H2 τ d (-22) (by rw [e]; exact o.same sm) (Fo.same sm) (by rw [e])
      · rw [if_neg (fun z => h (ebad.mp z)), if_pos (show Kct7.RULES ≤ s.rules.length from h2)] at e
        exact k H2 τ d (-28) (by rw [e]; exact o.same sm) (Fo.same sm) (by rw [e])
      · rw [if_neg (fun z => h (ebad.mp z)), if_neg (show ¬ Kct7.RULES ≤ s.rules.length by unfold Kct7.RULES; omega)] at e
        exact k H' τ' d' _ (by rw [e]; exact o') i' (by rw [e])
    | silence a b f t =>
      wtm_at "IFF"
      wtm_at "GO"
      wtm_at "GO"
      wtm_at "IFF"
      wtm_at "GO"
      wtm_at "GO"
      wtm_at "IFF"
      wtm_at "GO"
      wtm_at "GO"
      wtm_at "IFT"
      refine G.s_ret (G.call2 (G.use (by wtm_at "EV") (G.make_ (G.eva_cons (ix 0 _ rfl) (G.eva_cons (ix 1 _ rfl) (G.eva_cons (ix 2 _ rfl) (G.eva_cons (ix 3 _ rfl) G.eva_nil)))) fun x dx nx nd ndx => ⟨x, dx, a, b, f, t, rfl, upd_same, rfl, ?_⟩)))
      rw [upd_upd]
      have sm : Same H (upd (upd H dx (.own x)) x (.ins c.Silence dx (silF ⟨a, b, f, t⟩ false))) := fun b' ob e => by rw [upd_ne (ne_of_none e nx), upd_ne (ne_of_none e nd)]; exact e
      have hX : upd (upd H dx (.own x)) x (.ins c.Silence dx (silF ⟨a, b, f, t⟩ false)) x = some (.ins c.Silence dx (silF ⟨a, b, f, t⟩ false)) := upd_same
      generalize upd (upd H dx (.own x)) x (.ins c.Silence dx (silF ⟨a, b, f, t⟩ false)) = H2 at sm hX ⊢
      have e := Stp.s_silence s a b f t
      have ebad : ((a ≠ Kct7.ANY ∧ s.rules.length ≤ a) ∨ (b ≠ Kct7.ANY ∧ Kct7.GROUPS ≤ b) ∨ t ≤ f ∨ Kct7.END < t) ↔ badSil s ⟨a, b, f, t⟩ := by
        unfold badSil Kct7.ANY Kct7.GROUPS Kct7.END
        dsimp only
        omega
      refine ⟨st, s, τ, d, H, x, dx, ⟨a, b, f, t⟩, rfl, o, ok, sm, hX, nx, fun h => ?_, fun h h2 => ?_, fun h h2 H' τ' d' o' i' => ?_⟩
      · rw [if_pos (ebad.mpr h)] at e
        exact k H2 τ d (-22) (by rw [e]; exact o.same sm) (Fo.same sm) (by rw [e])
      · rw [if_neg (fun z => h (ebad.mp z)), if_pos (show Kct7.SILENCES ≤ s.silences.length from h2)] at e
        exact k H2 τ d (-28) (by rw [e]; exact o.same sm) (Fo.same sm) (by rw [e])
      · rw [if_neg (fun z => h (ebad.mp z)), if_neg (show ¬ Kct7.SILENCES ≤ s.silences.length by unfold Kct7.SILENCES; omega)] at e
        exact k H' τ' d' _ (by rw [e]; exact o') i' (by rw [e])
    | end_ a =>
      iterate 4
        wtm_at "IFF"
        wtm_at "GO"
        wtm_at "GO"
      wtm_at "IFT"
      refine G.s_ret (G.call_ (G.eva_cons (by wtm_at "EV") (G.eva_cons (ix 0 _ rfl) G.eva_nil)) ⟨st, s, τ, d, a, rfl, o, ok, fun h => ?_, fun z h H' o' i' => ?_⟩)
      · have e := Stp.s_end_none s a h
        exact k H τ d (-2) (by rw [e]; exact o) (Fo.refl _ _) (by rw [e])
      · have e := Stp.s_end_some s a h
        exact k H' τ d 0 (by rw [e]; exact o') i' (by rw [e])
    | sample a v =>
      iterate 5
        wtm_at "IFF"
        wtm_at "GO"
        wtm_at "GO"
      wtm_at "IFT"
      refine G.s_ret (G.call_ (G.eva_cons (by wtm_at "EV") (G.eva_cons (ix 0 _ rfl) (G.eva_cons (ix 1 _ rfl) G.eva_nil))) ⟨st, s, τ, d, a, v, rfl, o, ok, fun h => ?_, fun h h2 => ?_, fun x hx h2 H' o' i' => ?_⟩)
      · have e := Stp.s_sample_none s a v (List.getElem?_eq_none h)
        exact k H τ d (-2) (by rw [e]; exact o) (Fo.refl _ _) (by rw [e])
      · have e := Stp.s_sample_some s a v (List.getElem?_eq_getElem h)
        rw [if_pos h2] at e
        exact k H τ d (-22) (by rw [e]; exact o) (Fo.refl _ _) (by rw [e])
      · have e := Stp.s_sample_some s a v hx
        rw [if_neg (by rw [h2]; exact Bool.false_ne_true)] at e
        exact k H' τ d 0 (by rw [e]; exact o') i' (by rw [e])
    | tick a =>
      iterate 6
        wtm_at "IFF"
        wtm_at "GO"
        try wtm_at "GO"
      refine G.s_ret (G.call_ (G.eva_cons (by wtm_at "EV") (G.eva_cons (ix 0 _ rfl) G.eva_nil)) ⟨st, s, τ, d, a, rfl, o, ok, fun h => ?_, fun h H' d' o' i' => ?_⟩)
      · have e := Stp.s_tick s a
        rw [if_pos (show a < s.now ∨ Kct7.END < a from h)] at e
        exact k H τ d (-22) (by rw [e]; exact o) (Fo.refl _ _) (by rw [e])
      · have e := Stp.s_tick s a
        rw [if_neg (show ¬ (a < s.now ∨ Kct7.END < a) from h)] at e
        exact k H' τ d' _ (by rw [e]; exact o') i' (by rw [e])
    | note a => exact absurd rfl n7
    | phase a b => exact absurd rfl n8
    | value a b => exact absurd rfl n9
end
section
variable {P : Program} {w : World} {K : PySem.W.Frag} {mg : Str → Option Value} {base : Heap} {c : Cs}
open Kct7 (Phase Pair Abs first)
/-! ### answer_of -/
def spOf (c : Cs) : Sp := fun vs H Q _ => ∃ (st rw_ : Addr) (cc : Int) (args : List Int) (s : Abs) (τ : Tg) (d : Ad), vs = [.ref st, .int cc, .ref rw_] ∧ Own c H st s τ d ∧ Mth.Ok s ∧ H rw_ = some (.lst (args.map V.int)) ∧ Dec.Row (cc :: args) ∧
  ∀ (H' : Hp) (τ' : Tg) (d' : Ad) (a : Addr), Own c H' st (Kct7Neutral.step s [cc :: args]).1 τ' d' → Fo H τ H' τ' → im H' τ' a = some (.lst ((Kct7Neutral.step s [cc :: args]).2.map V.int)) → Q (.ref a) H'
theorem fd_of (T : Txt K mg c) : G.Fd P w K mg base "answer_of" 7 (spOf c) := T.d_answer_of.fd fun f fd F => by
  have S := sc_answer_of
  have v7 := T.v_NOTE
  have v8 := T.v_PHASE
  have v9 := T.v_VALUE
  have f0 : G.Fd P w K mg base "number_of" 6 (spNum c) := fd_num T
  have f1 : G.Fd P w K mg base "note_answer" 1 (spNoteA c) := fd_notea T
  have f2 : G.Fd P w K mg base "phase_answer" 2 (spPhaseA c) := fd_phasea T
  have f3 : G.Fd P w K mg base "value_answer" 3 (spValueA c) := fd_valuea T
  refine F.ok S (fun vs H Q E h => ?_) (fun cdv A outer s H vs Q E hr h => ?_)
  · obtain ⟨st, rw_, cc, args, s, τ, d, rfl, _⟩ := h
    rfl
  · obtain ⟨st, rw_, cc, args, s, τ, d, rfl, o, ok, hrw, row, k⟩ := h
    wtm_at "INIT"
    have ix : ∀ (j : Nat) (v : V), (args.map V.int)[j]? = some v → G.Ev (tOp (G.rIxA K) (tVar 2) (tC (.int (j : Nat)))) [some (.ref st), some (.int cc), some (.ref rw_)] H v := fun j v e => G.ev_ixAL (G.ev_var rfl) G.ev_c (SqL.of hrw) rfl e
    have fin : cc ≠ 7 → cc ≠ 8 → cc ≠ 9 → tRet (tLst (tCons (tCall (spNum c) [] E0 (tCons (tVar 0) (tCons (tVar 1) (tCons (tVar 2) tNil)))) tNil)) { nx := fun _ H' => Q V.non H', rt := Q } [some (.ref st), some (.int cc), some (.ref rw_)] H := by
      intro n7 n8 n9
      refine G.s_ret (G.lst1E (G.call_ (by wtm_at "EVA") ⟨st, rw_, cc, args, s, τ, d, rfl, o, ok, hrw, row, n7, n8, n9, fun H' τ' d' r o' i' er => ⟨by decide, fun p hp => ?_⟩⟩))
      have sm : Same H' (upd H' p (.lst [.int r])) := same_new hp
      refine k _ τ' d' p (o'.same sm) (i'.trans (Fo.same sm)) (im_iff.mpr ⟨?_, o'.wf.none hp⟩)
      rw [upd_same, er]
      rfl
    wtm_at "GO"
    cases row with
    | note a =>
      wtm_at "IFT"
      refine G.s_ret (G.call_ (G.eva_cons (by wtm_at "EV") (G.eva_cons (ix 0 _ rfl) G.eva_nil)) ⟨st, s, τ, d, a, rfl, o, ok, fun h H' b sm hb hB => ?_, fun n h H' b sm hb hB => ?_⟩)
      · have e := Stp.s_note_none s a h
        exact k H' τ d b (by rw [e]; exact o.same sm) (Fo.same sm) (im_iff.mpr ⟨by rw [e]; exact hB, o.wf.none hb⟩)
      · have e := Stp.s_note_some s a h
        exact k H' τ d b (by rw [e]; exact o.same sm) (Fo.same sm) (im_iff.mpr ⟨by rw [e]; exact hB, o.wf.none hb⟩)
    | phase a b =>
      wtm_at "IFF"
      wtm_at "GO"
      wtm_at "GO"
      wtm_at "IFT"
      refine G.s_ret (G.call_ (G.eva_cons (by wtm_at "EV") (G.eva_cons (ix 0 _ rfl) (G.eva_cons (ix 1 _ rfl) G.eva_nil))) ⟨st, s, τ, d, a, b, rfl, o, fun H' p sm hp hP => ?_⟩)
      by_cases h : s.rules.length ≤ a ∨ s.series.length ≤ b
      · have e := Stp.s_phase_none s a b h
        rw [if_pos h] at hP
        exact k H' τ d p (by rw [e]; exact o.same sm) (Fo.same sm) (im_iff.mpr ⟨by rw [e]; exact hP, o.wf.none hp⟩)
      · have e := Stp.s_phase_some s a b h
        rw [if_neg h] at hP
        exact k H' τ d p (by rw [e]; exact o.same sm) (Fo.same sm) (im_iff.mpr ⟨by rw [e]; exact hP, o.wf.none hp⟩)
    | value a b =>
      iterate 2
        wtm_at "IFF"
        wtm_at "GO"
        wtm_at "GO"
      wtm_at "IFT"
      refine G.s_ret (G.call_ (G.eva_cons (by wtm_at "EV") (G.eva_cons (ix 0 _ rfl) (G.eva_cons (ix 1 _ rfl) G.eva_nil))) ⟨st, s, τ, d, a, b, rfl, o, ok, fun h H' p sm hp hP => ?_, fun r x hr hx H' p sm hp hP => ?_⟩)
      · have e := Stp.s_value_none s a b (by
          rcases h with h | h
          · exact .inl (List.getElem?_eq_none h)
          · exact .inr (List.getElem?_eq_none h))
        exact k H' τ d p (by rw [e]; exact o.same sm) (Fo.same sm) (im_iff.mpr ⟨by rw [e]; exact hP, o.wf.none hp⟩)
      · have e := Stp.s_value_some s a b hr hx
        exact k H' τ d p (by rw [e]; exact o.same sm) (Fo.same sm) (im_iff.mpr ⟨by rw [e]; exact hP, o.wf.none hp⟩)
    | begin_ a b =>
      iterate 3
        wtm_at "IFF"
        wtm_at "GO"
        try wtm_at "GO"
      exact fin (by decide) (by decide) (by decide)
    | series a b =>
      iterate 3
        wtm_at "IFF"
        wtm_at "GO"
        try wtm_at "GO"
      exact fin (by decide) (by decide) (by decide)
    | rule a b u n e1 e2 g l =>
      iterate 3
        wtm_at "IFF"
        wtm_at "GO"
        try wtm_at "GO"
      exact fin (by decide) (by decide) (by decide)
    | silence a b f t =>
      iterate 3
        wtm_at "IFF"
        wtm_at "GO"
        try wtm_at "GO"
      exact fin (by decide) (by decide) (by decide)
    | end_ a =>
      iterate 3
        wtm_at "IFF"
        wtm_at "GO"
        try wtm_at "GO"
      exact fin (by decide) (by decide) (by decide)
    | sample a v =>
      iterate 3
        wtm_at "IFF"
        wtm_at "GO"
        try wtm_at "GO"
      exact fin (by decide) (by decide) (by decide)
    | tick a =>
      iterate 3
        wtm_at "IFF"
        wtm_at "GO"
        try wtm_at "GO"
      exact fin (by decide) (by decide) (by decide)
theorem Own.mvOut {H H' : Hp} {st : Addr} {s : Abs} {τ : Tg} {d : Ad} (o : Own c H st s τ d) (m : Mv τ .out H H') (w : Wf H' τ) : Own c H' st s τ d :=
  ⟨w, o.sT, m.at o.sO o.sT (fun z => nomatch z), o.eT, m.at o.eL o.eT (fun z => nomatch z), o.eN, fun i x b e1 e2 => (o.eA i x b e1 e2).mv m (fun z => nomatch z) (fun z => nomatch z), o.rT, m.at o.rL o.rT (fun z => nomatch z), o.rN, fun i x b e1 e2 => (o.rA i x b e1 e2).mono m.im,
    o.zT, m.at o.zL o.zT (fun z => nomatch z), o.zN, fun i x b e1 e2 => (o.zA i x b e1 e2).mv m (fun z => nomatch z), o.kA.mono m.im, m.im _ _ o.tL, o.tN, fun i b e1 => (o.tA i b e1).mv m (fun z => nomatch z), m.im _ _ o.nL, o.nN, fun i x b e1 e2 => (o.nA i x b e1 e2).mono m.im⟩
/-! ### answers -/
def spAns (K : PySem.W.Frag) : Sp := fun vs H Q _ => ∃ (a : Addr) (rs : List (List Int)), vs = [.ref a] ∧ SqL K H a (rs.flatten.map V.int) ∧ rs.flatten.length ≤ 16000 ∧ (∀ r ∈ rs, Dec.Row r) ∧ (Dec.told Kct7Neutral.start rs).length < 1003000 ∧
  ∀ (H' : Hp) (p : Addr), H' p = some (.lst ((Dec.told Kct7Neutral.start rs).map V.int)) → Q (.ref p) H'
theorem fn_ans (T : Txt K mg c) {f : Addr} {fd : FuncData} (F : Fun K "answers" "answers" s_answers f fd) : FnOk P w K mg base CX0 8 f fd p_answers (spAns K) := by
  have S := sc_answers
  have bl := T.b_len
  have tS := T.t_SIZES.top
  have zS : ∀ H, SqT K H c.SIZES (Dec.sizes.map V.int) := T.t_SIZES.sq
  have mS : G.Md P w K mg base "State" c.State 4 (spState c) := md_state T
  have fO : G.Fd P w K mg base "answer_of" 7 (spOf c) := fd_of T
  refine F.ok S (fun vs H Q E h => ?_) (fun cdv A outer s H vs Q E hr h => ?_)
  · obtain ⟨a, rs, rfl, _⟩ := h
    rfl
  · obtain ⟨a, rs, rfl, hS, hlen, hrow, hbig, k⟩ := h
    wtm_at "INIT"
    wtm_at "GO"
    refine G.s_setE (G.make_ G.eva_nil fun st dS n1 n2 n3 => ?_)
    refine ⟨st, dS, rfl, upd_same, fun H1 τ1 d1 o1 fr1 => ⟨rfl, ?_⟩⟩
    have im1 : ∀ b y, H b = some y → im H1 τ1 b = some y := fun b y e => fr1 b y (by rw [upd_ne (ne_of_none e n1), upd_ne (ne_of_none e n2)]; exact e) (ne_of_none e n1)
    dsimp only [List.set]
    wtm_at "GO"
    refine G.s_setE (G.lst_new G.eva_nil (Nat.zero_le _) fun g ng => ?_)
    have sg : Same H1 (upd H1 g (.lst [])) := same_new ng
    have hg2 : upd H1 g (.lst []) g = some (.lst []) := upd_same
    have hgH : H g = none := by
      cases e : H g with
      | none => rfl
      | some y => rw [im_at (im1 g y e)] at ng; cases ng
    generalize upd H1 g (.lst []) = H2 at sg hg2 ⊢
    have w2 : Wf H2 (setT τ1 g .out) := (o1.wf.same sg).set hg2 rfl
    have lft : ∀ b x, H1 b = some x → H2 b = some x ∧ setT τ1 g .out b = τ1 b := fun b x e => ⟨sg b x e, setT_ne (ne_of_none e ng)⟩
    have o2 : Own c H2 st (first 0 0) (setT τ1 g .out) d1 := o1.lift lft w2
    have im2 : ∀ b y, H b = some y → im H2 (setT τ1 g .out) b = some y := fun b y e => (Fo.tags lft).1 _ _ (im1 b y e)
    have tg2 : setT τ1 g .out g = some .out := setT_same
    generalize setT τ1 g .out = τ2 at w2 o2 im2 tg2
    dsimp only [List.set]
    wtm_at "GO"
    wtm_at "GO"
    wtm_at "GO"
    refine G.s_while (fun m σ H' => ∃ (pre rest : List (List Int)) (s : Abs) (τ : Tg) (d : Ad) (v4 v5 v6 : Option V), m = rest.flatten.length ∧ rs = pre ++ rest ∧ σ = [some (.ref a), some (.ref st), some (.ref g), some (.int pre.flatten.length), v4, v5, v6] ∧ Own c H' st s τ d ∧ Mth.Ok s ∧
      (∀ b y, H b = some y → im H' τ b = some y) ∧ τ g = some .out ∧ ∃ out : List Int, H' g = some (.lst (out.map V.int)) ∧ Dec.told Kct7Neutral.start rs = out ++ Dec.told s rest) _ ⟨[], rs, Kct7Neutral.start, τ2, d1, none, none, none, rfl, rfl, rfl, o2, Mth.ok_first 0 0, im2, tg2, [], hg2, rfl⟩ ?_
    rintro m σ H' ⟨pre, rest, s, τ, d, v4, v5, v6, rfl, e, rfl, o, ok, imH, tg, out, ho, et⟩
    have sm : Same H H' := fun b y z => im_at (imH b y z)
    have hS' := sm.seq hS
    refine ⟨_, by wtm_at "EVT", fun hb => ?_, fun hb => ?_⟩
    · have hb : pre.flatten.length < rs.flatten.length := by
        have hb := of_decide_eq_true hb
        rw [List.length_map] at hb
        omega
      cases rest with
      | nil =>
        rw [e, List.append_nil] at hb
        exact absurd hb (Nat.lt_irrefl _)
      | cons r rest =>
        have hrr := hrow r (by rw [e]; exact List.mem_append_right _ List.mem_cons_self)
        obtain ⟨j, args, rfl, hj, ha, hj10⟩ := Dec.row_cons hrr
        have hat : (rs.flatten.map V.int)[pre.flatten.length]? = some (.int (j : Int)) := by
          rw [List.getElem?_map, e, Dec.at_flat]; rfl
        have htot : pre.flatten.length + 1 + args.length ≤ rs.flatten.length := by
          rw [e, List.flatten_append, List.flatten_cons, List.length_append, List.length_append, List.length_cons]; omega
        wtm_at "GO"
        refine G.s_set (G.ev_ixAL (by wtm_at "EV") (by wtm_at "EV") hS' rfl hat) ?_
        dsimp only [List.set]
        wtm_at "GO"
        refine G.s_set (G.ev_i0 (by wtm_at "EV") (G.ev_ixAT (by wtm_at "EV") (by wtm_at "EV") (zS _) rfl (by rw [List.getElem?_map, hj]; rfl))) ?_
        dsimp only [List.set]
        wtm_at "GO"
        refine G.s_setE (G.call3 (G.use (G.ev_var rfl) (G.use (G.ev_var rfl) ?_)))
        refine G.sl_nat (a := pre.flatten.length + 1) (b := pre.flatten.length + 1 + args.length) (by wtm_at "EV") (by wtm_at "EV") (by wtm_at "EV") hS' (by omega) (by omega) (by omega) (by rw [List.length_map]; exact htot) fun q hq => ?_
        have eq : ((rs.flatten.map V.int).drop (pre.flatten.length + 1)).take (pre.flatten.length + 1 + args.length - (pre.flatten.length + 1)) = args.map V.int := by
          rw [← List.map_drop, ← List.map_take, Nat.add_sub_cancel_left, e, Dec.cut_flat]
        rw [eq]
        have smq : Same H' (upd H' q (.lst (args.map V.int))) := same_new hq
        refine ⟨st, q, j, args, s, τ, d, rfl, o.same smq, ok, upd_same, hrr, fun H3 τ3 d3 an o3 fo3 han => ?_⟩
        have ok3 := ok_step ok hrr
        have et2 : Dec.told Kct7Neutral.start rs = (out ++ (((Kct7Neutral.step s [(j : Int) :: args]).2.length : Int) :: (Kct7Neutral.step s [(j : Int) :: args]).2)) ++ Dec.told (Kct7Neutral.step s [(j : Int) :: args]).1 rest := by
          rw [et, Dec.told_cons, List.append_assoc]
        have hlen2 : out.length + 1 + (Kct7Neutral.step s [(j : Int) :: args]).2.length < 1003000 := by
          have := hbig
          rw [et2, List.length_append, List.length_append, List.length_cons] at this
          omega
        obtain ⟨tg3, hg3⟩ := fo3.2 g _ tg (smq _ _ ho)
        have han' := im_at han
        have nga : an ≠ g := fun z => by
          have := im_tag han
          rw [z, tg3] at this; cases this
        dsimp only [List.set]
        wtm_at "GO"
        refine G.s_app (by wtm_at "EV") (by wtm_at "EV") hg3 (by rw [List.length_map]; exact Nat.lt_of_lt_of_le (by omega) G.size16) ?_
        dsimp only
        wtm_at "GO"
        refine G.s_ext (by wtm_at "EV") (by wtm_at "EV") upd_same (by rw [upd_ne nga]; exact han') ?_ ?_
        · rw [List.length_append, List.length_map, List.length_map, List.length_singleton]
          exact Nat.le_trans (by omega) G.size16
        · rw [upd_upd]
          dsimp only
          wtm_at "GO"
          have e3 : (pre ++ [(j : Int) :: args]).flatten.length = pre.flatten.length + 1 + args.length := by
            rw [List.flatten_append, List.length_append, List.flatten_cons, List.flatten_nil, List.append_nil, List.length_cons]; omega
          have m4 : ∀ x : HO, Mv τ3 .out H3 (upd H3 g x) := fun x => mv_upd tg3
          refine ⟨rest.flatten.length, ?_, pre ++ [(j : Int) :: args], rest, _, τ3, d3, some (.int (j : Int)), some (.int ((pre.flatten.length : Int) + 1 + (args.length : Int))), some (.ref an), rfl, ?_, ?_, o3.mvOut (m4 _) (o3.wf.upd rfl), ok3, fun b y z => (m4 _).im _ _ (fo3.1 _ _ (im_same smq _ _ (imH b y z))), tg3, out ++ (((Kct7Neutral.step s [(j : Int) :: args]).2.length : Int) :: (Kct7Neutral.step s [(j : Int) :: args]).2), ?_, et2⟩
          · rw [List.flatten_cons, List.length_append, List.length_cons]; omega
          · rw [e, List.append_assoc]; rfl
          · rw [e3]
            show _ = _
            congr 4
          · rw [upd_same, List.map_append, List.map_cons, List.append_assoc, List.length_map]
            rfl
    · have hb : ¬ pre.flatten.length < rs.flatten.length := by
        have hb := of_decide_eq_false hb
        rw [List.length_map] at hb
        omega
      have er : rest.flatten = [] := by
        rw [e, List.flatten_append, List.length_append] at hb
        exact List.eq_nil_of_length_eq_zero (by omega)
      have er : rest = [] := by
        cases rest with
        | nil => rfl
        | cons r rest =>
          obtain ⟨j, args, rfl, _⟩ := Dec.row_cons (hrow r (by rw [e]; exact List.mem_append_right _ List.mem_cons_self))
          cases er
      subst er
      dsimp only
      wtm_at "GO"
      refine k _ g ?_
      rw [ho, et, Dec.told_nil, List.append_nil]
end
end My
end
set_option Elab.async false
set_option linter.all false
set_option maxRecDepth 100000
def PySem.W.Fast.tw17824245378729232736 : Nat := 0
def PySem.W.Fast.tw5608655038393514857 : Nat := 0
def PySem.W.Fast.tw8234882235399128615 : Nat := 0
def PySem.W.Fast.tw11023562493068862996 : Nat := 0
def PySem.W.Fast.tw16466315251845418763 : Nat := 0
def PySem.W.Fast.tw16009732484703061498 : Nat := 0
def PySem.W.Fast.tw2808080988657434843 : Nat := 0
def PySem.W.Fast.tw17925970186074084611 : Nat := 0
def PySem.W.Fast.tw6847894117669046801 : Nat := 0
def PySem.W.Fast.tw6684943883427787928 : Nat := 0
open PySem PySem.W PyProof.Rows
set_option maxRecDepth 100000 in
set_option maxHeartbeats 0 in
theorem PySem.Challenge.cw_toldonce_s01_answers_holds : PySem.Challenge.rw_toldonce_s01_answers.Holds := by
  w_on; k_headS; (case hw => exact ⟨[.list [.int 0, .int 0, .int 0]], by decide +kernel, by decide +kernel⟩)
  k_fillS
  refine L2.walk_specK (r := PySem.Challenge.rw_toldonce_s01_answers) (k := 8) (CX := L2.CX0) (ps := ["calls"]) (sp := My.spAns) (by decide +kernel) rfl rfl ⟨rfl, by decide, by decide⟩ (fun w h Y => PySem.W.kIn_of Y) ?F ?S (fun _ _ _ _ z => z)
  case F =>
    intro w mg fa h Y KX GG hmg
    have v_MISSING : G.Num mg "MISSING" (-2) := by
      refine' G.num_mk KX GG ?a0; (case a0 => k_is)
    have v_WRONG : G.Num mg "WRONG" (-22) := by
      refine' G.num_mk KX GG ?a1; (case a1 => k_is)
    have v_FULL : G.Num mg "FULL" (-28) := by
      refine' G.num_mk KX GG ?a2; (case a2 => k_is)
    have v_ANY : G.Num mg "ANY" (255) := by
      refine' G.num_mk KX GG ?a3; (case a3 => k_is)
    have v_MOST_SERIES : G.Num mg "MOST_SERIES" (64) := by
      refine' G.num_mk KX GG ?a4; (case a4 => k_is)
    have v_MOST_RULES : G.Num mg "MOST_RULES" (32) := by
      refine' G.num_mk KX GG ?a5; (case a5 => k_is)
    have v_MOST_SILENCES : G.Num mg "MOST_SILENCES" (32) := by
      refine' G.num_mk KX GG ?a6; (case a6 => k_is)
    have v_MOST_MEASURED : G.Num mg "MOST_MEASURED" (64) := by
      refine' G.num_mk KX GG ?a7; (case a7 => k_is)
    have v_LAST_KIND : G.Num mg "LAST_KIND" (31) := by
      refine' G.num_mk KX GG ?a8; (case a8 => k_is)
    have v_LAST_GROUP : G.Num mg "LAST_GROUP" (15) := by
      refine' G.num_mk KX GG ?a9; (case a9 => k_is)
    have v_LAST_WHAT : G.Num mg "LAST_WHAT" (5) := by
      refine' G.num_mk KX GG ?a10; (case a10 => k_is)
    have v_LAST_LEVEL : G.Num mg "LAST_LEVEL" (3) := by
      refine' G.num_mk KX GG ?a11; (case a11 => k_is)
    have v_LONGEST_SPAN : G.Num mg "LONGEST_SPAN" (16777216) := by
      refine' G.num_mk KX GG ?a12; (case a12 => k_is)
    have v_LAST_TIME : G.Num mg "LAST_TIME" (1099511627776) := by
      refine' G.num_mk KX GG ?a13; (case a13 => k_is)
    have v_WIDEST_VALUE : G.Num mg "WIDEST_VALUE" (1099511627776) := by
      refine' G.num_mk KX GG ?a14; (case a14 => k_is)
    have v_WIDEST_BOUND : G.Num mg "WIDEST_BOUND" (1125899906842624) := by
      refine' G.num_mk KX GG ?a15; (case a15 => k_is)
    have v_LAST : G.Num mg "LAST" (0) := by
      refine' G.num_mk KX GG ?a17; (case a17 => k_is)
    have v_LEAST : G.Num mg "LEAST" (1) := by
      refine' G.num_mk KX GG ?a18; (case a18 => k_is)
    have v_GREATEST : G.Num mg "GREATEST" (2) := by
      refine' G.num_mk KX GG ?a19; (case a19 => k_is)
    have v_TOTAL : G.Num mg "TOTAL" (3) := by
      refine' G.num_mk KX GG ?a20; (case a20 => k_is)
    have v_HOW_MANY : G.Num mg "HOW_MANY" (4) := by
      refine' G.num_mk KX GG ?a21; (case a21 => k_is)
    have d_value_of : G.Def (L2.KOf KX) mg "value_of" My.s_value_of My.p_value_of := by
      dsimp only [L2.KOf]
      refine' G.def_mk KX GG ?a22 ?l22 ?c22 ?k22 ?b22; (case a22 => k_is); (case l22 => k_is); (case c22 => k_is); (case k22 => k_is)
      exact fun _ _ _ _ _ _ us hl => match us, hl with | [_, _, _], _ => rfl
    have d_first_later : G.Def (L2.KOf KX) mg "first_later" My.s_first_later My.p_first_later := by
      dsimp only [L2.KOf]
      refine' G.def_mk KX GG ?a23 ?l23 ?c23 ?k23 ?b23; (case a23 => k_is); (case l23 => k_is); (case c23 => k_is); (case k23 => k_is)
      exact fun _ _ _ _ _ _ us hl => match us, hl with | [_, _], _ => rfl
    have d_is_so : G.Def (L2.KOf KX) mg "is_so" My.s_is_so My.p_is_so := by
      dsimp only [L2.KOf]
      refine' G.def_mk KX GG ?a24 ?l24 ?c24 ?k24 ?b24; (case a24 => k_is); (case l24 => k_is); (case c24 => k_is); (case k24 => k_is)
      exact fun _ _ _ _ _ _ us hl => match us, hl with | [_, _], _ => rfl
    have d_is_over : G.Def (L2.KOf KX) mg "is_over" My.s_is_over My.p_is_over := by
      dsimp only [L2.KOf]
      refine' G.def_mk KX GG ?a25 ?l25 ?c25 ?k25 ?b25; (case a25 => k_is); (case l25 => k_is); (case c25 => k_is); (case k25 => k_is)
      exact fun _ _ _ _ _ _ us hl => match us, hl with | [_, _], _ => rfl
    have d_note_answer : G.Def (L2.KOf KX) mg "note_answer" My.s_note_answer My.p_note_answer := by
      dsimp only [L2.KOf]
      refine' G.def_mk KX GG ?a27 ?l27 ?c27 ?k27 ?b27; (case a27 => k_is); (case l27 => k_is); (case c27 => k_is); (case k27 => k_is)
      exact fun _ _ _ _ _ _ us hl => match us, hl with | [_, _], _ => rfl
    have d_phase_answer : G.Def (L2.KOf KX) mg "phase_answer" My.s_phase_answer My.p_phase_answer := by
      dsimp only [L2.KOf]
      refine' G.def_mk KX GG ?a28 ?l28 ?c28 ?k28 ?b28; (case a28 => k_is); (case l28 => k_is); (case c28 => k_is); (case k28 => k_is)
      exact fun _ _ _ _ _ _ us hl => match us, hl with | [_, _, _], _ => rfl
    have d_value_answer : G.Def (L2.KOf KX) mg "value_answer" My.s_value_answer My.p_value_answer := by
      dsimp only [L2.KOf]
      refine' G.def_mk KX GG ?a29 ?l29 ?c29 ?k29 ?b29; (case a29 => k_is); (case l29 => k_is); (case c29 => k_is); (case k29 => k_is)
      exact fun _ _ _ _ _ _ us hl => match us, hl with | [_, _, _], _ => rfl
    have d_is_there : G.Def (L2.KOf KX) mg "is_there" My.s_is_there My.p_is_there := by
      dsimp only [L2.KOf]
      refine' G.def_mk KX GG ?a30 ?l30 ?c30 ?k30 ?b30; (case a30 => k_is); (case l30 => k_is); (case c30 => k_is); (case k30 => k_is)
      exact fun _ _ _ _ _ _ us hl => match us, hl with | [_, _, _], _ => rfl
    obtain ⟨C_Series, q_Series⟩ : ∃ C, G.Cla (L2.KOf KX) mg "Series" C "Series.__init__" My.s_Series My.p_Series ∧ G.ClsN (L2.KOf KX) C My.a_Series ∧ True := by
      dsimp only [L2.KOf]
      refine' ⟨_, G.cla_mk KX GG ?aC32 ?a32 ?i32 ?l32 ?c32 ?k32 ?mk32 ?kc32 ?b32, G.clsN_mk ?pg32 ?hd32 ?po32 ?sa32 ?n32, trivial⟩
      (case aC32 => k_is); (case a32 => k_is); (case i32 => k_is); (case l32 => k_is); (case c32 => k_is); (case k32 => k_is); (case mk32 => k_is); (case kc32 => k_is); (case pg32 => k_is); (case hd32 => k_is); (case po32 => k_is); (case sa32 => k_is)
      case b32 => exact fun _ _ _ _ _ _ us hl => match us, hl with | [_, _, _], _ => rfl
      case n32 =>
        intro f hf
        simp only [List.mem_cons, List.not_mem_nil, or_false] at hf
        rcases hf with rfl | rfl | rfl | rfl <;> (show PySem.W.findIn _ _ _ = some none; k_is)
      skip
    obtain ⟨C_Rule, q_Rule⟩ : ∃ C, G.Cla (L2.KOf KX) mg "Rule" C "Rule.__init__" My.s_Rule My.p_Rule ∧ G.ClsN (L2.KOf KX) C My.a_Rule ∧ True := by
      dsimp only [L2.KOf]
      refine' ⟨_, G.cla_mk KX GG ?aC33 ?a33 ?i33 ?l33 ?c33 ?k33 ?mk33 ?kc33 ?b33, G.clsN_mk ?pg33 ?hd33 ?po33 ?sa33 ?n33, trivial⟩
      (case aC33 => k_is); (case a33 => k_is); (case i33 => k_is); (case l33 => k_is); (case c33 => k_is); (case k33 => k_is); (case mk33 => k_is); (case kc33 => k_is); (case pg33 => k_is); (case hd33 => k_is); (case po33 => k_is); (case sa33 => k_is)
      case b33 => exact fun _ _ _ _ _ _ us hl => match us, hl with | [_, _, _, _, _, _, _, _, _], _ => rfl
      case n33 =>
        intro f hf
        simp only [List.mem_cons, List.not_mem_nil, or_false] at hf
        rcases hf with rfl | rfl | rfl | rfl | rfl | rfl | rfl | rfl <;> (show PySem.W.findIn _ _ _ = some none; k_is)
      skip
    obtain ⟨C_Silence, q_Silence⟩ : ∃ C, G.Cla (L2.KOf KX) mg "Silence" C "Silence.__init__" My.s_Silence My.p_Silence ∧ G.ClsN (L2.KOf KX) C My.a_Silence ∧ True := by
      dsimp only [L2.KOf]
      refine' ⟨_, G.cla_mk KX GG ?aC34 ?a34 ?i34 ?l34 ?c34 ?k34 ?mk34 ?kc34 ?b34, G.clsN_mk ?pg34 ?hd34 ?po34 ?sa34 ?n34, trivial⟩
      (case aC34 => k_is); (case a34 => k_is); (case i34 => k_is); (case l34 => k_is); (case c34 => k_is); (case k34 => k_is); (case mk34 => k_is); (case kc34 => k_is); (case pg34 => k_is); (case hd34 => k_is); (case po34 => k_is); (case sa34 => k_is)
      case b34 => exact fun _ _ _ _ _ _ us hl => match us, hl with | [_, _, _, _, _], _ => rfl
      case n34 =>
        intro f hf
        simp only [List.mem_cons, List.not_mem_nil, or_false] at hf
        rcases hf with rfl | rfl | rfl | rfl | rfl <;> (show PySem.W.findIn _ _ _ = some none; k_is)
      skip
    obtain ⟨C_Told, q_Told⟩ : ∃ C, G.Cla (L2.KOf KX) mg "Told" C "Told.__init__" My.s_Told My.p_Told ∧ G.ClsN (L2.KOf KX) C My.a_Told ∧ True := by
      dsimp only [L2.KOf]
      refine' ⟨_, G.cla_mk KX GG ?aC35 ?a35 ?i35 ?l35 ?c35 ?k35 ?mk35 ?kc35 ?b35, G.clsN_mk ?pg35 ?hd35 ?po35 ?sa35 ?n35, trivial⟩
      (case aC35 => k_is); (case a35 => k_is); (case i35 => k_is); (case l35 => k_is); (case c35 => k_is); (case k35 => k_is); (case mk35 => k_is); (case kc35 => k_is); (case pg35 => k_is); (case hd35 => k_is); (case po35 => k_is); (case sa35 => k_is)
      case b35 => exact fun _ _ _ _ _ _ us hl => match us, hl with | [_], _ => rfl
      case n35 =>
        intro f hf
        simp only [List.mem_cons, List.not_mem_nil, or_false] at hf
        rcases hf with rfl | rfl <;> (show PySem.W.findIn _ _ _ = some none; k_is)
      skip
    obtain ⟨C_Note, q_Note⟩ : ∃ C, G.Cla (L2.KOf KX) mg "Note" C "Note.__init__" My.s_Note My.p_Note ∧ G.ClsN (L2.KOf KX) C My.a_Note ∧ True := by
      dsimp only [L2.KOf]
      refine' ⟨_, G.cla_mk KX GG ?aC36 ?a36 ?i36 ?l36 ?c36 ?k36 ?mk36 ?kc36 ?b36, G.clsN_mk ?pg36 ?hd36 ?po36 ?sa36 ?n36, trivial⟩
      (case aC36 => k_is); (case a36 => k_is); (case i36 => k_is); (case l36 => k_is); (case c36 => k_is); (case k36 => k_is); (case mk36 => k_is); (case kc36 => k_is); (case pg36 => k_is); (case hd36 => k_is); (case po36 => k_is); (case sa36 => k_is)
      case b36 => exact fun _ _ _ _ _ _ us hl => match us, hl with | [_, _, _, _, _], _ => rfl
      case n36 =>
        intro f hf
        simp only [List.mem_cons, List.not_mem_nil, or_false] at hf
        rcases hf with rfl | rfl | rfl | rfl <;> (show PySem.W.findIn _ _ _ = some none; k_is)
      skip
    obtain ⟨C_State, q_State⟩ : ∃ C, G.Cla (L2.KOf KX) mg "State" C "State.__init__" My.s_State My.p_State ∧ G.ClsN (L2.KOf KX) C My.a_State ∧ G.Met (L2.KOf KX) C "start_over" "State.start_over" My.s_State_start_over My.p_State_start_over := by
      dsimp only [L2.KOf]
      refine' ⟨_, G.cla_mk KX GG ?aC37 ?a37 ?i37 ?l37 ?c37 ?k37 ?mk37 ?kc37 ?b37, G.clsN_mk ?pg37 ?hd37 ?po37 ?sa37 ?n37, G.met_mk ?ma37 ?mi37 ?ml37 ?mc37 ?mk237 ?mb37⟩
      (case aC37 => k_is); (case a37 => k_is); (case i37 => k_is); (case l37 => k_is); (case c37 => k_is); (case k37 => k_is); (case mk37 => k_is); (case kc37 => k_is); (case pg37 => k_is); (case hd37 => k_is); (case po37 => k_is); (case sa37 => k_is)
      case b37 => exact fun _ _ _ _ _ _ us hl => match us, hl with | [_], _ => rfl
      case n37 =>
        intro f hf
        simp only [List.mem_cons, List.not_mem_nil, or_false] at hf
        rcases hf with rfl | rfl | rfl | rfl | rfl | rfl | rfl | rfl | rfl <;> (show PySem.W.findIn _ _ _ = some none; k_is)
      (case ma37 => k_is); (case mi37 => k_is); (case ml37 => k_is); (case mc37 => k_is); (case mk237 => k_is); (case mb37 => exact fun _ _ _ _ _ _ us hl => match us, hl with | [_, _, _], _ => rfl)
    have v_BEEN_SO : G.Num mg "BEEN_SO" (1) := by
      refine' G.num_mk KX GG ?a39; (case a39 => k_is)
    have v_FIRES : G.Num mg "FIRES" (2) := by
      refine' G.num_mk KX GG ?a40; (case a40 => k_is)
    have d_known_now : G.Def (L2.KOf KX) mg "known_now" My.s_known_now My.p_known_now := by
      dsimp only [L2.KOf]
      refine' G.def_mk KX GG ?a41 ?l41 ?c41 ?k41 ?b41; (case a41 => k_is); (case l41 => k_is); (case c41 => k_is); (case k41 => k_is)
      exact fun _ _ _ _ _ _ us hl => match us, hl with | [_], _ => rfl
    have d_known_after : G.Def (L2.KOf KX) mg "known_after" My.s_known_after My.p_known_after := by
      dsimp only [L2.KOf]
      refine' G.def_mk KX GG ?a42 ?l42 ?c42 ?k42 ?b42; (case a42 => k_is); (case l42 => k_is); (case c42 => k_is); (case k42 => k_is)
      exact fun _ _ _ _ _ _ us hl => match us, hl with | [_, _, _, _], _ => rfl
    have d_known_first : G.Def (L2.KOf KX) mg "known_first" My.s_known_first My.p_known_first := by
      dsimp only [L2.KOf]
      refine' G.def_mk KX GG ?a43 ?l43 ?c43 ?k43 ?b43; (case a43 => k_is); (case l43 => k_is); (case c43 => k_is); (case k43 => k_is)
      exact fun _ _ _ _ _ _ us hl => match us, hl with | [_, _, _], _ => rfl
    have d_notes_now : G.Def (L2.KOf KX) mg "notes_now" My.s_notes_now My.p_notes_now := by
      dsimp only [L2.KOf]
      refine' G.def_mk KX GG ?a45 ?l45 ?c45 ?k45 ?b45; (case a45 => k_is); (case l45 => k_is); (case c45 => k_is); (case k45 => k_is)
      exact fun _ _ _ _ _ _ us hl => match us, hl with | [_], _ => rfl
    have d_note_of : G.Def (L2.KOf KX) mg "note_of" My.s_note_of My.p_note_of := by
      dsimp only [L2.KOf]
      refine' G.def_mk KX GG ?a46 ?l46 ?c46 ?k46 ?b46; (case a46 => k_is); (case l46 => k_is); (case c46 => k_is); (case k46 => k_is)
      exact fun _ _ _ _ _ _ us hl => match us, hl with | [_, _, _], _ => rfl
    have d_is_ago : G.Def (L2.KOf KX) mg "is_ago" My.s_is_ago My.p_is_ago := by
      dsimp only [L2.KOf]
      refine' G.def_mk KX GG ?a47 ?l47 ?c47 ?k47 ?b47; (case a47 => k_is); (case l47 => k_is); (case c47 => k_is); (case k47 => k_is)
      exact fun _ _ _ _ _ _ us hl => match us, hl with | [_, _, _], _ => rfl
    have d_those_not_in : G.Def (L2.KOf KX) mg "those_not_in" My.s_those_not_in My.p_those_not_in := by
      dsimp only [L2.KOf]
      refine' G.def_mk KX GG ?a48 ?l48 ?c48 ?k48 ?b48; (case a48 => k_is); (case l48 => k_is); (case c48 => k_is); (case k48 => k_is)
      exact fun _ _ _ _ _ _ us hl => match us, hl with | [_, _], _ => rfl
    have d_unsilenced_by_group : G.Def (L2.KOf KX) mg "unsilenced_by_group" My.s_unsilenced_by_group My.p_unsilenced_by_group := by
      dsimp only [L2.KOf]
      refine' G.def_mk KX GG ?a49 ?l49 ?c49 ?k49 ?b49; (case a49 => k_is); (case l49 => k_is); (case c49 => k_is); (case k49 => k_is)
      exact fun _ _ _ _ _ _ us hl => match us, hl with | [_], _ => rfl
    have d_silenced_now : G.Def (L2.KOf KX) mg "silenced_now" My.s_silenced_now My.p_silenced_now := by
      dsimp only [L2.KOf]
      refine' G.def_mk KX GG ?a50 ?l50 ?c50 ?k50 ?b50; (case a50 => k_is); (case l50 => k_is); (case c50 => k_is); (case k50 => k_is)
      exact fun _ _ _ _ _ _ us hl => match us, hl with | [_], _ => rfl
    have d_is_silenced : G.Def (L2.KOf KX) mg "is_silenced" My.s_is_silenced My.p_is_silenced := by
      dsimp only [L2.KOf]
      refine' G.def_mk KX GG ?a51 ?l51 ?c51 ?k51 ?b51; (case a51 => k_is); (case l51 => k_is); (case c51 => k_is); (case k51 => k_is)
      exact fun _ _ _ _ _ _ us hl => match us, hl with | [_, _, _], _ => rfl
    have d_gravest : G.Def (L2.KOf KX) mg "gravest" My.s_gravest My.p_gravest := by
      dsimp only [L2.KOf]
      refine' G.def_mk KX GG ?a52 ?l52 ?c52 ?k52 ?b52; (case a52 => k_is); (case l52 => k_is); (case c52 => k_is); (case k52 => k_is)
      exact fun _ _ _ _ _ _ us hl => match us, hl with | [_, _], _ => rfl
    have d_sample : G.Def (L2.KOf KX) mg "sample" My.s_sample My.p_sample := by
      dsimp only [L2.KOf]
      refine' G.def_mk KX GG ?a54 ?l54 ?c54 ?k54 ?b54; (case a54 => k_is); (case l54 => k_is); (case c54 => k_is); (case k54 => k_is)
      exact fun _ _ _ _ _ _ us hl => match us, hl with | [_, _, _], _ => rfl
    have d_tick : G.Def (L2.KOf KX) mg "tick" My.s_tick My.p_tick := by
      dsimp only [L2.KOf]
      refine' G.def_mk KX GG ?a55 ?l55 ?c55 ?k55 ?b55; (case a55 => k_is); (case l55 => k_is); (case c55 => k_is); (case k55 => k_is)
      exact fun _ _ _ _ _ _ us hl => match us, hl with | [_, _], _ => rfl
    have d_begin : G.Def (L2.KOf KX) mg "begin" My.s_begin My.p_begin := by
      dsimp only [L2.KOf]
      refine' G.def_mk KX GG ?a57 ?l57 ?c57 ?k57 ?b57; (case a57 => k_is); (case l57 => k_is); (case c57 => k_is); (case k57 => k_is)
      exact fun _ _ _ _ _ _ us hl => match us, hl with | [_, _, _], _ => rfl
    have d_add_series : G.Def (L2.KOf KX) mg "add_series" My.s_add_series My.p_add_series := by
      dsimp only [L2.KOf]
      refine' G.def_mk KX GG ?a58 ?l58 ?c58 ?k58 ?b58; (case a58 => k_is); (case l58 => k_is); (case c58 => k_is); (case k58 => k_is)
      exact fun _ _ _ _ _ _ us hl => match us, hl with | [_, _], _ => rfl
    have d_add_rule : G.Def (L2.KOf KX) mg "add_rule" My.s_add_rule My.p_add_rule := by
      dsimp only [L2.KOf]
      refine' G.def_mk KX GG ?a59 ?l59 ?c59 ?k59 ?b59; (case a59 => k_is); (case l59 => k_is); (case c59 => k_is); (case k59 => k_is)
      exact fun _ _ _ _ _ _ us hl => match us, hl with | [_, _], _ => rfl
    have d_add_silence : G.Def (L2.KOf KX) mg "add_silence" My.s_add_silence My.p_add_silence := by
      dsimp only [L2.KOf]
      refine' G.def_mk KX GG ?a60 ?l60 ?c60 ?k60 ?b60; (case a60 => k_is); (case l60 => k_is); (case c60 => k_is); (case k60 => k_is)
      exact fun _ _ _ _ _ _ us hl => match us, hl with | [_, _], _ => rfl
    have d_end_silence : G.Def (L2.KOf KX) mg "end_silence" My.s_end_silence My.p_end_silence := by
      dsimp only [L2.KOf]
      refine' G.def_mk KX GG ?a61 ?l61 ?c61 ?k61 ?b61; (case a61 => k_is); (case l61 => k_is); (case c61 => k_is); (case k61 => k_is)
      exact fun _ _ _ _ _ _ us hl => match us, hl with | [_, _], _ => rfl
    have d_is_wrong_choice : G.Def (L2.KOf KX) mg "is_wrong_choice" My.s_is_wrong_choice My.p_is_wrong_choice := by
      dsimp only [L2.KOf]
      refine' G.def_mk KX GG ?a62 ?l62 ?c62 ?k62 ?b62; (case a62 => k_is); (case l62 => k_is); (case c62 => k_is); (case k62 => k_is)
      exact fun _ _ _ _ _ _ us hl => match us, hl with | [_], _ => rfl
    have d_is_wrong_span : G.Def (L2.KOf KX) mg "is_wrong_span" My.s_is_wrong_span My.p_is_wrong_span := by
      dsimp only [L2.KOf]
      refine' G.def_mk KX GG ?a63 ?l63 ?c63 ?k63 ?b63; (case a63 => k_is); (case l63 => k_is); (case c63 => k_is); (case k63 => k_is)
      exact fun _ _ _ _ _ _ us hl => match us, hl with | [_], _ => rfl
    have d_is_wrong_bound : G.Def (L2.KOf KX) mg "is_wrong_bound" My.s_is_wrong_bound My.p_is_wrong_bound := by
      dsimp only [L2.KOf]
      refine' G.def_mk KX GG ?a64 ?l64 ?c64 ?k64 ?b64; (case a64 => k_is); (case l64 => k_is); (case c64 => k_is); (case k64 => k_is)
      exact fun _ _ _ _ _ _ us hl => match us, hl with | [_], _ => rfl
    have d_number_of_added : G.Def (L2.KOf KX) mg "number_of_added" My.s_number_of_added My.p_number_of_added := by
      dsimp only [L2.KOf]
      refine' G.def_mk KX GG ?a65 ?l65 ?c65 ?k65 ?b65; (case a65 => k_is); (case l65 => k_is); (case c65 => k_is); (case k65 => k_is)
      exact fun _ _ _ _ _ _ us hl => match us, hl with | [_, _, _], _ => rfl
    have v_BEGIN : G.Num mg "BEGIN" (0) := by
      refine' G.num_mk KX GG ?a67; (case a67 => k_is)
    have v_SERIES : G.Num mg "SERIES" (1) := by
      refine' G.num_mk KX GG ?a68; (case a68 => k_is)
    have v_RULE : G.Num mg "RULE" (2) := by
      refine' G.num_mk KX GG ?a69; (case a69 => k_is)
    have v_SILENCE : G.Num mg "SILENCE" (3) := by
      refine' G.num_mk KX GG ?a70; (case a70 => k_is)
    have v_END : G.Num mg "END" (4) := by
      refine' G.num_mk KX GG ?a71; (case a71 => k_is)
    have v_SAMPLE : G.Num mg "SAMPLE" (5) := by
      refine' G.num_mk KX GG ?a72; (case a72 => k_is)
    have v_NOTE : G.Num mg "NOTE" (7) := by
      refine' G.num_mk KX GG ?a73; (case a73 => k_is)
    have v_PHASE : G.Num mg "PHASE" (8) := by
      refine' G.num_mk KX GG ?a74; (case a74 => k_is)
    have v_VALUE : G.Num mg "VALUE" (9) := by
      refine' G.num_mk KX GG ?a75; (case a75 => k_is)
    obtain ⟨A_SIZES, t_SIZES⟩ : ∃ a, G.TupI _ mg "SIZES" a [.int (2), .int (2), .int (8), .int (4), .int (1), .int (2), .int (1), .int (1), .int (2), .int (2)] := by
      refine' ⟨_, G.tup_mk KX GG ?e76 ?l76 ?c76 ?d76 ?z76 ?v76⟩; (case e76 => k_is); (case l76 => k_is); (case c76 => rfl); (case d76 => rfl); (case z76 => decide); (case v76 => rfl)
    have d_answers : G.Def (L2.KOf KX) mg "answers" My.s_answers My.p_answers := by
      dsimp only [L2.KOf]
      refine' G.def_mk KX GG ?a77 ?l77 ?c77 ?k77 ?b77; (case a77 => k_is); (case l77 => k_is); (case c77 => k_is); (case k77 => k_is)
      exact fun _ _ _ _ _ _ us hl => match us, hl with | [_], _ => rfl
    have d_answer_of : G.Def (L2.KOf KX) mg "answer_of" My.s_answer_of My.p_answer_of := by
      dsimp only [L2.KOf]
      refine' G.def_mk KX GG ?a78 ?l78 ?c78 ?k78 ?b78; (case a78 => k_is); (case l78 => k_is); (case c78 => k_is); (case k78 => k_is)
      exact fun _ _ _ _ _ _ us hl => match us, hl with | [_, _, _], _ => rfl
    have d_number_of : G.Def (L2.KOf KX) mg "number_of" My.s_number_of My.p_number_of := by
      dsimp only [L2.KOf]
      refine' G.def_mk KX GG ?a79 ?l79 ?c79 ?k79 ?b79; (case a79 => k_is); (case l79 => k_is); (case c79 => k_is); (case k79 => k_is)
      exact fun _ _ _ _ _ _ us hl => match us, hl with | [_, _, _], _ => rfl
    have d_rule_of : G.Def (L2.KOf KX) mg "rule_of" My.s_rule_of My.p_rule_of := by
      dsimp only [L2.KOf]
      refine' G.def_mk KX GG ?a80 ?l80 ?c80 ?k80 ?b80; (case a80 => k_is); (case l80 => k_is); (case c80 => k_is); (case k80 => k_is)
      exact fun _ _ _ _ _ _ us hl => match us, hl with | [_], _ => rfl
    have b_len : mg "len" = none := by
      refine' PySem.W.mg_none_of KX GG ?a_len; k_is
    have b_range : mg "range" = none := by
      refine' PySem.W.mg_none_of KX GG ?a_range; k_is
    have b_abs : mg "abs" = none := by
      refine' PySem.W.mg_none_of KX GG ?a_abs; k_is
    have b_min : mg "min" = none := by
      refine' PySem.W.mg_none_of KX GG ?a_min; k_is
    have b_max : mg "max" = none := by
      refine' PySem.W.mg_none_of KX GG ?a_max; k_is
    have b_sum : mg "sum" = none := by
      refine' PySem.W.mg_none_of KX GG ?a_sum; k_is
    have b_enumerate : mg "enumerate" = none := by
      refine' PySem.W.mg_none_of KX GG ?a_enumerate; k_is
    have T : My.Txt (L2.KOf KX) mg ⟨C_Series, C_Rule, C_Silence, C_Told, C_Note, C_State, A_SIZES⟩ := ⟨v_MISSING, v_WRONG, v_FULL, v_ANY, v_MOST_SERIES, v_MOST_RULES, v_MOST_SILENCES, v_MOST_MEASURED, v_LAST_KIND, v_LAST_GROUP, v_LAST_WHAT, v_LAST_LEVEL, v_LONGEST_SPAN, v_LAST_TIME, v_WIDEST_VALUE, v_WIDEST_BOUND, v_LAST, v_LEAST, v_GREATEST, v_TOTAL, v_HOW_MANY, d_value_of, d_first_later, d_is_so, d_is_over, d_note_answer, d_phase_answer, d_value_answer, d_is_there, q_Series.1, q_Series.2.1, q_Rule.1, q_Rule.2.1, q_Silence.1, q_Silence.2.1, q_Told.1, q_Told.2.1, q_Note.1, q_Note.2.1, q_State.1, q_State.2.1, q_State.2.2, v_BEEN_SO, v_FIRES, d_known_now, d_known_after, d_known_first, d_notes_now, d_note_of, d_is_ago, d_those_not_in, d_unsilenced_by_group, d_silenced_now, d_is_silenced, d_gravest, d_sample, d_tick, d_begin, d_add_series, d_add_rule, d_add_silence, d_end_silence, d_is_wrong_choice, d_is_wrong_span, d_is_wrong_bound, d_number_of_added, v_BEGIN, v_SERIES, v_RULE, v_SILENCE, v_END, v_SAMPLE, v_NOTE, v_PHASE, v_VALUE, t_SIZES, d_answers, d_answer_of, d_number_of, d_rule_of, b_len, b_range, b_abs, b_min, b_max, b_sum, b_enumerate⟩
    have dB : G.DefB (L2.KOf KX) mg "answers" My.s_answers My.p_answers := by
      dsimp only [L2.KOf]
      refine' G.defB_mk KX GG ?aZ ?lZ ?cZ ?kZ ?bZ; (case aZ => k_is); (case lZ => k_is); (case cZ => k_is); (case kZ => k_is)
      exact fun _ _ _ _ _ _ us hl => match us, hl with | [_], _ => rfl
    obtain ⟨f0, fd0, F0, h0, b0⟩ := dB.ex
    have e0 := hmg.symm.trans h0
    cases e0
    exact ⟨fd0, b0, fun base _ _ => My.fn_ans T F0⟩
  case S =>
    intro K H xs a hO hwi hask hx
    cases hx with
    | cons h1 h2 =>
      cases h2
      cases h1 with
      | lst hs ha =>
        have e := L2.ints_dw a.1 _ ha
        subst e
        have q : ((Codec.inLen 0 16000 a.1 && a.1.all (Codec.inInt (-9223372036854775808) 18446744073709551615)) && true) = true := hwi
        rw [Bool.and_eq_true, Bool.and_eq_true] at q
        have hl := (Codec.inNat_iff.mp q.1.1).2
        obtain ⟨rs, e1, e2, e3, e4⟩ := Dec.decode (show PyKct7.answers_asked a.1 = true from hask)
        refine ⟨_, rs, rfl, by rw [← e1]; exact hs, by rw [← e1]; exact hl, fun r hr => Dec.row_of (e3 r hr), e4, fun H' p hp => ?_⟩
        show L2.Dw K H' (.ref p) (WData.list ((PyKct7.answers a.1).map WData.int))
        rw [e2]
        exact .lst (L2.SqL.of hp) (L2.dw_ints _)
#print axioms PySem.Challenge.cw_toldonce_s01_answers_holds
