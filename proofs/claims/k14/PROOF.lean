import PyProof.Rows.All
import Wide.All
import OpenK.AllK
import Wide.FinOn
import PyProof.EqAt
import PyProof.EqKinds
import PyProof.TupleCall
import KE.BitLaws
import PySem.Challenge.RW_cutexchange_k14_whole_goes_are_one_to_on
set_option Elab.async false
set_option linter.all false
set_option maxRecDepth 100000
namespace L2
open PySem PySem.Spec PyProof.Rows
/-- a key: an int or a str -/
abbrev Key := Sum Int Str
def keyIs : Key → Value → Bool
  | .inl k, v => Value.isInt k v
  | .inr x, v => Value.isStrOf x v
def keyH (w : World) : Key → Int
  | .inl k => hashInt k
  | .inr x => hashStr w x
theorem keyIs_shape : ∀ {k : Key} {v : Value}, keyIs k v = true → (∃ i t, k = Sum.inl i ∧ v = Value.int i t) ∨ (∃ x t, k = Sum.inr x ∧ v = Value.str x t)
  | .inl i, v, h => by
    obtain ⟨t, e⟩ := Value.isInt_shape (k := i) (v := v) h
    exact .inl ⟨i, t, rfl, e⟩
  | .inr x, v, h => by
    obtain ⟨t, e⟩ := Value.isStrOf_shape (x := x) (v := v) h
    exact .inr ⟨x, t, rfl, e⟩
theorem keyIs_int (i : Int) (t : Tok) : keyIs (.inl i) (.int i t) = true := by simp [keyIs, Value.isInt]
theorem keyIs_str (x : Str) (t : Tok) : keyIs (.inr x) (.str x t) = true := by simp [keyIs, Value.isStrOf]
theorem key_ll (a b : Int) : decide ((Sum.inl a : Key) = Sum.inl b) = (a == b) := by
  by_cases e : a = b
  · subst e; simp
  · have h : ¬ (Sum.inl a : Key) = Sum.inl b := fun q => e (Sum.inl.inj q)
    rw [decide_eq_false h]
    exact (beq_eq_false_iff_ne.mpr e).symm
theorem key_rr (a b : Str) : decide ((Sum.inr a : Key) = Sum.inr b) = decide (a = b) := by
  by_cases e : a = b
  · subst e; simp
  · have h : ¬ (Sum.inr a : Key) = Sum.inr b := fun q => e (Sum.inr.inj q)
    rw [decide_eq_false h, decide_eq_false e]
theorem key_lr (a : Int) (b : Str) : decide ((Sum.inl a : Key) = Sum.inr b) = false := decide_eq_false (fun q => nomatch q)
theorem key_rl (a : Str) (b : Int) : decide ((Sum.inr a : Key) = Sum.inl b) = false := decide_eq_false (fun q => nomatch q)
def mixKind (prog : Program) (w : World) : PySem.KeyKind prog w Key where
  is := keyIs
  hash := keyH w
  inj := fun v a b ha hb => by
    rcases keyIs_shape ha with ⟨i, t, rfl, rfl⟩ | ⟨x, t, rfl, rfl⟩
    · rcases keyIs_shape hb with ⟨j, u, rfl, e⟩ | ⟨y, u, rfl, e⟩
      · injection e with e1 _; rw [e1]
      · exact nomatch e
    · rcases keyIs_shape hb with ⟨j, u, rfl, e⟩ | ⟨y, u, rfl, e⟩
      · exact nomatch e
      · injection e with e1 _; rw [e1]
  byValue := fun k v h => by
    rcases keyIs_shape h with ⟨i, t, rfl, rfl⟩ | ⟨x, t, rfl, rfl⟩ <;> rfl
  pyHash := fun hv h => by
    rcases keyIs_shape hv with ⟨i, t, rfl, rfl⟩ | ⟨x, t, rfl, rfl⟩
    · exact wpAny_pyHash_int h
    · exact wpAny_pyHash_str h
  eqBool := fun hu hv h => by
    rcases keyIs_shape hu with ⟨i, t, rfl, rfl⟩ | ⟨x, t, rfl, rfl⟩
    · rcases keyIs_shape hv with ⟨j, u, rfl, rfl⟩ | ⟨y, u, rfl, rfl⟩
      · rw [key_ll] at h; exact wpAny_eqBool_int h
      · rw [key_lr] at h; exact SeqAt.EqAt.int_str i t y u _ _ _ _ h
    · rcases keyIs_shape hv with ⟨j, u, rfl, rfl⟩ | ⟨y, u, rfl, rfl⟩
      · rw [key_rl] at h; exact SeqAt.EqAt.str_int x t j u _ _ _ _ h
      · rw [key_rr] at h; exact wpAny_eqBool_str h
  «strs» := fun k x t v h => by
    rcases keyIs_shape h with ⟨i, u, rfl, e⟩ | ⟨y, u, rfl, e⟩
    · exact nomatch e
    · injection e with e1 _
      subst e1
      cases v <;> rfl
theorem mixKind_int (prog : Program) (w : World) (i : Int) (t : Tok) : (mixKind prog w).is (.inl i) (.int i t) = true := keyIs_int i t
theorem mixKind_str (prog : Program) (w : World) (x : Str) (t : Tok) : (mixKind prog w).is (.inr x) (.str x t) = true := keyIs_str x t
end L2
namespace L2
open PySem PySem.Spec PyProof.Rows
/-- a value, without the heap -/
inductive V where
  | non | bl (b : Bool) | int (i : Int) | str (x : Str) | byt (b : Array UInt8) | flt (b : UInt64) | ref (a : Addr) | ty (n : String)
  deriving DecidableEq
def RelV : V → Value → Prop
  | .non, u => u = Value.none
  | .bl b, u => u = Value.bool b
  | .int i, u => ∃ t, u = Value.int i t
  | .str x, u => ∃ t, u = Value.str x t
  | .byt b, u => ∃ t, u = Value.bytes b t
  | .flt b, u => ∃ t, u = Value.float b t
  | .ref a, u => u = Value.ref a
  | .ty n, u => u = Value.type n
abbrev Vals : List V → List Value → Prop := Paired RelV
theorem Vals.length {xs : List V} {us : List Value} (r : Vals xs us) : xs.length = us.length := Paired.length r
theorem Vals.get : ∀ {xs : List V} {us : List Value} {i : Nat} {x : V}, Vals xs us → xs[i]? = some x → ∃ u, us[i]? = some u ∧ RelV x u
  | _, _, _, _, .nil, e => by simp at e
  | _, _, 0, _, .cons r _, e => by simp at e; subst e; exact ⟨_, rfl, r⟩
  | _, _, i + 1, x, .cons _ t, e => by
    obtain ⟨u, h1, h2⟩ := Vals.get (i := i) (x := x) t (by simpa using e)
    exact ⟨u, by simpa using h1, h2⟩
theorem Vals.set {x : V} {u : Value} (r : RelV x u) : ∀ {xs : List V} {us : List Value} (i : Nat), Vals xs us → Vals (xs.set i x) (us.set i u)
  | _, _, _, .nil => .nil
  | _, _, 0, .cons _ t => .cons r t
  | _, _, i + 1, .cons q t => .cons q (Vals.set r i t)
theorem Vals.append : ∀ {xs ys : List V} {us ws : List Value}, Vals xs us → Vals ys ws → Vals (xs ++ ys) (us ++ ws)
  | _, _, _, _, .nil, s => s
  | _, _, _, _, .cons r t, s => .cons r (Vals.append t s)
theorem Vals.take : ∀ {xs : List V} {us : List Value} (n : Nat), Vals xs us → Vals (xs.take n) (us.take n)
  | _, _, 0, _ => .nil
  | _, _, _ + 1, .nil => .nil
  | _, _, n + 1, .cons r t => .cons r (Vals.take n t)
theorem Vals.drop : ∀ {xs : List V} {us : List Value} (n : Nat), Vals xs us → Vals (xs.drop n) (us.drop n)
  | _, _, 0, r => r
  | _, _, _ + 1, .nil => .nil
  | _, _, n + 1, .cons _ t => Vals.drop n t
def RelO : Option V → Option Value → Prop
  | some v, some u => RelV v u
  | none, none => True
  | _, _ => False
def KV {κ : Type} : List (κ × V) → List (κ × Value) → Prop := Paired fun (p : κ × V) (q : κ × Value) => p.1 = q.1 ∧ RelV p.2 q.2
/-- a key of a dict (00_mix): an int or a text -/
def kV : Key → V
  | .inl i => .int i
  | .inr x => .str x
/-- what stands at a tracked address -/
inductive HO where
  /-- a list -/
  | lst (xs : List V)
  /-- a tuple (never changes) -/
  | tup (xs : List V)
  /-- a dict whose keys are ints and texts; one whose keys are tuples of ints and texts (the empty one is both) -/
  | dK (kvs : List (Key × V)) | dT (kvs : List (List Key × V))
  /-- a set of ints: its members, its size -/
  | set (S : Int → Bool) (n : Nat)
  /-- an instance of the class at C, its dict at dx, its attributes -/
  | ins (C dx : Addr) (fs : List (Str × V))
  /-- the dict of the instance at x -/
  | own (x : Addr)
  /-- the dict of an exception -/
  | xd (fs : List (Str × V))
  /-- a bound method, f of x -/
  | met (f x : Addr)
  /-- a range object lo, lo + 1, .. below hi -/
  | rng (lo hi : Int)
  /-- a thing that is known to the object (the script; a dict while a loop walks it): read, never written while it is so -/
  | frz (o : Obj) (u : HO)
  /-- a code object's table -/
  | tbl (ps : Array Value)
  /-- any other thing, by what is true of its one object (a def of one's own: SetO a S n := HO.ext fun h => ..) -/
  | ext (φ : Heap → Prop)
abbrev Hp := Addr → Option HO
def upd (H : Hp) (a : Addr) (o : HO) : Hp := fun b => if b = a then some o else H b
theorem upd_same {H : Hp} {a : Addr} {o : HO} : upd H a o a = some o := by unfold upd; rw [if_pos rfl]
theorem upd_ne {H : Hp} {a b : Addr} {o : HO} (h : b ≠ a) : upd H a o b = H b := by unfold upd; rw [if_neg h]
/-- two objects of different content stand apart -/
theorem ne_of {H : Hp} {a b : Addr} {o u : HO} (h : H a = some o) (h' : H b = some u) (d : o ≠ u) : a ≠ b := by
  intro e; subst e; rw [h] at h'; exact d (Option.some.inj h')
theorem ne_of_none {H : Hp} {a b : Addr} {o : HO} (h : H a = some o) (h' : H b = none) : a ≠ b := by
  intro e; subst e; rw [h] at h'; cases h'
def IsTupD (h : Heap) (a : Addr) (items : Array Value) : Prop := ∃ o, h.get? a = some o ∧ o.cls = .type "tuple" ∧ o.dict = none ∧ ∃ n, o.data = .seq items n
theorem IsTupD.tup {h : Heap} {a : Addr} {items : Array Value} (x : IsTupD h a items) : IsTup h a items := let ⟨o, e, c, _, d⟩ := x; ⟨o, e, c, d⟩
theorem IsTupD.lt {h : Heap} {a : Addr} {items : Array Value} (x : IsTupD h a items) : a < h.objs.size := x.tup.lt
theorem IsTupD.new (h : Heap) (items : Array Value) : IsTupD (h.push { cls := .type "tuple", data := .seq items }) h.objs.size items := ⟨_, Heap.get?_push_size _ rfl, rfl, rfl, _, rfl⟩
section
variable (P : Program) (w : World)
def ObjOk (H : Hp) (h : Heap) (a : Addr) : HO → Prop
  | .lst xs => xs.length ≤ sizeLine ∧ ∃ (its : List Value) (n : Nat), Vals xs its ∧ h.get? a = some { cls := .type "list", data := .seq its.toArray n }
  | .tup xs => xs.length ≤ sizeLine ∧ ∃ its : List Value, Vals xs its ∧ IsTupD h a its.toArray
  | .dK kvs => kvs.length ≤ sizeLine ∧ (a == sysModules) = false ∧ ∃ vs, KV kvs vs ∧ h.DictOf (mixKind P w) a vs
  | .dT kvs => kvs.length ≤ sizeLine ∧ (a == sysModules) = false ∧ ∃ xs : List (List Key × Addr × Value),
      Paired (fun (p : List Key × V) (q : List Key × Addr × Value) => p.1 = q.1 ∧ H q.2.1 = some (.tup (p.1.map kV)) ∧ RelV p.2 q.2.2) kvs xs ∧
      ∃ o es ep, h.get? a = some o ∧ o.ExactDict ∧ o.data = .dict es ep ∧ es.toList = xs.map (entryOfKey (tupleKind (mixKind P w))) ∧ (xs.map (·.1)).Nodup
  | .set S n => h.SetOf (intKind P w) a S n
  | .ins C dx fs => H dx = some (.own a) ∧ fs.length ≤ 1000 ∧ dx ≠ a ∧ h.get? a = some (PySem.W.instObj C dx) ∧
      ∃ mA, h.Ns1 dx mA ∧ (∀ f, RelO (fs.lookup f) (mA f)) ∧ PySem.Within mA (fs.map (·.1))
  | .own _ => ∃ o, h.get? a = some o
  | .xd fs => ∃ mA, h.Ns1 a mA ∧ ∀ f, RelO (fs.lookup f) (mA f)
  | .rng lo hi => ∃ t u v, h.get? a = some { cls := .type "range", data := .fields #[.int lo t, .int hi u, .int 1 v] }
  | .frz o u => h.get? a = some o ∧ ObjOk H h a u
  | .tbl ps => h.get? a = some { cls := .none, data := .fields ps }
  | .met f x => h.get? a = some (PySem.W.methodObj (.ref f) (.ref x))
  | .ext φ => φ h ∧ (∃ o, h.get? a = some o) ∧ ∀ h1 h2 : Heap, φ h1 → (∀ o, h1.get? a = some o → h2.get? a = some o) → φ h2
/-- the abstract heap is held -/
def HOk (H : Hp) (h : Heap) : Prop := ∀ a o, H a = some o → ObjOk P w H h a o
end
section
variable {P : Program} {w : World} {H H' : Hp} {h h' : Heap} {a : Addr} {o : HO}
theorem ObjOk.lt (x : ObjOk P w H h a o) : a < h.objs.size := by
  cases o with
  | lst xs => obtain ⟨_, _, _, _, e⟩ := x; exact Heap.lt_size e
  | tup xs => obtain ⟨_, _, _, p⟩ := x; exact p.lt
  | dK kvs => obtain ⟨_, _, _, _, o, _, _, e, _⟩ := x; exact Heap.lt_size e
  | dT kvs => obtain ⟨_, _, _, _, o, _, _, e, _⟩ := x; exact Heap.lt_size e
  | set S n => obtain ⟨o, _, _, _, e, _⟩ := x; exact Heap.lt_size e
  | ins C dx fs => obtain ⟨_, _, _, e, _⟩ := x; exact Heap.lt_size e
  | own y => obtain ⟨_, e⟩ := x; exact Heap.lt_size e
  | xd fs => obtain ⟨_, ⟨_, _, _, e, _⟩, _⟩ := x; exact Heap.lt_size e
  | rng lo hi => obtain ⟨_, _, _, e⟩ := x; exact Heap.lt_size e
  | frz ob u => obtain ⟨e, _⟩ := x; exact Heap.lt_size e
  | tbl ps => exact Heap.lt_size (show h.get? a = some _ from x)
  | met f y => exact Heap.lt_size (show h.get? a = some _ from x)
  | ext φ => obtain ⟨_, ⟨_, e⟩, _⟩ := x; exact Heap.lt_size e
theorem Paired.mapP {α β : Type} {F G : α → β → Prop} : ∀ {l₁ : List α} {l₂ : List β}, Paired F l₁ l₂ → (∀ a b, F a b → G a b) → Paired G l₁ l₂
  | _, _, .nil, _ => .nil
  | _, _, .cons r t, f => .cons (f _ _ r) (Paired.mapP t f)
/-- what an object's description leans on: its own object, its own dict, the tuples -/
theorem ObjOk.stay (x : ObjOk P w H h a o) (k : ∀ b u, (b = a ∨ H b = some (.own a)) → h.get? b = some u → h'.get? b = some u)
    (ho : ∀ b, H b = some (.own a) → H' b = some (.own a)) (ht : ∀ b xs, H b = some (.tup xs) → H' b = some (.tup xs)) : ObjOk P w H' h' a o := by
  induction o with
  | lst xs => obtain ⟨z, its, n, r, e⟩ := x; exact ⟨z, its, n, r, k _ _ (.inl rfl) e⟩
  | tup xs => obtain ⟨z, its, r, ob, e, c⟩ := x; exact ⟨z, its, r, ob, k _ _ (.inl rfl) e, c⟩
  | dK kvs => obtain ⟨z, y, vs, r, ob, es, ep, e, c⟩ := x; exact ⟨z, y, vs, r, ob, es, ep, k _ _ (.inl rfl) e, c⟩
  | dT kvs =>
    obtain ⟨z, y, xs, r, ob, es, ep, e, c⟩ := x
    exact ⟨z, y, xs, Paired.mapP r fun p q z => ⟨z.1, ht _ _ z.2.1, z.2.2⟩, ob, es, ep, k _ _ (.inl rfl) e, c⟩
  | set S n => obtain ⟨ob, es, ep, t, e, c⟩ := x; exact ⟨ob, es, ep, t, k _ _ (.inl rfl) e, c⟩
  | ins C dx fs =>
    obtain ⟨d, z, ne, e, mA, ⟨od, es, ep, e2, c⟩, r⟩ := x
    exact ⟨ho _ d, z, ne, k _ _ (.inl rfl) e, mA, ⟨od, es, ep, k _ _ (.inr d) e2, c⟩, r⟩
  | own y => obtain ⟨ob, e⟩ := x; exact ⟨ob, k _ _ (.inl rfl) e⟩
  | xd fs => obtain ⟨mA, ⟨od, es, ep, e, c⟩, r⟩ := x; exact ⟨mA, ⟨od, es, ep, k _ _ (.inl rfl) e, c⟩, r⟩
  | rng lo hi => obtain ⟨t, u, v, e⟩ := x; exact ⟨t, u, v, k _ _ (.inl rfl) e⟩
  | frz ob u ih => obtain ⟨e, q⟩ := x; exact ⟨k _ _ (.inl rfl) e, ih q⟩
  | tbl ps =>
    have e : h.get? a = some { cls := .none, data := .fields ps } := x
    show h'.get? a = some { cls := .none, data := .fields ps }
    exact k a _ (.inl rfl) e
  | met f y =>
    have e : h.get? a = some (PySem.W.methodObj (.ref f) (.ref y)) := x
    show h'.get? a = some (PySem.W.methodObj (.ref f) (.ref y))
    exact k a _ (.inl rfl) e
  | ext φ => obtain ⟨p, ⟨o, e⟩, st⟩ := x; exact ⟨st _ _ p fun o q => k _ _ (.inl rfl) q, ⟨o, k _ _ (.inl rfl) e⟩, st⟩
theorem HOk.lt (x : HOk P w H h) (e : H a = some o) : a < h.objs.size := (x a o e).lt
theorem HOk.fresh (x : HOk P w H h) (e : h.objs.size ≤ a) : H a = none := by
  cases q : H a with
  | none => rfl
  | some u => exact absurd (Nat.lt_of_lt_of_le (x.lt q) e) (Nat.lt_irrefl _)
/-- every object of the heap is kept -/
theorem HOk.kept (x : HOk P w H h) (k : ∀ b u, h.get? b = some u → h'.get? b = some u) : HOk P w H h' := fun a o e =>
  (x a o e).stay (fun b u _ q => k b u q) (fun _ q => q) fun _ _ q => q
/-- a new object is laid and tracked -/
theorem HOk.laid (x : HOk P w H h) (k : ∀ b u, h.get? b = some u → h'.get? b = some u) (hp : h.objs.size ≤ a) (new : ObjOk P w (upd H a o) h' a o) : HOk P w (upd H a o) h' := fun b u e => by
  have hn := x.fresh hp
  by_cases hb : b = a
  · subst hb; rw [upd_same] at e; cases e; exact new
  · rw [upd_ne hb] at e
    exact (x b u e).stay (fun c v _ q => k c v q) (fun c q => by rw [upd_ne (ne_of_none q hn)]; exact q) fun c xs q => by rw [upd_ne (ne_of_none q hn)]; exact q
end
/-- what may be read as u: it is u, or a known u -/
def Rd (H : Hp) (a : Addr) (u : HO) : Prop := H a = some u ∨ ∃ o, H a = some (.frz o u)
theorem Rd.of {H : Hp} {a : Addr} {u : HO} (h : H a = some u) : Rd H a u := .inl h
theorem Rd.ok {P : Program} {w : World} {H : Hp} {h : Heap} {a : Addr} {u : HO} (r : Rd H a u) (x : HOk P w H h) : ObjOk P w H h a u := by
  rcases r with r | ⟨o, r⟩
  · exact x a u r
  · obtain ⟨_, q⟩ := x a _ r
    exact q
/-- what may be written -/
def Mut : Option HO → Prop
  | some (.lst _) => True
  | some (.dK _) => True
  | some (.dT _) => True
  | some (.set _ _) => True
  | some (.ins _ _ _) => True
  | some (.ext _) => True
  | _ => False
section
variable {P : Program} {w : World} {H : Hp} {h h' : Heap} {x e : Addr} {o' : HO}
/-- the object at e is changed: x itself, or the dict of the instance x -/
theorem HOk.write (ok : HOk P w H h) (mu : Mut (H x)) (he : e = x ∨ H e = some (.own x)) (k : ∀ b u, b ≠ e → h.get? b = some u → h'.get? b = some u) (heo : ∃ u, h'.get? e = some u)
    (new : ObjOk P w (upd H x o') h' x o') : HOk P w (upd H x o') h' := fun b u q => by
  have nown : ∀ c y, H c = some (.own y) → c ≠ x := fun c y r z => by subst z; rw [r] at mu; exact mu
  have ntup : ∀ c xs, H c = some (.tup xs) → c ≠ x := fun c xs r z => by subst z; rw [r] at mu; exact mu
  by_cases hb : b = x
  · subst hb; rw [upd_same] at q; cases q; exact new
  · rw [upd_ne hb] at q
    by_cases hbe : b = e
    · have q' : H b = some (.own x) := by
        rcases he with z | z
        · exact absurd (hbe.trans z) hb
        · rw [hbe]; exact z
      rw [q] at q'; cases q'
      obtain ⟨v, hv⟩ := heo
      exact ⟨v, by rw [hbe]; exact hv⟩
    · refine (ok b u q).stay (fun c v hc r => k c v ?_ r) (fun c r => by rw [upd_ne (nown c b r)]; exact r) fun c xs r => by rw [upd_ne (ntup c xs r)]; exact r
      rcases hc with rfl | hc
      · exact hbe
      · rintro rfl
        rcases he with z | z
        · exact nown c b hc z
        · rw [hc] at z; cases z; exact hb rfl
end
/-! ### kept unless tracked; of the frames at fs (the callers') the slots may change (an exception that passes writes there); of the records at ex (iterators) nothing is said -/
structure Un (fs ex : List Addr) (H H' : Hp) (h h' : Heap) : Prop where
  keep : ∀ b o, h.get? b = some o → H b = none → b ∉ fs → b ∉ ex → h'.get? b = some o
  slot : ∀ b o, h.get? b = some o → H b = none → b ∈ fs → b ∉ ex → ∃ sl, h'.get? b = some { o with slots := sl }
  free : ∀ b o, h.get? b = some o → H b = none → b ∉ ex → H' b = none
  there : ∀ b o, h.get? b = some o → b ∉ ex → ∃ o', h'.get? b = some o'
  tups : ∀ b xs, H b = some (.tup xs) → H' b = some (.tup xs)
  frzs : ∀ b o u, H b = some (.frz o u) → H' b = some (.frz o u)
  tbls : ∀ b ps, H b = some (.tbl ps) → ∃ more, H' b = some (.tbl (ps ++ more))
section
variable {fs fs' ex ex' : List Addr} {H H1 H2 : Hp} {h h1 h2 h' : Heap} {a x e : Addr} {o : HO}
theorem Un.any (u : Un fs ex H H1 h h1) {b : Addr} {ob : Obj} (q : h.get? b = some ob) (n : H b = none) (hx : b ∉ ex) : ∃ sl, h1.get? b = some { ob with slots := sl } := by
  by_cases hb : b ∈ fs
  · exact u.slot b ob q n hb hx
  · exact ⟨ob.slots, u.keep b ob q n hb hx⟩
theorem Un.trans (a : Un fs ex H H1 h h1) (b : Un fs ex H1 H2 h1 h2) : Un fs ex H H2 h h2 where
  keep := fun c ob q n hc hx => b.keep c ob (a.keep c ob q n hc hx) (a.free c ob q n hx) hc hx
  slot := fun c ob q n hc hx => by
    obtain ⟨sl, e1⟩ := a.slot c ob q n hc hx
    obtain ⟨sl', e2⟩ := b.slot c _ e1 (a.free c ob q n hx) hc hx
    exact ⟨sl', e2⟩
  free := fun c ob q n hx => by
    obtain ⟨o', e1⟩ := a.there c ob q hx
    exact b.free c o' e1 (a.free c ob q n hx) hx
  there := fun c ob q hx => by
    obtain ⟨o', e1⟩ := a.there c ob q hx
    exact b.there c o' e1 hx
  tups := fun c xs q => b.tups c xs (a.tups c xs q)
  frzs := fun c ob xs q => b.frzs c ob xs (a.frzs c ob xs q)
  tbls := fun c ps q => by
    obtain ⟨m1, e1⟩ := a.tbls c ps q
    obtain ⟨m2, e2⟩ := b.tbls c _ e1
    exact ⟨m1 ++ m2, by rw [e2, Array.append_assoc]⟩
theorem Un.kept (k : ∀ b u, h.get? b = some u → h'.get? b = some u) : Un fs ex H H h h' :=
  ⟨fun b ob q _ _ _ => k b ob q, fun b ob q _ _ _ => ⟨ob.slots, k b ob q⟩, fun _ _ _ n _ => n, fun b ob q _ => ⟨ob, k b ob q⟩, fun _ _ q => q, fun _ _ _ q => q, fun _ ps q => ⟨#[], by rw [q]; simp⟩⟩
theorem Un.refl : Un fs ex H H h h := Un.kept fun _ _ q => q
theorem Un.laid (k : ∀ b u, h.get? b = some u → h'.get? b = some u) (hp : h.objs.size ≤ a) (hn : H a = none) : Un fs ex H (upd H a o) h h' where
  keep := fun b u q _ _ _ => k b u q
  slot := fun b u q _ _ _ => ⟨u.slots, k b u q⟩
  free := fun b u q n _ => by rw [upd_ne (Nat.ne_of_lt (Nat.lt_of_lt_of_le (Heap.lt_size q) hp))]; exact n
  there := fun b u q _ => ⟨u, k b u q⟩
  tups := fun b xs q => by rw [upd_ne (ne_of_none q hn)]; exact q
  frzs := fun b u xs q => by rw [upd_ne (ne_of_none q hn)]; exact q
  tbls := fun b ps q => ⟨#[], by rw [upd_ne (ne_of_none q hn), q]; simp⟩
theorem Un.write (mu : Mut (H x)) (he : e = x ∨ H e = some (.own x)) (k : ∀ b u, b ≠ e → h.get? b = some u → h'.get? b = some u) (heo : ∃ u, h'.get? e = some u) : Un fs ex H (upd H x o) h h' := by
  have hx : ∀ b, H b = none → b ≠ x := fun b n z => by subst z; rw [n] at mu; exact mu
  have hb : ∀ b, H b = none → b ≠ e := fun b n z => by
    subst z
    rcases he with r | r
    · exact hx b n r
    · rw [n] at r; cases r
  have hm : ∀ b u, H b = some u → ¬ Mut (some u) → b ≠ x := fun b u q nm z => by subst z; rw [q] at mu; exact nm mu
  refine ⟨fun b u q n _ _ => k b u (hb b n) q, fun b u q n _ _ => ⟨u.slots, k b u (hb b n) q⟩, fun b u q n _ => by rw [upd_ne (hx b n)]; exact n, fun b u q _ => ?_,
    fun b xs q => by rw [upd_ne (hm b _ q fun z => z)]; exact q, fun b u xs q => by rw [upd_ne (hm b _ q fun z => z)]; exact q, fun b ps q => ⟨#[], by rw [upd_ne (hm b _ q fun z => z), q]; simp⟩⟩
  by_cases hbe : b = e
  · subst hbe; exact heo
  · exact ⟨u, k b u hbe q⟩
theorem Un.mono (u : Un fs ex H H1 h h1) (hs : ∀ b ∈ fs, b ∈ fs') (hx : ∀ b ∈ ex, b ∈ ex') : Un fs' ex' H H1 h h1 :=
  ⟨fun b ob q n hb he => u.keep b ob q n (fun z => hb (hs b z)) fun z => he (hx b z), fun _ _ q n _ he => u.any q n fun z => he (hx _ z), fun b ob q n he => u.free b ob q n fun z => he (hx b z), fun b ob q he => u.there b ob q fun z => he (hx b z), u.tups, u.frzs, u.tbls⟩
end
/-! ### the heap without what is tracked -/
def trk (h : Heap) (H : Hp) : List Addr := (List.range h.objs.size).filter fun a => (H a).isSome
def hidT (h : Heap) (H : Hp) : Heap := PySem.W.hideAll h (trk h H)
theorem hidT_size (h : Heap) (H : Hp) : (hidT h H).objs.size = h.objs.size := PySem.W.hideAll_size _ _
theorem hidT_get {h : Heap} {H : Hp} {b : Addr} {o : Obj} (e : h.get? b = some o) (n : H b = none) : (hidT h H).get? b = some o :=
  PySem.W.hideAll_get _ e fun hm => by
    have q : (H b).isSome = true := (List.mem_filter.mp hm).2
    rw [n] at q; simp at q
theorem of_hidT {h : Heap} {H : Hp} {b : Addr} {o : Obj} (e : (hidT h H).get? b = some o) : h.get? b = some o ∧ H b = none := by
  have e' : h.get? b = some o := PySem.W.of_hideAll (trk h H) e
  refine ⟨e', ?_⟩
  cases q : H b with
  | none => rfl
  | some x =>
    have hm : b ∈ trk h H := List.mem_filter.mpr ⟨List.mem_range.mpr (Heap.lt_size e'), by simp [q]⟩
    have z : (hidT h H).get? b = none := PySem.W.hideAll_none (trk h H) hm
    rw [z] at e; cases e
/-! ### OpenK's ledger, filled with every new object but one -/
def allNews (g h : Heap) (L : Addr) : List (Addr × Obj) := (List.range h.objs.size).filterMap fun a => if a = L ∨ (g.get? a).isSome = true then none else (h.get? a).map fun o => (a, o)
def rest (g h : Heap) (L d : Addr) : List (Addr × Obj) := (allNews g h L).filter fun p => decide (p.1 ≠ d)
end L2
namespace L2
open PySem PySem.Spec PyProof.Rows
/-- the module's facts, over the base: the heap at the law's entry without what is tracked there -/
structure Mod (K : PySem.W.Frag) (mg : Str → Option Value) (base : Heap) : Prop where
  kin : K.In base
  glob : base.Ns mainGlobals mg
  blt : ∃ mb, base.Ns builtinsNs mb ∧ ∀ x : Str, x ≠ "__name__" → mb x = bootBuiltins x
  nolimit : base.NoLimit
/-- the context: a def's body (or a comprehension's block) running. base: fixed through the whole law; s₀, H₀: the entry; outer: the frames whose slots others may change (a def's callers); stack: all frames that run;
   ex: iterators that were made ahead of the entry and are walked here (a comprehension's); fn: the names whose cells were made at the entry (a def: all; a comprehension's block: its own); calm: not within an except suite; pn: pins that every state bears; xe: what is wanted of an exception that leaves the code -/
structure Cx where
  prog : Program
  w : World
  K : PySem.W.Frag
  mg : Str → Option Value
  base : Heap
  A : Around
  N : List Str
  s_0 : Shared
  H_0 : Hp
  env : Env
  outer : List Env
  stack : List Env
  ex : List Addr
  fn : Str → Bool
  calm : Bool
  pn : List (Addr × Obj)
  xe : Value → Shared → Prop
/-- the callers' frames -/
def frs (l : List Env) : List Addr := l.filterMap (·.frame)
abbrev Cx.fs (X : Cx) : List Addr := frs X.outer
def Vis (sc : Scope) (x : Str) : Prop := sc.names.lookup x = some .local ∨ sc.names.lookup x = some .cell ∨ sc.names.lookup x = some .free
def Loc (sc : Scope) (x : Str) : Prop := sc.names.lookup x = some .local ∨ sc.names.lookup x = some .cell
def Look (env : Env) (h : Heap) (m : Str → Option Value) (x : Str) (u : Value) : Prop :=
  (env.kindOf x = some .local ∧ m x = some u) ∨ ((env.kindOf x = some .cell ∨ env.kindOf x = some .free) ∧ ∃ c, env.cells.lookup x = some c ∧ h.IsCell c (some u))
structure Cx.Ok (X : Cx) : Prop where
  mod : Mod X.K X.mg X.base
  kind : X.env.scope.kind = .function
  glob : X.env.globals = mainGlobals
  blt : X.env.builtins = builtinsNs
  above : X.s_0.heap.objs.size ≤ X.env.locals
  inj : ∀ x y c, X.env.cells.lookup x = some c → X.env.cells.lookup y = some c → x = y
  has : ∀ x, (X.env.kindOf x = some .cell ∨ X.env.kindOf x = some .free) → ∃ c, X.env.cells.lookup x = some c
  cab : ∀ x c, X.fn x = true → X.env.cells.lookup x = some c → X.s_0.heap.objs.size ≤ c
  hd : X.calm = true → X.A.handled = none
  frames : X.A.frames = some X.stack
  stk : X.stack = X.outer ∨ (X.stack = X.env :: X.outer ∧ X.env.frame = some X.env.locals)
  exf : ∀ b ∈ X.ex, b ≠ X.env.locals ∧ ∀ x c, X.env.cells.lookup x = some c → c ≠ b
  bs : ∀ b o, X.base.get? b = some o → X.s_0.heap.get? b = some o ∧ X.H_0 b = none
  bsz : X.base.objs.size ≤ X.s_0.heap.objs.size
  noex : ∀ b o, X.base.get? b = some o → b ∉ X.ex
  exfs : ∀ b ∈ X.ex, b ∉ X.fs
  funs : X.s_0.heap.FunFrames X.base X.outer
  frf : ∀ b ∈ X.fs, X.H_0 b = none
structure Inv (X : Cx) (pins : List (Addr × Obj)) (σ : List (Option V)) (H : Hp) (s : Shared) : Prop where
  ok : X.Ok
  os : s.os = X.s_0.os
  bare : AllBare s.gens
  base : Un X.fs X.ex X.H_0 H X.s_0.heap s.heap
  loc : ∃ m, s.heap.Ns X.env.locals m ∧ ∀ (i : Nat) (x : Str) (v : V), X.N[i]? = some x → σ[i]? = some (some v) → Vis X.env.scope x → ∃ u, RelV v u ∧ Look X.env s.heap m x u
  cell : ∀ x c, X.env.cells.lookup x = some c → ∃ v, s.heap.IsCell c v
  free : H X.env.locals = none
  freeC : ∀ x c, X.env.cells.lookup x = some c → H c = none
  pin : ∀ p ∈ X.pn ++ pins, s.heap.get? p.1 = some p.2 ∧ H p.1 = none ∧ p.1 ≠ X.env.locals ∧ p.1 ∉ X.fs ∧ ∀ v, p.2.data ≠ .cell v
  hok : HOk X.prog X.w H s.heap
  len : σ.length = X.N.length
section
variable {X : Cx} {pins : List (Addr × Obj)} {σ : List (Option V)} {H H' : Hp} {s : Shared} {h' : Heap}
theorem Cx.Ok.nofr (ok : X.Ok) {b : Addr} {o : Obj} (e : X.base.get? b = some o) : b ∉ X.fs := fun hb => by
  have := (ok.funs.mem hb).1
  rw [e] at this; cases this
theorem Inv.bs (I : Inv X pins σ H s) : ∀ b o, X.base.get? b = some o → s.heap.get? b = some o ∧ H b = none := fun b o e =>
  ⟨I.base.keep b o (I.ok.bs b o e).1 (I.ok.bs b o e).2 (I.ok.nofr e) (I.ok.noex b o e), I.base.free b o (I.ok.bs b o e).1 (I.ok.bs b o e).2 (I.ok.noex b o e)⟩
theorem Inv.bk (I : Inv X pins σ H s) : ∀ b o, X.base.get? b = some o → s.heap.get? b = some o := fun b o e => (I.bs b o e).1
theorem Inv.mod (I : Inv X pins σ H s) : Mod X.K X.mg X.base := I.ok.mod
theorem Inv.kIn (I : Inv X pins σ H s) : X.K.In s.heap := I.ok.mod.kin.keeps I.bk
theorem Inv.nolimit (I : Inv X pins σ H s) : s.heap.NoLimit := I.ok.mod.nolimit.keeps I.bk
theorem Inv.lt (I : Inv X pins σ H s) : X.env.locals < s.heap.objs.size := let ⟨_, hn, _⟩ := I.loc; hn.lt
theorem Inv.sz (I : Inv X pins σ H s) : X.s_0.heap.objs.size ≤ s.heap.objs.size := Nat.le_trans I.ok.above (Nat.le_of_lt I.lt)
theorem Inv.nofs (I : Inv X pins σ H s) {a : Addr} (h : s.heap.objs.size ≤ a) : a ∉ X.fs := fun hb => by
  obtain ⟨_, o, ho, _⟩ := I.ok.funs.mem hb
  exact absurd (Nat.lt_of_lt_of_le (Heap.lt_size ho) (Nat.le_trans I.sz h)) (Nat.lt_irrefl _)
theorem Inv.cne (I : Inv X pins σ H s) : ∀ x c, X.env.cells.lookup x = some c → c ≠ X.env.locals := fun x c e z => by
  obtain ⟨v, o, ho, hd⟩ := I.cell x c e
  obtain ⟨m, ⟨o', es, ep, ho', hd', _⟩, _⟩ := I.loc
  rw [z, ho'] at ho; cases ho; rw [hd'] at hd; cases hd
theorem Inv.funs (I : Inv X pins σ H s) : s.heap.FunFrames X.base X.outer := by
  have all : ∀ (l : List Env), (∀ b ∈ frs l, b ∈ X.fs) → X.s_0.heap.FunFrames X.base l → s.heap.FunFrames X.base l := by
    intro l
    induction l with
    | nil => intro _ _; trivial
    | cons env r ih =>
      intro hs hl
      obtain ⟨hk, ⟨L, o, hf, hn, ho, hd⟩, hr⟩ := hl
      have hL : L ∈ X.fs := hs L (by unfold frs; rw [List.filterMap_cons, hf]; exact List.mem_cons_self)
      obtain ⟨sl, e⟩ := I.base.slot L o ho (I.ok.frf L hL) hL fun z => I.ok.exfs L z hL
      exact ⟨hk, ⟨L, _, hf, hn, e, hd⟩, ih (fun b hb => hs b (by unfold frs; rw [List.filterMap_cons, hf]; exact List.mem_cons_of_mem _ hb)) hr⟩
  exact all X.outer (fun _ hb => hb) I.ok.funs
/-- the frames that run, for a call -/
theorem Inv.stack (I : Inv X pins σ H s) : s.heap.FunFrames X.base X.stack := by
  rcases I.ok.stk with e | ⟨e, hf⟩
  · rw [e]; exact I.funs
  · rw [e]
    obtain ⟨m, hn, _⟩ := I.loc
    refine .cons (by rw [I.ok.kind]; decide) hf hn ?_ I.funs
    exact Heap.get?_none_of_le (Nat.le_trans I.ok.bsz I.ok.above)
theorem Inv.stkSub (I : Inv X pins σ H s) : ∀ b ∈ frs X.stack, b ∈ X.env.locals :: X.fs := fun b hb => by
  rcases I.ok.stk with e | ⟨e, hf⟩
  · rw [e] at hb; exact List.mem_cons_of_mem _ hb
  · rw [e] at hb
    unfold frs at hb
    rw [List.filterMap_cons, hf] at hb
    exact hb
theorem Inv.stkFree (I : Inv X pins σ H s) : ∀ b ∈ frs X.stack, H b = none := fun b hb => by
  rcases List.mem_cons.mp (I.stkSub b hb) with e | hb
  · rw [e]; exact I.free
  · obtain ⟨_, o, ho, _⟩ := I.ok.funs.mem hb
    exact I.base.free b o ho (I.ok.frf b hb) fun z => I.ok.exfs b z hb
/-- THE STEP: the untracked objects but the frame and the records at ch are kept (the callers' frames up to slots), the frame's map is kept, the new abstract heap is held -/
theorem Inv.step {g' : Array GenState} {t' : Nat} {d' : Drawn} {ch : List Addr} (I : Inv X pins σ H s)
    (hch : ∀ b ∈ ch, (b ∈ X.ex ∨ X.s_0.heap.objs.size ≤ b) ∧ b ≠ X.env.locals ∧ (∀ x c, X.env.cells.lookup x = some c → c ≠ b) ∧ ∀ p ∈ X.pn ++ pins, p.1 ≠ b)
    (keep : ∀ b o, b ≠ X.env.locals → b ∉ X.fs → b ∉ ch → s.heap.get? b = some o → H b = none → h'.get? b = some o)
    (slot : ∀ b o, b ≠ X.env.locals → b ∈ X.fs → b ∉ ch → s.heap.get? b = some o → H b = none → ∃ sl, h'.get? b = some { o with slots := sl }) (free : ∀ b o, b ∉ ch → s.heap.get? b = some o → H b = none → H' b = none)
    (there : ∀ b o, b ∉ ch → s.heap.get? b = some o → ∃ o', h'.get? b = some o')
    (tups : ∀ b xs, H b = some (.tup xs) → H' b = some (.tup xs)) (frzs : ∀ b o u, H b = some (.frz o u) → H' b = some (.frz o u)) (tbls : ∀ b ps, H b = some (.tbl ps) → ∃ more, H' b = some (.tbl (ps ++ more)))
    (ns : ∀ m, s.heap.Ns X.env.locals m → h'.Ns X.env.locals m) (hok : HOk X.prog X.w H' h') (hg : AllBare g') :
    Inv X pins σ H' { s with heap := h', gens := g', drawn := d', toks := t' } := by
  have neL : ∀ b o, X.s_0.heap.get? b = some o → b ≠ X.env.locals := fun b o e => Nat.ne_of_lt (Nat.lt_of_lt_of_le (Heap.lt_size e) I.ok.above)
  have neC : ∀ b o, X.s_0.heap.get? b = some o → b ∉ X.ex → b ∉ ch := fun b o e hx hb => by
    rcases (hch b hb).1 with z | z
    · exact hx z
    · exact absurd (Nat.lt_of_lt_of_le (Heap.lt_size e) z) (Nat.lt_irrefl _)
  have cellK : ∀ x c, X.env.cells.lookup x = some c → ∀ v, s.heap.IsCell c v → h'.IsCell c v := fun x c e v ⟨o, ho, hd⟩ => by
    have nch : c ∉ ch := fun z => (hch c z).2.2.1 x c e rfl
    by_cases hc : c ∈ X.fs
    · obtain ⟨sl, q⟩ := slot c o (I.cne x c e) hc nch ho (I.freeC x c e)
      exact ⟨_, q, hd⟩
    · exact ⟨o, keep c o (I.cne x c e) hc nch ho (I.freeC x c e), hd⟩
  refine ⟨I.ok, I.os, hg, ⟨fun b o e n hb hx => ?_, fun b o e n hb hx => ?_, fun b o e n hx => ?_, fun b o e hx => ?_, fun b xs e => tups b xs (I.base.tups b xs e), fun b o xs e => frzs b o xs (I.base.frzs b o xs e), fun b ps e => ?_⟩, ?_, fun x c e => ?_, ?_, fun x c e => ?_, fun p hp => ?_, hok, I.len⟩
  · exact keep b o (neL b o e) hb (neC b o e hx) (I.base.keep b o e n hb hx) (I.base.free b o e n hx)
  · obtain ⟨sl, e1⟩ := I.base.slot b o e n hb hx
    obtain ⟨sl', e2⟩ := slot b _ (neL b o e) hb (neC b o e hx) e1 (I.base.free b o e n hx)
    exact ⟨sl', e2⟩
  · obtain ⟨o', e1⟩ := I.base.there b o e hx
    exact free b o' (neC b o e hx) e1 (I.base.free b o e n hx)
  · obtain ⟨o', e1⟩ := I.base.there b o e hx
    exact there b o' (neC b o e hx) e1
  · obtain ⟨m1, e1⟩ := I.base.tbls b ps e
    obtain ⟨m2, e2⟩ := tbls b _ e1
    exact ⟨m1 ++ m2, by rw [e2, Array.append_assoc]⟩
  · obtain ⟨m, hn, hl⟩ := I.loc
    refine ⟨m, ns m hn, fun i x v e1 e2 e3 => ?_⟩
    obtain ⟨u, r, l⟩ := hl i x v e1 e2 e3
    refine ⟨u, r, ?_⟩
    rcases l with l | ⟨k, c, e, z⟩
    · exact .inl l
    · exact .inr ⟨k, c, e, cellK x c e _ z⟩
  · obtain ⟨v, z⟩ := I.cell x c e
    exact ⟨v, cellK x c e v z⟩
  · obtain ⟨m, ⟨o, _, _, ho, _⟩, _⟩ := I.loc
    exact free _ o (fun z => (hch _ z).2.1 rfl) ho I.free
  · obtain ⟨v, o, ho, hd⟩ := I.cell x c e
    exact free c o (fun z => (hch c z).2.2.1 x c e rfl) ho (I.freeC x c e)
  · obtain ⟨e, n, ne, nf, d⟩ := I.pin p hp
    have nch : p.1 ∉ ch := fun z => (hch p.1 z).2.2.2 p hp rfl
    exact ⟨keep p.1 p.2 ne nf nch e n, free p.1 p.2 nch e n, ne, nf, d⟩
/-- .. where the frame's own object is kept too -/
theorem Inv.un {t' : Nat} (I : Inv X pins σ H s) (u : Un X.fs [] H H' s.heap h') (hok : HOk X.prog X.w H' h') : Inv X pins σ H' { s with heap := h', toks := t' } := by
  obtain ⟨m, ⟨o, es, ep, ho, r⟩, _⟩ := id I.loc
  obtain ⟨sl, hL⟩ := u.any ho I.free (by simp)
  exact I.step (g' := s.gens) (d' := s.drawn) (ch := []) (fun _ z => nomatch z) (fun b o _ hb _ e n => u.keep b o e n hb (by simp)) (fun b o _ hb _ e n => u.slot b o e n hb (by simp)) (fun b o _ e n => u.free b o e n (by simp)) (fun b o _ e => u.there b o e (by simp)) u.tups u.frzs u.tbls (fun m' hm => by
    obtain ⟨o', es', ep', ho', r'⟩ := hm
    rw [ho] at ho'; cases ho'
    exact ⟨_, es', ep', hL, r'⟩) hok I.bare
/-- behind a call (or a comprehension's block): the slots of this frame may have changed too, the records at ch may have turned -/
theorem Inv.call {g' : Array GenState} {t' : Nat} {d' : Drawn} {ch : List Addr} (I : Inv X pins σ H s) (u : Un (frs X.stack) ch H H' s.heap h') (hok : HOk X.prog X.w H' h') (hg : AllBare g')
    (hch : ∀ b ∈ ch, (b ∈ X.ex ∨ X.s_0.heap.objs.size ≤ b) ∧ b ≠ X.env.locals ∧ (∀ x c, X.env.cells.lookup x = some c → c ≠ b) ∧ ∀ p ∈ X.pn ++ pins, p.1 ≠ b) :
    Inv X pins σ H' { s with heap := h', gens := g', drawn := d', toks := t' } := by
  obtain ⟨m, ⟨o, es, ep, ho, r⟩, _⟩ := id I.loc
  obtain ⟨sl, hL⟩ := u.any ho I.free fun z => (hch _ z).2.1 rfl
  exact I.step (ch := ch) hch (fun b o hL hb hc e n => u.keep b o e n (fun z => (List.mem_cons.mp (I.stkSub b z)).elim hL hb) hc) (fun b o _ _ hc e n => u.any e n hc) (fun b o hc e n => u.free b o e n hc) (fun b o hc e => u.there b o e hc) u.tups u.frzs u.tbls (fun m' hm => by
    obtain ⟨o', es', ep', ho', r'⟩ := hm
    rw [ho] at ho'; cases ho'
    exact ⟨_, es', ep', hL, r'⟩) hok hg
/-- an untracked record of ours (an iterator) has turned -/
theorem Inv.turned {t' : Nat} {it : Addr} (I : Inv X pins σ H s) (k : ∀ b o, b ≠ it → s.heap.get? b = some o → h'.get? b = some o) (hn : H it = none) (hL : it ≠ X.env.locals)
    (h1 : it ∈ X.ex ∨ X.s_0.heap.objs.size ≤ it) (h2 : ∀ x c, X.env.cells.lookup x = some c → c ≠ it) (h3 : ∀ p ∈ X.pn ++ pins, p.1 ≠ it) : Inv X pins σ H { s with heap := h', toks := t' } := by
  have nit : ∀ b u, H b = some u → b ≠ it := fun b u e z => by rw [z, hn] at e; cases e
  refine I.step (g' := s.gens) (d' := s.drawn) (ch := [it]) (fun b hb => ?_) (fun b o _ _ hc e _ => k b o (fun z => hc (by simp [z])) e) (fun b o _ _ hc e _ => ⟨o.slots, k b o (fun z => hc (by simp [z])) e⟩) (fun _ _ _ _ n => n)
    (fun b o hc e => ⟨o, k b o (fun z => hc (by simp [z])) e⟩) (fun _ _ e => e) (fun _ _ _ e => e) (fun b ps e => ⟨#[], by rw [e]; simp⟩) (fun m hm => ?_) (fun b u e => ?_) I.bare
  · have e : b = it := by simpa using hb
    subst e
    exact ⟨h1, hL, h2, h3⟩
  · obtain ⟨o, es, ep, ho, r⟩ := hm
    exact ⟨o, es, ep, k _ o (Ne.symm hL) ho, r⟩
  · refine (I.hok b u e).stay (fun c v hc q => k c v ?_ q) (fun _ q => q) fun _ _ q => q
    rcases hc with z | z
    · rw [z]; exact nit b u e
    · exact nit c _ z
theorem Inv.tok (I : Inv X pins σ H s) (t : Nat) : Inv X pins σ H { s with toks := t } := I.un (h' := s.heap) (t' := t) Un.refl I.hok
/-- all objects kept -/
theorem Inv.kept {t' : Nat} (I : Inv X pins σ H s) (k : ∀ b u, s.heap.get? b = some u → h'.get? b = some u) : Inv X pins σ H { s with heap := h', toks := t' } := I.un (Un.kept k) (I.hok.kept k)
/-- a new object laid and tracked -/
theorem Inv.laid {a : Addr} {o : HO} {t' : Nat} (I : Inv X pins σ H s) (k : ∀ b u, s.heap.get? b = some u → h'.get? b = some u) (hp : s.heap.objs.size ≤ a) (new : ObjOk X.prog X.w (upd H a o) h' a o) :
    Inv X pins σ (upd H a o) { s with heap := h', toks := t' } := I.un (Un.laid k hp (I.hok.fresh hp)) (I.hok.laid k hp new)
/-- an object written -/
theorem Inv.write {x e : Addr} {o : HO} {t' : Nat} (I : Inv X pins σ H s) (mu : Mut (H x)) (he : e = x ∨ H e = some (.own x)) (k : ∀ b u, b ≠ e → s.heap.get? b = some u → h'.get? b = some u) (heo : ∃ u, h'.get? e = some u)
    (new : ObjOk X.prog X.w (upd H x o) h' x o) : Inv X pins σ (upd H x o) { s with heap := h', toks := t' } := I.un (Un.write mu he k heo) (I.hok.write mu he k heo new)
/-- forgetting slots, pins -/
theorem Inv.weak {σ' : List (Option V)} (I : Inv X pins σ H s) (hl : σ'.length = σ.length) (w : ∀ (i : Nat) v, σ'[i]? = some (some v) → σ[i]? = some (some v)) : Inv X pins σ' H s :=
  ⟨I.ok, I.os, I.bare, I.base, let ⟨m, hn, hl'⟩ := I.loc; ⟨m, hn, fun i x v e1 e2 e3 => hl' i x v e1 (w i v e2) e3⟩, I.cell, I.free, I.freeC, I.pin, I.hok, hl.trans I.len⟩
theorem Inv.pins_of {pins' : List (Addr × Obj)} (I : Inv X pins σ H s) (h : ∀ p ∈ pins', s.heap.get? p.1 = some p.2 ∧ H p.1 = none ∧ p.1 ≠ X.env.locals ∧ p.1 ∉ X.fs ∧ ∀ v, p.2.data ≠ .cell v) : Inv X pins' σ H s :=
  ⟨I.ok, I.os, I.bare, I.base, I.loc, I.cell, I.free, I.freeC, fun p hp => (List.mem_append.mp hp).elim (fun z => I.pin p (List.mem_append_left _ z)) (h p), I.hok, I.len⟩
theorem nodup_ix {N : List Str} (hN : N.Nodup) {i j : Nat} {x : Str} (a : N[i]? = some x) (b : N[j]? = some x) : i = j := by
  obtain ⟨h1, e1⟩ := List.getElem?_eq_some_iff.mp a
  obtain ⟨h2, e2⟩ := List.getElem?_eq_some_iff.mp b
  exact (List.getElem_inj hN).mp (e1.trans e2.symm)
/-- a name is stored; what changed -/
theorem store_ok2 {M : Model} {A : Around} {E : Value → Shared → Prop} {i : Nat} {x : Str} {v : V} {u : Value} {Q : Unit → Shared → Prop} (I : Inv X pins σ H s) (hN : X.N.Nodup) (hi : X.N[i]? = some x) (hx : Loc X.env.scope x) (r : RelV v u)
    (h : ∀ s', Inv X pins (σ.set i (some v)) H s' → (∃ a, Heap.SameBut a s.heap s'.heap ∧ (a = X.env.locals ∨ X.env.cells.lookup x = some a)) → Q () s') (hf : X.fn x = true ∨ X.env.scope.names.lookup x = some .local := by first | exact .inl rfl | exact .inr rfl | assumption) : wpAny M A (storeName X.env x u) Q E s := by
  obtain ⟨m, hn, hl⟩ := id I.loc
  have hcls : (X.env.scope.kind == .class || (X.env.scope.kind == .module && X.env.locals != X.env.globals)) = false := by rw [I.ok.kind]; rfl
  have hiσ : i < σ.length := by rw [I.len]; exact (List.getElem?_eq_some_iff.mp hi).1
  have cne := I.cne
  have tracked : ∀ {a : Addr} {h' : Heap}, (∃ o, s.heap.get? a = some o ∧ H a = none) → Heap.SameBut a s.heap h' → HOk X.prog X.w H h' := fun {a h'} ha hs b ob e => by
    obtain ⟨_, _, hfree⟩ := ha
    refine (I.hok b ob e).stay (fun c w' hc q => (hs.2 c ?_).trans q) (fun _ q => q) fun _ _ q => q
    rintro rfl
    rcases hc with rfl | hc
    · rw [hfree] at e; cases e
    · rw [hfree] at hc; cases hc
  rcases hx with hk | hk
  · refine wpAny_storeName_local hk hn (fun h' hn' hs => ?_) hcls
    obtain ⟨oL, _, _, hoL, _⟩ := id hn
    refine h _ ⟨I.ok, I.os, I.bare, ⟨fun b o e n hb hx => ?_, fun b o e n hb hx => ?_, I.base.free, fun b o e hx => ?_, I.base.tups, I.base.frzs, I.base.tbls⟩, ⟨_, hn', fun j y v' e1 e2 e3 => ?_⟩, fun y c e => ?_, I.free, I.freeC, fun p hp => ?_, tracked ⟨oL, hoL, I.free⟩ hs, by simpa using I.len⟩ ⟨_, hs, .inl rfl⟩
    · exact (hs.2 b (Nat.ne_of_lt (Nat.lt_of_lt_of_le (Heap.lt_size e) I.ok.above))).trans (I.base.keep b o e n hb hx)
    · obtain ⟨sl, e1⟩ := I.base.slot b o e n hb hx
      exact ⟨sl, (hs.2 b (Nat.ne_of_lt (Nat.lt_of_lt_of_le (Heap.lt_size e) I.ok.above))).trans e1⟩
    · obtain ⟨o', e1⟩ := I.base.there b o e hx
      exact ⟨o', (hs.2 b (Nat.ne_of_lt (Nat.lt_of_lt_of_le (Heap.lt_size e) I.ok.above))).trans e1⟩
    · by_cases hj : j = i
      · subst hj
        rw [hi] at e1; cases e1
        rw [List.getElem?_set_self hiσ] at e2
        cases e2
        exact ⟨u, r, .inl ⟨hk, by simp⟩⟩
      · rw [List.getElem?_set_ne (Ne.symm hj)] at e2
        obtain ⟨u', r', q⟩ := hl j y v' e1 e2 e3
        refine ⟨u', r', ?_⟩
        rcases q with ⟨k, e⟩ | ⟨k, c, e, z⟩
        · refine .inl ⟨k, ?_⟩
          have : y ≠ x := fun e => hj (nodup_ix hN e1 (e ▸ hi))
          simp [this, e]
        · exact .inr ⟨k, c, e, z.sameBut hs (cne y c e)⟩
    · obtain ⟨w', z⟩ := I.cell y c e
      exact ⟨w', z.sameBut hs (cne y c e)⟩
    · obtain ⟨e, n, ne, nf, d⟩ := I.pin p hp
      exact ⟨(hs.2 p.1 ne).trans e, n, ne, nf, d⟩
  · have hfn : X.fn x = true := by
      rcases hf with z | z
      · exact z
      · rw [z] at hk; cases hk
    obtain ⟨c, hc⟩ := I.ok.has x (.inl hk)
    obtain ⟨w', z⟩ := I.cell x c hc
    refine wpAny_storeName_cell I.ok.kind hk hc z (fun h' hc' hs => ?_)
    obtain ⟨oc, hoc, hocd⟩ := id z
    refine h { s with heap := h' } ⟨I.ok, I.os, I.bare, ⟨fun b o e n hb hx => ?_, fun b o e n hb hx => ?_, I.base.free, fun b o e hx => ?_, I.base.tups, I.base.frzs, I.base.tbls⟩, ⟨m, hn.sameBut hs (Ne.symm (cne x c hc)), fun j y v' e1 e2 e3 => ?_⟩, fun y c' e => ?_, I.free, I.freeC, fun p hp => ?_, tracked ⟨oc, hoc, I.freeC x c hc⟩ hs, by simpa using I.len⟩ ⟨c, hs, .inr hc⟩
    · exact (hs.2 b (Nat.ne_of_lt (Nat.lt_of_lt_of_le (Heap.lt_size e) (I.ok.cab x c hfn hc)))).trans (I.base.keep b o e n hb hx)
    · obtain ⟨sl, e1⟩ := I.base.slot b o e n hb hx
      exact ⟨sl, (hs.2 b (Nat.ne_of_lt (Nat.lt_of_lt_of_le (Heap.lt_size e) (I.ok.cab x c hfn hc)))).trans e1⟩
    · obtain ⟨o', e1⟩ := I.base.there b o e hx
      exact ⟨o', (hs.2 b (Nat.ne_of_lt (Nat.lt_of_lt_of_le (Heap.lt_size e) (I.ok.cab x c hfn hc)))).trans e1⟩
    · by_cases hj : j = i
      · subst hj
        rw [hi] at e1; cases e1
        rw [List.getElem?_set_self hiσ] at e2
        cases e2
        exact ⟨u, r, .inr ⟨.inl hk, c, hc, hc'⟩⟩
      · rw [List.getElem?_set_ne (Ne.symm hj)] at e2
        obtain ⟨u', r', q⟩ := hl j y v' e1 e2 e3
        refine ⟨u', r', ?_⟩
        rcases q with q | ⟨k, c', e, z'⟩
        · exact .inl q
        · refine .inr ⟨k, c', e, z'.sameBut hs ?_⟩
          rintro rfl
          exact hj (nodup_ix hN e1 (I.ok.inj _ _ _ e hc ▸ hi))
    · by_cases hcc : c' = c
      · subst hcc; exact ⟨_, hc'⟩
      · obtain ⟨w2, z2⟩ := I.cell y c' e
        exact ⟨w2, z2.sameBut hs hcc⟩
    · obtain ⟨e, n, ne, nf, d⟩ := I.pin p hp
      refine ⟨(hs.2 p.1 ?_).trans e, n, ne, nf, d⟩
      intro q
      rw [q, hoc] at e
      have q' : oc = p.2 := Option.some.inj e
      exact d w' (by rw [← q']; exact hocd)
theorem store_ok {M : Model} {A : Around} {E : Value → Shared → Prop} {i : Nat} {x : Str} {v : V} {u : Value} {Q : Unit → Shared → Prop} (I : Inv X pins σ H s) (hN : X.N.Nodup) (hi : X.N[i]? = some x) (hx : Loc X.env.scope x) (r : RelV v u)
    (h : ∀ s', Inv X pins (σ.set i (some v)) H s' → Q () s') (hf : X.fn x = true ∨ X.env.scope.names.lookup x = some .local := by first | exact .inl rfl | exact .inr rfl | assumption) : wpAny M A (storeName X.env x u) Q E s :=
  store_ok2 I hN hi hx r (fun s' I' _ => h s' I') hf
/-- behind a call or a block, the state as it is -/
theorem Inv.call' {s' : Shared} {ch : List Addr} (I : Inv X pins σ H s) (ho : s'.os = s.os) (u : Un (frs X.stack) ch H H' s.heap s'.heap) (hok : HOk X.prog X.w H' s'.heap) (hg : AllBare s'.gens)
    (hch : ∀ b ∈ ch, (b ∈ X.ex ∨ X.s_0.heap.objs.size ≤ b) ∧ b ≠ X.env.locals ∧ (∀ x c, X.env.cells.lookup x = some c → c ≠ b) ∧ ∀ p ∈ X.pn ++ pins, p.1 ≠ b) : Inv X pins σ H' s' := by
  obtain ⟨h', g', d', t', o'⟩ := s'
  have e : o' = s.os := ho
  subst e
  exact I.call (g' := g') (t' := t') (d' := d') u hok hg hch
end
/-- an exception: its class, its own dict's address (where it has one), the abstract heap behind it -/
abbrev XK := Value → Option Addr → Hp → Prop
abbrev St := List (Option V)
abbrev VK := V → Hp → Prop
/-- an expression's reading; a test's; an argument list's -/
abbrev TE := St → Hp → VK → Prop
abbrev TT := St → Hp → (Bool → Hp → Prop) → Prop
abbrev TA := St → Hp → (List V → Hp → Prop) → Prop
/-- what is wanted behind a statement -/
structure Ends where
  nx : St → Hp → Prop
  rt : VK
  bk : St → Hp → Prop := fun _ _ => False
  ct : St → Hp → Prop := fun _ _ => False
abbrev TS := Ends → St → Hp → Prop
def EP (X : Cx) (pins : List (Addr × Obj)) (σ : St) (Q : VK) (u : Value) (s' : Shared) : Prop := ∃ v H', Inv X pins σ H' s' ∧ RelV v u ∧ Q v H'
def TP (X : Cx) (pins : List (Addr × Obj)) (σ : St) (Q : Bool → Hp → Prop) (b : Bool) (s' : Shared) : Prop := ∃ H', Inv X pins σ H' s' ∧ Q b H'
def AP (X : Cx) (pins : List (Addr × Obj)) (σ : St) (Q : List V → Hp → Prop) (us : List Value) (s' : Shared) : Prop := ∃ vs H', Inv X pins σ H' s' ∧ Vals vs us ∧ Q vs H'
def SP (X : Cx) (pins : List (Addr × Obj)) (D : Ends) (f : Flow) (s' : Shared) : Prop :=
  match f with
  | .next => ∃ σ' H', Inv X pins σ' H' s' ∧ D.nx σ' H'
  | .brk => ∃ σ' H', Inv X pins σ' H' s' ∧ D.bk σ' H'
  | .cont => ∃ σ' H', Inv X pins σ' H' s' ∧ D.ct σ' H'
  | .ret u => ∃ v σ' H', Inv X pins σ' H' s' ∧ RelV v u ∧ D.rt v H'
def PE (X : Cx) (e : Expr) (t : TE) : Prop :=
  ∀ (pins : List (Addr × Obj)) (s : Shared) (σ : St) (H : Hp) (Q : VK), Inv X pins σ H s → t σ H Q → wpAny (model X.prog X.w) X.A (eval e X.env) (EP X pins σ Q) X.xe s
def PT (X : Cx) (e : Expr) (t : TT) : Prop :=
  ∀ (pins : List (Addr × Obj)) (s : Shared) (σ : St) (H : Hp) (Q : Bool → Hp → Prop), Inv X pins σ H s → t σ H Q → wpAny (model X.prog X.w) X.A (isTrue e X.env (eval e X.env)) (TP X pins σ Q) X.xe s
/-- a test whatever its 'whole' is (and, or) -/
def PW (X : Cx) (e : Expr) (t : TT) : Prop :=
  ∀ (whole : Sem Value) (pins : List (Addr × Obj)) (s : Shared) (σ : St) (H : Hp) (Q : Bool → Hp → Prop), Inv X pins σ H s → t σ H Q → wpAny (model X.prog X.w) X.A (isTrue e X.env whole) (TP X pins σ Q) X.xe s
theorem PW.pt {X : Cx} {e : Expr} {t : TT} (h : PW X e t) : PT X e t := h _
/-- an argument list (no star), from the left -/
def PA (X : Cx) (es : List Expr) (t : TA) : Prop :=
  ∀ (pos : Pos) (pins : List (Addr × Obj)) (s : Shared) (σ : St) (H : Hp) (Q : List V → Hp → Prop), Inv X pins σ H s → t σ H Q → wpAny (model X.prog X.w) X.A (spliced (backTo pos (starEach es X.env))) (AP X pins σ Q) X.xe s
def PS (X : Cx) (st : Stmt) (t : TS) : Prop :=
  ∀ (pins : List (Addr × Obj)) (s : Shared) (σ : St) (H : Hp) (D : Ends), Inv X pins σ H s → t D σ H → wpAny (model X.prog X.w) X.A (exec st X.env) (SP X pins D) X.xe s
def PSs (X : Cx) (st : List Stmt) (t : TS) : Prop :=
  ∀ (pins : List (Addr × Obj)) (s : Shared) (σ : St) (H : Hp) (D : Ends), Inv X pins σ H s → t D σ H → wpAny (model X.prog X.w) X.A (execs st X.env) (SP X pins D) X.xe s
/-- weaken the end -/
theorem thn {α : Type} {t : Sem α} {Q Q' : α → Shared → Prop} {M : Model} {A : Around} {E : Value → Shared → Prop} {s : Shared} (h : wpAny M A t Q E s) (hQ : ∀ a s, Q a s → Q' a s) : wpAny M A t Q' E s := wpAny_mono h hQ fun _ _ x => x
end L2
namespace L2
open PySem PySem.Spec PyProof.Rows
section
variable {X : Cx}
/-! ### names and constants -/
def tVar (i : Nat) : TE := fun σ H Q => ∃ v, σ[i]? = some (some v) ∧ Q v H
def tC (v : V) : TE := fun _ H Q => Q v H
theorem pe_var {i : Nat} {x : Str} {pos : Pos} (hN : X.N[i]? = some x) (hv : Vis X.env.scope x) (hd : (x == ("__debug__" : Str)) = false := by decide) (hcd : (x == ("__classdict__" : Str)) = false := by decide) : PE X (.Name x pos) (tVar i) := by
  intro pins s σ H Q I h
  obtain ⟨v, e, h⟩ := h
  obtain ⟨m, hn, hl⟩ := I.loc
  obtain ⟨u, r, l⟩ := hl i x v hN e hv
  have fin : EP X pins σ Q u s := ⟨v, H, I, r, h⟩
  rcases l with ⟨hk, hm⟩ | ⟨hk, c, hc, hcell⟩
  · exact wpAny_Name (wpAny_loadName_local I.ok.kind hk hn hm fin) hd
  · rcases hk with hk | hk
    · exact wpAny_Name (wpAny_loadName_cell I.ok.kind hk hc hcell fin) hd
    · exact wpAny_Name (wpAny_loadName_free I.ok.kind hk hc hcell fin hcd) hd
theorem pe_int {i j pos} : PE X (.Constant (.int i) j pos) (tC (.int i)) := fun _ _ _ H _ I h => wpAny_Constant_int ⟨.int i, H, I.tok _, ⟨_, rfl⟩, h⟩
theorem pe_bl {b j pos} : PE X (.Constant (.bool b) j pos) (tC (.bl b)) := fun _ _ _ H _ I h => Constant_bool ⟨.bl b, H, I, rfl, h⟩
/-- a global name of the def -/
def Gl (X : Cx) (x : Str) : Prop := X.env.kindOf x = some .globalImplicit
theorem ld_glob {E : Value → Shared → Prop} {pins : List (Addr × Obj)} {s : Shared} {σ : St} {H : Hp} {x : Str} {u : Value} {pos : Pos} {Q : Value → Shared → Prop} (I : Inv X pins σ H s) (hg : Gl X x) (hm : X.mg x = some u) (h : Q u s)
    (hd : (x == ("__debug__" : Str)) = false := by decide) : wpAny (model X.prog X.w) X.A (eval (.Name x pos) X.env) Q E s :=
  Calls.Name_function_global I.ok.kind hg (Calls.loadGlobal_global (by rw [I.ok.glob]; exact I.mod.glob.keeps I.bk) hm h) hd
theorem ld_blt {E : Value → Shared → Prop} {pins : List (Addr × Obj)} {s : Shared} {σ : St} {H : Hp} {x : Str} {u : Value} {pos : Pos} {Q : Value → Shared → Prop} (I : Inv X pins σ H s) (hg : Gl X x) (hm : X.mg x = none) (hv : bootBuiltins x = some u) (h : Q u s)
    (hn : x ≠ "__name__" := by decide) (hd : (x == ("__debug__" : Str)) = false := by decide) : wpAny (model X.prog X.w) X.A (eval (.Name x pos) X.env) Q E s := by
  obtain ⟨mb, h1, h2⟩ := I.mod.blt
  exact Calls.Name_function_global I.ok.kind hg (Calls.loadGlobal_builtin (by rw [I.ok.glob]; exact I.mod.glob.keeps I.bk) hm (by rw [I.ok.blt]; exact h1.keeps I.bk) ((h2 x hn).trans hv) h) hd
/-- a module's constant, a class, a function, as a value -/
theorem pe_glob {x : Str} {v : V} {u : Value} {pos : Pos} (hg : Gl X x) (hm : X.mg x = some u) (r : RelV v u) (hd : (x == ("__debug__" : Str)) = false := by decide) : PE X (.Name x pos) (tC v) :=
  fun _ _ _ H _ I h => ld_glob I hg hm ⟨v, H, I, r, h⟩ hd
theorem pe_bltn {x : Str} {v : V} {u : Value} {pos : Pos} (hg : Gl X x) (hm : X.mg x = none) (hv : bootBuiltins x = some u) (r : RelV v u) (hn : x ≠ "__name__" := by decide) (hd : (x == ("__debug__" : Str)) = false := by decide) : PE X (.Name x pos) (tC v) :=
  fun _ _ _ H _ I h => ld_blt I hg hm hv ⟨v, H, I, r, h⟩ hn hd
variable {a b : Expr} {ta tb : TE} {pos : Pos}
/-- a comparison as a value, as a test -/
def tB (t : TE) : TT := fun σ H Q => t σ H fun x H1 => ∃ c, x = .bl c ∧ Q c H1
/-- an expression whose value is a bool, as a test -/
theorem pt_val {e : Expr} {t : TE} (h : PE X e t) (he : ∀ whole, isTrue e X.env whole = (do let v ← whole; standAt e.pos; holding [v] (truthy v)) := by intro _; rfl) : PT X e (tB t) := by
  intro pins s σ H Q I hw
  refine isTrue_plain (thn (h pins s σ H _ I hw) fun v s1 ⟨x, H1, I1, r1, q1⟩ => ?_) (he _)
  obtain ⟨d, rfl, q⟩ := q1
  cases r1
  exact wpAny_truthy_bool ⟨H1, I1, q⟩
variable {tA tB' : TT} {rest : List Expr}
def tAnd (t u : TT) : TT := fun σ H Q => t σ H fun c H1 => if c = true then u σ H1 Q else Q false H1
def tOr (t u : TT) : TT := fun σ H Q => t σ H fun c H1 => if c = true then Q true H1 else u σ H1 Q
def tNot (t : TT) : TT := fun σ H Q => t σ H fun c H1 => Q (!c) H1
theorem pw_and1 (ha : PT X a tA) : PW X (.BoolOp .And [a] pos) tA := by
  intro wh pins s σ H Q I h
  refine isTrue_and (thn (ha pins s σ H Q I h) fun c s1 e => ?_)
  cases c with
  | true => exact isTrue_and_nil e
  | false => exact e
theorem pw_or1 (ha : PT X a tA) : PW X (.BoolOp .Or [a] pos) tA := by
  intro wh pins s σ H Q I h
  refine isTrue_or (thn (ha pins s σ H Q I h) fun c s1 e => ?_)
  cases c with
  | false => exact isTrue_or_nil e
  | true => exact e
theorem pw_and (ha : PT X a tA) (hb : PW X (.BoolOp .And (b :: rest) pos) tB') : PW X (.BoolOp .And (a :: b :: rest) pos) (tAnd tA tB') := by
  intro wh pins s σ H Q I h
  refine isTrue_and (thn (ha pins s σ H _ I h) fun c s1 ⟨H1, I1, q1⟩ => ?_)
  cases c with
  | true => exact hb wh pins s1 σ H1 Q I1 q1
  | false => exact ⟨H1, I1, q1⟩
theorem pw_or (ha : PT X a tA) (hb : PW X (.BoolOp .Or (b :: rest) pos) tB') : PW X (.BoolOp .Or (a :: b :: rest) pos) (tOr tA tB') := by
  intro wh pins s σ H Q I h
  refine isTrue_or (thn (ha pins s σ H _ I h) fun c s1 ⟨H1, I1, q1⟩ => ?_)
  cases c with
  | true => exact ⟨H1, I1, q1⟩
  | false => exact hb wh pins s1 σ H1 Q I1 q1
theorem pt_not (ha : PT X a tA) : PT X (.UnaryOp .Not a pos) (tNot tA) := by
  intro pins s σ H Q I h
  exact isTrue_not (ha pins s σ H (fun c H1 => Q (!c) H1) I h)
/-- .. as values (bools) -/
def tAndV (ta tb : TE) : TE := fun σ H Q => ta σ H fun x H1 => ∃ c, x = .bl c ∧ if c = true then tb σ H1 Q else Q (.bl false) H1
def tOrV (ta tb : TE) : TE := fun σ H Q => ta σ H fun x H1 => ∃ c, x = .bl c ∧ if c = true then Q (.bl true) H1 else tb σ H1 Q
def tNotV (ta : TE) : TE := fun σ H Q => ta σ H fun x H1 => ∃ c, x = .bl c ∧ Q (.bl (!c)) H1
theorem pe_one {op} {t : TE} (h : PE X a t) : PE X (.BoolOp op [a] pos) t := fun pins s σ H Q I hw => BoolOp_one (h pins s σ H Q I hw)
theorem pe_and (ha : PE X a ta) (hb : PE X (.BoolOp .And (b :: rest) pos) tb) : PE X (.BoolOp .And (a :: b :: rest) pos) (tAndV ta tb) := by
  intro pins s σ H Q I h
  refine BoolOp_and (thn (ha pins s σ H _ I h) fun v s1 ⟨x, H1, I1, r1, q1⟩ => ?_)
  obtain ⟨c, rfl, q1⟩ := q1
  cases r1
  refine wpAny_truthy_bool ?_
  cases c with
  | true => exact hb pins s1 σ H1 Q I1 q1
  | false => exact ⟨.bl false, H1, I1, rfl, q1⟩
theorem pe_or (ha : PE X a ta) (hb : PE X (.BoolOp .Or (b :: rest) pos) tb) : PE X (.BoolOp .Or (a :: b :: rest) pos) (tOrV ta tb) := by
  intro pins s σ H Q I h
  refine BoolOp_or (thn (ha pins s σ H _ I h) fun v s1 ⟨x, H1, I1, r1, q1⟩ => ?_)
  obtain ⟨c, rfl, q1⟩ := q1
  cases r1
  refine wpAny_truthy_bool ?_
  cases c with
  | false => exact hb pins s1 σ H1 Q I1 q1
  | true => exact ⟨.bl true, H1, I1, rfl, q1⟩
theorem pe_not (ha : PE X a ta) : PE X (.UnaryOp .Not a pos) (tNotV ta) := by
  intro pins s σ H Q I h
  refine UnaryOp_ (thn (ha pins s σ H _ I h) fun v s1 ⟨x, H1, I1, r1, q1⟩ => ?_)
  obtain ⟨c, rfl, q1⟩ := q1
  cases r1
  exact not_of (wpAny_truthy_bool ⟨.bl (!c), H1, I1, rfl, q1⟩)
end
end L2
namespace L2
open PySem PySem.Spec PyProof.Rows
/-! ### a list, a tuple that is read: tracked, frozen, or an object of the module -/
def SqL (K : PySem.W.Frag) (H : Hp) (a : Addr) (xs : List V) : Prop :=
  Rd H a (.lst xs) ∨
    ∃ (o : Obj) (its : Array Value) (n : Nat), K.lookup a = some o ∧ o.cls = .type "list" ∧ o.dict = none ∧ o.data = .seq its n ∧ its.size ≤ sizeLine ∧ Vals xs its.toList
def SqT (K : PySem.W.Frag) (H : Hp) (a : Addr) (xs : List V) : Prop :=
  Rd H a (.tup xs) ∨
    ∃ (o : Obj) (its : Array Value) (n : Nat), K.lookup a = some o ∧ o.cls = .type "tuple" ∧ o.data = .seq its n ∧ its.size ≤ sizeLine ∧ Vals xs its.toList
def absV : Value → Option V
  | .none => some .non
  | .bool b => some (.bl b)
  | .int i _ => some (.int i)
  | .str x _ => some (.str x)
  | .bytes b _ => some (.byt b)
  | .float b _ => some (.flt b)
  | .ref a => some (.ref a)
  | .type n => some (.ty n)
  | _ => none
theorem RelV.abs {x : V} {u : Value} (r : RelV x u) : absV u = some x := by
  cases x with
  | non => cases r; rfl
  | bl _ => cases r; rfl
  | int _ => obtain ⟨t, rfl⟩ := r; rfl
  | str _ => obtain ⟨t, rfl⟩ := r; rfl
  | byt _ => obtain ⟨t, rfl⟩ := r; rfl
  | flt _ => obtain ⟨t, rfl⟩ := r; rfl
  | ref _ => cases r; rfl
  | ty _ => cases r; rfl
theorem RelV.inj {x y : V} {u : Value} (r : RelV x u) (q : RelV y u) : x = y := Option.some.inj (r.abs.symm.trans q.abs)
theorem Vals.inj : ∀ {xs ys : List V} {us : List Value}, Vals xs us → Vals ys us → xs = ys
  | _, _, _, .nil, .nil => rfl
  | _, _, _, .cons r t, .cons r' t' => by rw [r.inj r', Vals.inj t t']
section
variable {X : Cx} {pins : List (Addr × Obj)} {σ : St} {H : Hp} {s : Shared} {a : Addr} {xs ys : List V}
theorem SqL.of {K : PySem.W.Frag} (h : H a = some (.lst xs)) : SqL K H a xs := .inl (.inl h)
theorem SqT.of {K : PySem.W.Frag} (h : H a = some (.tup xs)) : SqT K H a xs := .inl (.inl h)
theorem Inv.list (I : Inv X pins σ H s) (h : SqL X.K H a xs) : ∃ its : List Value, Vals xs its ∧ PlainL s.heap a its.toArray ∧ xs.length ≤ sizeLine := by
  rcases h with h | ⟨o, its, n, hk, hc, hd, hs, hz, r⟩
  · obtain ⟨z, its, n, r, e⟩ := h.ok I.hok
    exact ⟨its, r, ⟨_, n, e, rfl, rfl, rfl⟩, z⟩
  · refine ⟨its.toList, r, ⟨o, n, I.kIn a o hk, hc, hd, by simpa using hs⟩, ?_⟩
    have e := r.length
    simp only [Array.length_toList] at e
    omega
theorem Inv.tuple (I : Inv X pins σ H s) (h : SqT X.K H a xs) : ∃ its : List Value, Vals xs its ∧ IsTup s.heap a its.toArray ∧ xs.length ≤ sizeLine := by
  rcases h with h | ⟨o, its, n, hk, hc, hs, hz, r⟩
  · obtain ⟨z, its, r, p⟩ := h.ok I.hok
    exact ⟨its, r, p.tup, z⟩
  · refine ⟨its.toList, r, ⟨o, I.kIn a o hk, hc, n, by simpa using hs⟩, ?_⟩
    have e := r.length
    simp only [Array.length_toList] at e
    omega
theorem Inv.list_inj (I : Inv X pins σ H s) (h : SqL X.K H a xs) (h' : SqL X.K H a ys) : xs = ys := by
  obtain ⟨its, r, ⟨o, n, e, _, _, d⟩, _⟩ := I.list h
  obtain ⟨its', r', ⟨o', n', e', _, _, d'⟩, _⟩ := I.list h'
  rw [e] at e'; cases e'
  rw [d] at d'
  injection d' with d1 _
  have : its = its' := by simpa using congrArg Array.toList d1
  subst this
  exact r.inj r'
theorem Inv.tuple_inj (I : Inv X pins σ H s) (h : SqT X.K H a xs) (h' : SqT X.K H a ys) : xs = ys := by
  obtain ⟨its, r, ⟨o, e, _, n, d⟩, _⟩ := I.tuple h
  obtain ⟨its', r', ⟨o', e', _, n', d'⟩, _⟩ := I.tuple h'
  rw [e] at e'; cases e'
  rw [d] at d'
  injection d' with d1 _
  have : its = its' := by simpa using congrArg Array.toList d1
  subst this
  exact r.inj r'
end
/-! ### another wish about exceptions -/
abbrev Cx.wish (X : Cx) (E : Value → Shared → Prop) : Cx := { X with xe := E }
/-- no exception leaves -/
abbrev Cx.nox (X : Cx) : Cx := X.wish fun _ _ => False
theorem Cx.Ok.wish {X : Cx} (ok : X.Ok) (E : Value → Shared → Prop) : (X.wish E).Ok :=
  ⟨ok.mod, ok.kind, ok.glob, ok.blt, ok.above, ok.inj, ok.has, ok.cab, ok.hd, ok.frames, ok.stk, ok.exf, ok.bs, ok.bsz, ok.noex, ok.exfs, ok.funs, ok.frf⟩
theorem Cx.Ok.unwish {X : Cx} {E : Value → Shared → Prop} (ok : (X.wish E).Ok) : X.Ok :=
  ⟨ok.mod, ok.kind, ok.glob, ok.blt, ok.above, ok.inj, ok.has, ok.cab, ok.hd, ok.frames, ok.stk, ok.exf, ok.bs, ok.bsz, ok.noex, ok.exfs, ok.funs, ok.frf⟩
section
variable {X : Cx} {pins : List (Addr × Obj)} {σ : St} {H : Hp} {s : Shared} {E : Value → Shared → Prop}
theorem Inv.wish (I : Inv X pins σ H s) (E : Value → Shared → Prop) : Inv (X.wish E) pins σ H s := ⟨I.ok.wish E, I.os, I.bare, I.base, I.loc, I.cell, I.free, I.freeC, I.pin, I.hok, I.len⟩
theorem Inv.unwish (I : Inv (X.wish E) pins σ H s) : Inv X pins σ H s := ⟨I.ok.unwish, I.os, I.bare, I.base, I.loc, I.cell, I.free, I.freeC, I.pin, I.hok, I.len⟩
theorem SP.unwish {D : Ends} {f : Flow} {s' : Shared} (h : SP (X.wish E) pins D f s') : SP X pins D f s' := by
  cases f with
  | next => obtain ⟨σ', H', I, q⟩ := h; exact ⟨σ', H', I.unwish, q⟩
  | brk => obtain ⟨σ', H', I, q⟩ := h; exact ⟨σ', H', I.unwish, q⟩
  | cont => obtain ⟨σ', H', I, q⟩ := h; exact ⟨σ', H', I.unwish, q⟩
  | ret u => obtain ⟨v, σ', H', I, r, q⟩ := h; exact ⟨v, σ', H', I.unwish, r, q⟩
theorem PE.nox {e : Expr} {t : TE} (h : PE X.nox e t) : PE X e t := fun pins s σ H Q I hw =>
  wpAny_mono (h pins s σ H Q (I.wish _) hw) (fun _ _ ⟨v, H', I', r, q⟩ => ⟨v, H', I'.unwish, r, q⟩) fun _ _ z => False.elim z
theorem PT.nox {e : Expr} {t : TT} (h : PT X.nox e t) : PT X e t := fun pins s σ H Q I hw =>
  wpAny_mono (h pins s σ H Q (I.wish _) hw) (fun _ _ ⟨H', I', q⟩ => ⟨H', I'.unwish, q⟩) fun _ _ z => False.elim z
theorem PSs.nox {st : List Stmt} {t : TS} (h : PSs X.nox st t) : PSs X st t := fun pins s σ H D I hw =>
  wpAny_mono (h pins s σ H D (I.wish _) hw) (fun _ _ q => q.unwish) fun _ _ z => False.elim z
end
section
variable {X : Cx} {st : Stmt} {rest : List Stmt} {t u : TS} {e : Expr} {te : TE} {pos : Pos}
def tNext : TS := fun D σ H => D.nx σ H
def tSeq (t u : TS) : TS := fun D σ H => t { D with nx := u D } σ H
theorem pss_nil : PSs X [] tNext := fun _ _ σ H _ I h => wpAny_execs_nil ⟨σ, H, I, h⟩
theorem pss_cons (h1 : PS X st t) (h2 : PSs X rest u) : PSs X (st :: rest) (tSeq t u) := by
  intro pins s σ H D I h
  refine wpAny_execs_cons (thn (h1 pins s σ H { D with nx := u D } I h) fun f s1 q => ?_)
  cases f with
  | next =>
    obtain ⟨σ', H', I', q⟩ := q
    exact h2 pins s1 σ' H' D I' q
  | ret v => exact q
  | brk => exact q
  | cont => exact q
theorem pss_one (h1 : PS X st t) : PSs X [st] t := by
  intro pins s σ H D I h
  refine wpAny_execs_cons (thn (h1 pins s σ H D I h) fun f s1 q => ?_)
  cases f with
  | next => exact wpAny_execs_nil q
  | ret v => exact q
  | brk => exact q
  | cont => exact q
/-- in a def's body nothing is shown -/
theorem Inv.quiet {pins : List (Addr × Obj)} {σ : St} {H : Hp} {s : Shared} (I : Inv X pins σ H s) : interactive X.env = false := by simp [interactive, I.ok.kind]
/-- an expression whose value is dropped -/
def tDrop (te : TE) : TS := fun D σ H => te σ H fun _ H1 => D.nx σ H1
theorem ps_expr (he : PE X e te) (hs : swapsWith e none pos.line X.env = pure false := by rfl) : PS X (.Expr e pos) (tDrop te) := by
  intro pins s σ H D I h
  exact wpAny_Expr_any (thn (he pins s σ H _ I h) fun v s1 ⟨x, H1, I1, r1, q1⟩ => ⟨σ, H1, I1, q1⟩) I.quiet hs
def tRet (te : TE) : TS := fun D σ H => te σ H D.rt
theorem ps_ret (he : PE X e te) : PS X (.Return (some e) pos) (tRet te) := by
  intro pins s σ H D I h
  exact wpAny_Return_some (thn (he pins s σ H _ I h) fun v s1 ⟨x, H1, I1, r1, q1⟩ => ⟨x, σ, H1, I1, r1, q1⟩)
def tIfS (c : TT) (t u : TS) : TS := fun D σ H => c σ H fun b H1 => if b = true then t D σ H1 else u D σ H1
theorem ps_if {c : Expr} {a b : List Stmt} {tc : TT} (hc : PT X c tc) (ha : PSs X a t) (hb : PSs X b u) : PS X (.If c a b pos) (tIfS tc t u) := by
  intro pins s σ H D I h
  refine wpAny_If (thn (hc pins s σ H _ I h) fun d s1 ⟨H1, I1, q1⟩ => ?_)
  cases d with
  | true => exact ha pins s1 σ H1 D I1 q1
  | false => exact hb pins s1 σ H1 D I1 q1
/-- code that the proof never comes to -/
def tNever : TS := fun _ _ _ => False
theorem ps_never : PS X st tNever := fun _ _ _ _ _ _ h => h.elim
end
/-! ### targets -/
abbrev TG := V → St → Hp → (St → Hp → Prop) → Prop
abbrev TGs := List V → St → Hp → (St → Hp → Prop) → Prop
def PG (X : Cx) (target : Expr) (t : TG) : Prop :=
  ∀ (pins : List (Addr × Obj)) (s : Shared) (σ : St) (H : Hp) (v : V) (u : Value) (Q : St → Hp → Prop), Inv X pins σ H s → RelV v u → t v σ H Q →
    wpAny (model X.prog X.w) X.A (assign target X.env u) (fun _ s' => ∃ σ' H', Inv X pins σ' H' s' ∧ Q σ' H') X.xe s
/-- several targets, one after another -/
def PGs (X : Cx) (ts : List Expr) (t : TGs) : Prop :=
  ∀ (pins : List (Addr × Obj)) (s : Shared) (σ : St) (H : Hp) (vs : List V) (us : List Value) (Q : St → Hp → Prop), Inv X pins σ H s → Vals vs us → t vs σ H Q →
    wpAny (model X.prog X.w) X.A (assignInOrder ((assignEach ts X.env).map (·.2)) us) (fun _ s' => ∃ σ' H', Inv X pins σ' H' s' ∧ Q σ' H') X.xe s
/-- o[i] = v, by values -/
abbrev TSet := V → V → V → Hp → (Hp → Prop) → Prop
def PSet (X : Cx) (t : TSet) : Prop :=
  ∀ (pins : List (Addr × Obj)) (s : Shared) (σ : St) (H : Hp) (o i v : V) (ov iv u : Value) (Q : Hp → Prop), Inv X pins σ H s → RelV o ov → RelV i iv → RelV v u → t o i v H Q →
    wpAny (model X.prog X.w) X.A (setItem ov iv u) (fun _ s' => ∃ H', Inv X pins σ H' s' ∧ Q H') X.xe s
section
variable {X : Cx} {pos : Pos}
def gName (i : Nat) : TG := fun v σ H Q => Q (σ.set i (some v)) H
theorem pg_name {i : Nat} {x : Str} (hN : X.N.Nodup) (hi : X.N[i]? = some x) (hx : Loc X.env.scope x) (hf : X.fn x = true ∨ X.env.scope.names.lookup x = some .local := by first | exact .inl rfl | exact .inr rfl | assumption) : PG X (.Name x pos) (gName i) := by
  intro pins s σ H v u Q I r h
  exact wpAny_assign_Name (store_ok I hN hi hx r (fun s' I' => ⟨_, H, I', h⟩) hf)
def gNil : TGs := fun vs σ H Q => vs = [] ∧ Q σ H
def gCons (t : TG) (u : TGs) : TGs := fun vs σ H Q => ∃ v r, vs = v :: r ∧ t v σ H fun σ' H' => u r σ' H' Q
theorem pgs_nil : PGs X [] gNil := by
  intro pins s σ H vs us Q I r h
  obtain ⟨e, h⟩ := h
  subst e
  cases r
  exact assignInOrder_nil ⟨σ, H, I, h⟩
theorem pgs_cons {e : Expr} {es : List Expr} {t : TG} {u : TGs} (h1 : PG X e t) (h2 : PGs X es u)
    (hs : (assignEach (e :: es) X.env).map (·.2) = assign e X.env :: (assignEach es X.env).map (·.2) := by rfl) : PGs X (e :: es) (gCons t u) := by
  intro pins s σ H vs us Q I r h
  obtain ⟨v, vr, e1, h⟩ := h
  subst e1
  cases r with
  | cons r rr =>
    rw [hs]
    refine assignInOrder_cons (thn (h1 pins s σ H _ _ _ I r h) fun _ s1 ⟨σ1, H1, I1, q1⟩ => ?_)
    exact h2 pins s1 σ1 H1 _ _ Q I1 rr q1
/-- (a, b, ..) = a tuple of that length -/
def gTup (K : PySem.W.Frag) (n : Nat) (t : TGs) : TG := fun v σ H Q => ∃ a xs, v = .ref a ∧ SqT K H a xs ∧ xs.length = n ∧ t xs σ H Q
theorem pg_tup {es : List Expr} {k : Nat} {t : TGs} {n : Nat} (hc : X.calm = true) (h : PGs X es t)
    (hn : (assignEach es X.env).length = n := by rfl) (hst : (assignEach es X.env).findIdx? (·.1) = none := by rfl) : PG X (.Tuple es k pos) (gTup X.K n t) := by
  intro pins s σ H v u Q I r hw
  obtain ⟨a, xs, e1, hq, hl, hw⟩ := hw
  subst e1
  cases r
  obtain ⟨its, rv, ht, hz⟩ := I.tuple hq
  refine assign_Tuple_tuple (I.ok.hd hc) ht (by simp [hn, ← hl, rv.length]) hst fun h' hx => ?_
  have I1 : Inv X pins σ H { s with heap := h' } := I.kept (t' := s.toks) fun b o e => hx b o (Nat.ne_of_lt (Heap.lt_size e)) e
  exact h pins _ σ H xs _ Q I1 (by simpa using rv) hw
/-- o[i] = .. -/
def gSub (to ti : TE) (t : TSet) : TG := fun v σ H Q => to σ H fun o H1 => ti σ H1 fun i H2 => t o i v H2 fun H3 => Q σ H3
theorem pg_sub {o i : Expr} {to ti : TE} {t : TSet} (ho : PE X o to) (hi : PE X i ti) (hs : PSet X t)
    (ha : ∀ v, assign (.Subscript o i pos) X.env v = (do
      let ov ← holding [v] (eval o X.env)
      let iv ← holding [v, ov] (eval i X.env)
      standAt pos
      holding [v, ov, iv] (setItem ov iv v)
      release [v, ov, iv] []) := by intro _; rfl) : PG X (.Subscript o i pos) (gSub to ti t) := by
  intro pins s σ H v u Q I r h
  rw [ha]
  refine wpAny_bind (wpAny_holding (thn (ho pins s σ H _ I h) fun ov s1 ⟨x, H1, I1, r1, q1⟩ => ?_))
  refine wpAny_bind (wpAny_holding (thn (hi pins s1 σ H1 _ I1 q1) fun iv s2 ⟨y, H2, I2, r2, q2⟩ => ?_))
  refine wpAny_bind (wpAny_standAt (wpAny_bind (wpAny_holding (thn (hs pins s2 σ H2 x y v ov iv u _ I2 r1 r2 r q2) fun _ s3 ⟨H3, I3, q3⟩ => ?_))))
  exact wpAny_release ⟨σ, H3, I3, q3⟩
/-- target = value -/
def tAsg (te : TE) (g : TG) : TS := fun D σ H => te σ H fun x H1 => g x σ H1 D.nx
theorem ps_asg {tg e : Expr} {te : TE} {g : TG} (he : PE X e te) (hg : PG X tg g) (hs : swapsWithSole [tg] e pos.line X.env = pure false := by rfl) (hw : swappedStores [tg] e X.env = pure none := by rfl)
    (h1 : (assignEach [tg] X.env).map (·.2) = [assign tg X.env] := by rfl) : PS X (.Assign [tg] e pos) (tAsg te g) := by
  intro pins s σ H D I h
  refine wpAny_Assign_stores (thn (he pins s σ H _ I h) fun v s1 ⟨x, H1, I1, r1, q1⟩ => ?_) hs hw
  rw [h1]
  exact thn (hg pins s1 σ H1 x v _ I1 r1 q1) fun _ s2 q => q
/-- name = value -/
theorem ps_set {i : Nat} {x : Str} {e : Expr} {te : TE} {pos' : Pos} (hN : X.N.Nodup) (hi : X.N[i]? = some x) (hx : Loc X.env.scope x) (he : PE X e te) (hs : swapsWith e (some (.Name x pos')) pos.line X.env = pure false := by rfl) (hf : X.fn x = true ∨ X.env.scope.names.lookup x = some .local := by first | exact .inl rfl | exact .inr rfl | assumption) :
    PS X (.Assign [.Name x pos'] e pos) (tAsg te (gName i)) := by
  intro pins s σ H D I h
  refine wpAny_Assign_Name (thn (he pins s σ H _ I h) fun v s1 ⟨y, H1, I1, r1, q1⟩ => ?_) hs
  exact store_ok I1 hN hi hx r1 (fun s2 I2 => ⟨_, H1, I2, q1⟩) hf
/-- a, b = x, y with plain local names: stored from the right; the pair itself is not tracked (the opening rows as in PyProof/Rows/TupAssign.lean:23) -/
def tPar (i j : Nat) (ta : TA) : TS := fun D σ H => ta σ H fun vs H1 => ∃ v w, vs = [v, w] ∧ D.nx ((σ.set i (some v)).set j (some w)) H1
theorem ps_par {i j : Nat} {x y : Str} {a b : Expr} {ta : TA} {px py pt : Pos} {kt k2 pt2} (hc : X.calm = true) (hN : X.N.Nodup) (hi : X.N[i]? = some x) (hj : X.N[j]? = some y) (hij : i ≠ j)
    (hx : X.env.scope.names.lookup x = some .local) (hy : X.env.scope.names.lookup y = some .local) (ha : PA X [a, b] ta)
    (hw : swappedStores [.Tuple [.Name x px, .Name y py] kt pt] (.Tuple [a, b] k2 pt2) X.env = pure (some [x, y]))
    (hs : swapsWithSole [.Tuple [.Name x px, .Name y py] kt pt] (.Tuple [a, b] k2 pt2) pos.line X.env = pure false := by rfl) :
    PS X (.Assign [.Tuple [.Name x px, .Name y py] kt pt] (.Tuple [a, b] k2 pt2) pos) (tPar i j ta) := by
  intro pins s σ H D I h
  rw [exec_Assign_arm]
  refine wpAny_bind (wpAny_standAt ?_)
  rw [hs]
  refine wpAny_bind (wpAny_pure ?_)
  rw [if_neg (by decide)]
  refine wpAny_bind (Tuple_ (thn (ha _ pins s σ H _ I h) fun us s1 ⟨vs, H1, I1, r1, q1⟩ => ?_))
  obtain ⟨v, w, e1, q1⟩ := q1
  subst e1
  obtain ⟨u1, u2, rfl, rv, rw'⟩ : ∃ u1 u2, us = [u1, u2] ∧ RelV v u1 ∧ RelV w u2 := by
    cases r1 with
    | cons p q =>
      cases q with
      | cons p' q' =>
        cases q'
        exact ⟨_, _, rfl, p, p'⟩
  refine wpAny_newObj_type ?_ (by show 2 ≤ sizeLine; decide)
  have I2 : Inv X pins σ H1 { s1 with heap := s1.heap.push { cls := .type "tuple", data := .seq [u1, u2].toArray } } := I1.kept (t' := s1.toks) fun b o e => Heap.get?_push_of_some _ e
  rw [hw]
  refine wpAny_bind (wpAny_pure ?_)
  show wpAny (model X.prog X.w) X.A (do rule "assign.swapped-stores"; let items ← unpackItems (.ref s1.heap.objs.size) 2 none; assignInOrder [fun v => bindName X.env y v, fun v => bindName X.env x v] items.reverse; pure Flow.next) _ _ _
  refine wpAny_bind (wpAny_rule (wpAny_bind (unpackItems_tuple (items := #[u1, u2]) (I.ok.hd hc) (IsTup.new s1.heap _) fun h' hx' => ?_)))
  have I3 := I2.kept (h' := h') (t' := s1.toks) fun b o e => hx' b o (Nat.ne_of_lt (Heap.lt_size e)) e
  show wpAny _ _ (assignInOrder [fun v => bindName X.env y v, fun v => bindName X.env x v] [u2, u1] >>= fun _ => pure Flow.next) _ _ _
  refine wpAny_bind (assignInOrder_cons (wpAny_bindName (store_ok I3 hN hj (.inl hy) rw' (fun s2 I4 => ?_) (.inr hy))))
  refine assignInOrder_cons (wpAny_bindName (store_ok I4 hN hi (.inl hx) rv (fun s3 I5 => assignInOrder_nil (wpAny_pure ?_)) (.inr hx)))
  rw [List.set_comm _ _ (Ne.symm hij)] at I5
  exact ⟨_, H1, I5, q1⟩
end
section
variable {X : Cx} {pos : Pos}
/-- the invariant W with its measure -/
def tWhile (c : TT) (tb : TS) : TS := fun D σ H => ∃ W : Nat → St → Hp → Prop, (∃ m, W m σ H) ∧ ∀ m σ H, W m σ H →
  c σ H fun b H1 => if b = true then ∃ N : St → Hp → Prop, (∀ σ' H', N σ' H' → ∃ m', m' < m ∧ W m' σ' H') ∧ tb { D with nx := N, ct := N, bk := D.nx } σ H1 else D.nx σ H1
theorem ps_while {c : Expr} {body : List Stmt} {tc : TT} {tb : TS} (hp : PassesOwn (model X.prog X.w) X.A X.env X.xe) (hc : PT X c tc) (hb : PSs X body tb) : PS X (.While c body [] pos) (tWhile tc tb) := by
  intro pins s σ H D I h
  obtain ⟨W, ⟨m0, w0⟩, turn⟩ := h
  refine wpAny_While (codeAny_whileLoop (fun n s' => ∃ σ' H', Inv X pins σ' H' s' ∧ W n σ' H') ?_ m0 ⟨σ, H, I, w0⟩)
  rintro n s1 ⟨σ1, H1, I1, w1⟩
  refine wpAny_passesOwn hp (thn (hc pins s1 σ1 H1 _ I1 (turn n σ1 H1 w1)) fun b s2 ⟨H2, I2, q2⟩ => ?_)
  cases b with
  | true =>
    obtain ⟨N, hN, q2⟩ := q2
    rw [if_pos rfl]
    refine wpAny_passesOwn hp (thn (hb pins s2 σ1 H2 _ I2 q2) fun f s3 q3 => ?_)
    cases f with
    | next =>
      obtain ⟨σ3, H3, I3, n3⟩ := q3
      obtain ⟨m', hm, w3⟩ := hN σ3 H3 n3
      exact ⟨m', hm, σ3, H3, I3, w3⟩
    | cont =>
      obtain ⟨σ3, H3, I3, n3⟩ := q3
      obtain ⟨m', hm, w3⟩ := hN σ3 H3 n3
      exact ⟨m', hm, σ3, H3, I3, w3⟩
    | brk => exact q3
    | ret v => exact q3
  | false =>
    rw [if_neg Bool.false_ne_true]
    exact wpAny_execs_nil ⟨σ1, H2, I2, q2⟩
end
/-- at turn i: it yields x (the heap may grow), or it stops -/
structure It where
  go : Nat → Hp → Prop
  yld : Nat → Hp → V → Hp → Prop
  stop : Nat → Hp → Prop
/-- the iterator's own objects may turn: they are not the frame's, not pinned, younger than the entry (or a comprehension's own) -/
def FpOk (X : Cx) (pins : List (Addr × Obj)) (H : Hp) (b : Addr) : Prop :=
  H b = none ∧ b ≠ X.env.locals ∧ b ∉ X.fs ∧ (b ∈ X.ex ∨ X.s_0.heap.objs.size ≤ b) ∧ (∀ x c, X.env.cells.lookup x = some c → c ≠ b) ∧ ∀ p ∈ X.pn ++ pins, p.1 ≠ b
theorem Inv.fpOk {X : Cx} {pins : List (Addr × Obj)} {σ : St} {H H' : Hp} {s : Shared} {b : Addr} (I : Inv X pins σ H s) (hb : s.heap.objs.size ≤ b) (hn : H' b = none) : FpOk X pins H' b := by
  refine ⟨hn, Nat.ne_of_gt (Nat.lt_of_lt_of_le I.lt hb), I.nofs hb, .inr (Nat.le_trans I.sz hb), fun x c e z => ?_, fun p hp z => ?_⟩
  · obtain ⟨v, q⟩ := I.cell x c e
    exact absurd (Nat.lt_of_lt_of_le q.lt (by rw [z]; exact hb)) (Nat.lt_irrefl _)
  · exact absurd (Nat.lt_of_lt_of_le (Heap.lt_size (I.pin p hp).1) (by rw [z]; exact hb)) (Nat.lt_irrefl _)
structure Turn (P : Program) (w : World) (K : PySem.W.Frag) (tg : Expr) (J : It) (fp : List Addr) (it : Addr) (tn : Nat → Heap → Prop) : Prop where
  mem : it ∈ fp
  obj : ∀ i h, tn i h → ∀ b ∈ fp, ∃ o, h.get? b = some o ∧ ∀ v, o.data ≠ .cell v
  keep : ∀ i h h', tn i h → (∀ b ∈ fp, ∀ o, h.get? b = some o → h'.get? b = some o) → tn i h'
  item : ∀ (X : Cx), X.prog = P → X.w = w → X.K = K → X.calm = true → ∀ (i : Nat) (pins : List (Addr × Obj)) (s : Shared) (σ : St) (H : Hp) (E : Value → Shared → Prop), Inv X pins σ H s → (∀ b ∈ fp, FpOk X pins H b) → tn i s.heap → J.go i H →
    wpAny (model P w) X.A (pyNext (.ref it)) (fun r s1 => ∃ u, r = some u ∧
      wpAny (model P w) X.A (letOwnedTupleGo tg (.ref it) u) (fun _ s2 => ∃ x H', Inv X pins σ H' s2 ∧ RelV x u ∧ J.yld i H x H' ∧ tn (i + 1) s2.heap ∧ ∀ b ∈ fp, H' b = none) E s1) E s
  done : ∀ (X : Cx), X.prog = P → X.w = w → X.K = K → X.calm = true → ∀ (i : Nat) (pins : List (Addr × Obj)) (s : Shared) (σ : St) (H : Hp) (E : Value → Shared → Prop), Inv X pins σ H s → (∀ b ∈ fp, FpOk X pins H b) → tn i s.heap → J.stop i H →
    wpAny (model P w) X.A (pyNext (.ref it)) (fun r s1 => r = none ∧ Inv X pins σ H s1) E s
  self : ∀ (A : Around) (i : Nat) (s : Shared) (Q : Value → Shared → Prop) (E : Value → Shared → Prop), tn i s.heap → Q (.ref it) s → wpAny (model P w) A (pyIter (.ref it)) Q E s
abbrev TI := St → Hp → (It → Hp → Prop) → Prop
/-- an iterator has come -/
def PIE (X : Cx) (pins : List (Addr × Obj)) (σ : St) (tg : Expr) (R : It → Hp → Prop) (itv : Value) (s2 : Shared) : Prop :=
  ∃ (it : Addr) (fp : List Addr) (tn : Nat → Heap → Prop) (J : It) (H' : Hp), itv = .ref it ∧ Inv X pins σ H' s2 ∧ Turn X.prog X.w X.K tg J fp it tn ∧ tn 0 s2.heap ∧ (∀ b ∈ fp, FpOk X pins H' b) ∧ R J H'
def PI (X : Cx) (tg iter : Expr) (wi : TI) : Prop :=
  ∀ (pins : List (Addr × Obj)) (s : Shared) (σ : St) (H : Hp) (R : It → Hp → Prop), Inv X pins σ H s → wi σ H R →
    wpAny (model X.prog X.w) X.A (eval iter X.env) (fun v s1 => wpAny (model X.prog X.w) X.A (pyIter v) (PIE X pins σ tg R) X.xe s1) X.xe s
/-- the step ahead of the store is nothing for an iterator that keeps no tuple -/
theorem go_of {M : Model} {A : Around} {E : Value → Shared → Prop} {s : Shared} {tg : Expr} {it : Addr} {u : Value} {o : Obj} {n : String} {vs : Array Value} {Q : Unit → Shared → Prop} (ho : s.heap.get? it = some o) (hc : o.cls = .type n) (hd : o.data = .fields vs)
    (hn : ["enumerate", "zip", "dict_itemiterator", "dict_reverseitemiterator", "odict_iterator", "itertools.zip_longest", "itertools.pairwise"].contains n = false) (hQ : Q () s) : wpAny M A (letOwnedTupleGo tg (.ref it) u) Q E s := by
  unfold letOwnedTupleGo
  cases tg <;> first
    | exact wpAny_pure hQ
    | (cases u <;> first
        | exact wpAny_pure hQ
        | (refine wpAny_bind (wpAny_load ho ?_)
           rw [hc, hd]
           show wpAny M A (if (["enumerate", "zip", "dict_itemiterator", "dict_reverseitemiterator", "odict_iterator", "itertools.zip_longest", "itertools.pairwise"].contains n && vs[0]? == some (rawInt _)) = true then _ else _) Q E s
           rw [if_neg (by intro h; rw [hn, Bool.false_and] at h; cases h)]
           exact wpAny_pure hQ))
/-- the list at a, as it stands at each turn (a loop may append to it) -/
def Itl (K : PySem.W.Frag) (a : Addr) : It :=
  ⟨fun i H => ∃ xs x, SqL K H a xs ∧ xs[i]? = some x, fun i H x H' => H' = H ∧ ∀ xs, SqL K H a xs → xs[i]? = some x, fun i H => ∃ xs, SqL K H a xs ∧ xs.length ≤ i⟩
def Itt (K : PySem.W.Frag) (a : Addr) : It :=
  ⟨fun i H => ∃ xs x, SqT K H a xs ∧ xs[i]? = some x, fun i H x H' => H' = H ∧ ∀ xs, SqT K H a xs → xs[i]? = some x, fun i H => ∃ xs, SqT K H a xs ∧ xs.length ≤ i⟩
/-- lo, lo + 1, .. (n of them) -/
def Itr (lo : Int) (n : Nat) : It := ⟨fun i _ => i < n, fun i H x H' => H' = H ∧ x = .int (lo + i), fun i _ => n ≤ i⟩
theorem turn_list {P : Program} {w : World} {K : PySem.W.Frag} {tg : Expr} (a it : Addr) : Turn P w K tg (Itl K a) [it] it (fun i h => h.IsListIter it a i) where
  mem := by simp
  obj := fun i h st b hb => by
    have e : b = it := by simpa using hb
    subst e
    obtain ⟨o, e, c, d⟩ := st
    exact ⟨o, e, fun v z => by rw [d] at z; cases z⟩
  keep := fun i h h' st k => st.at fun o e => k it (by simp) o e
  item := by
    intro X hP hw hK hc i pins s σ H E I hf st hg
    subst hP hw hK
    obtain ⟨xs, x, hq, hx⟩ := hg
    obtain ⟨its, rv, p, hz⟩ := I.list hq
    obtain ⟨u, hu, ru⟩ := rv.get hx
    obtain ⟨f0, f1, f2, f3, f4, f5⟩ := hf it (by simp)
    refine wpAny_pyNext_list_item st p.isList (x := u) (by simpa using hu) fun h' st' sb => ?_
    have I1 : Inv X pins σ H { s with heap := h' } := I.turned (t' := s.toks) (fun b o hb e => (sb.2 b hb).trans e) f0 f1 f3 f4 f5
    obtain ⟨o, e, c, d⟩ := id st'
    exact ⟨u, rfl, go_of (s := { s with heap := h' }) e c d (by decide) ⟨x, H, I1, ru, ⟨rfl, fun ys hy => by rw [I.list_inj hy hq]; exact hx⟩, st', fun b hb => (hf b hb).1⟩⟩
  done := by
    intro X hP hw hK hc i pins s σ H E I hf st hg
    subst hP hw hK
    obtain ⟨xs, hq, hx⟩ := hg
    obtain ⟨its, rv, p, hz⟩ := I.list hq
    obtain ⟨f0, f1, f2, f3, f4, f5⟩ := hf it (by simp)
    have hl := rv.length
    exact wpAny_pyNext_list_end (I.ok.hd hc) st p.isList (by simp; omega) fun h' eb => ⟨rfl, I.turned (t' := s.toks) (fun b o hb e => eb b o hb e) f0 f1 f3 f4 f5⟩
  self := fun _ _ _ _ _ st h => wpAny_pyIter_listiter st h
theorem turn_tuple {P : Program} {w : World} {K : PySem.W.Frag} {tg : Expr} (a it : Addr) : Turn P w K tg (Itt K a) [it] it (fun i h => h.IsTupleIter it a i) where
  mem := by simp
  obj := fun i h st b hb => by
    have e : b = it := by simpa using hb
    subst e
    obtain ⟨o, e, c, d⟩ := st
    exact ⟨o, e, fun v z => by rw [d] at z; cases z⟩
  keep := fun i h h' st k => st.at fun o e => k it (by simp) o e
  item := by
    intro X hP hw hK hc i pins s σ H E I hf st hg
    subst hP hw hK
    obtain ⟨xs, x, hq, hx⟩ := hg
    obtain ⟨its, rv, p, hz⟩ := I.tuple hq
    obtain ⟨u, hu, ru⟩ := rv.get hx
    obtain ⟨f0, f1, f2, f3, f4, f5⟩ := hf it (by simp)
    refine wpAny_pyNext_tuple_item st (show s.heap.IsTuple a its.toArray from p) (x := u) (by simpa using hu) fun h' st' sb => ?_
    have I1 : Inv X pins σ H { s with heap := h' } := I.turned (t' := s.toks) (fun b o hb e => (sb.2 b hb).trans e) f0 f1 f3 f4 f5
    obtain ⟨o, e, c, d⟩ := id st'
    exact ⟨u, rfl, go_of (s := { s with heap := h' }) e c d (by decide) ⟨x, H, I1, ru, ⟨rfl, fun ys hy => by rw [I.tuple_inj hy hq]; exact hx⟩, st', fun b hb => (hf b hb).1⟩⟩
  done := by
    intro X hP hw hK hc i pins s σ H E I hf st hg
    subst hP hw hK
    obtain ⟨xs, hq, hx⟩ := hg
    obtain ⟨its, rv, p, hz⟩ := I.tuple hq
    obtain ⟨f0, f1, f2, f3, f4, f5⟩ := hf it (by simp)
    have hl := rv.length
    exact wpAny_pyNext_tuple_end (I.ok.hd hc) st (show s.heap.IsTuple a its.toArray from p) (by simp; omega) fun h' eb => ⟨rfl, I.turned (t' := s.toks) (fun b o hb e => eb b o hb e) f0 f1 f3 f4 f5⟩
  self := fun _ _ _ _ _ st h => wpAny_pyIter_tupleiter st h
theorem turn_range {P : Program} {w : World} {K : PySem.W.Frag} {tg : Expr} (it : Addr) (lo : Int) (n : Nat) : Turn P w K tg (Itr lo n) [it] it (fun i h => IsRangeIter h it (lo + (i : Nat) * 1) ((n : Int) - (i : Nat)) 1) where
  mem := by simp
  obj := fun i h st b hb => by
    have e : b = it := by simpa using hb
    subst e
    exact ⟨_, st, fun v z => by
      have z' : Data.fields _ = Data.cell v := z
      cases z'⟩
  keep := fun i h h' st k => k it (by simp) _ st
  item := by
    intro X hP hw hK hc i pins s σ H E I hf st hg
    subst hP hw hK
    obtain ⟨f0, f1, f2, f3, f4, f5⟩ := hf it (by simp)
    have W := Walks.range (prog := X.prog) (w := X.w) (I.ok.hd hc) it lo 1 n
    refine W.item i s _ _ hg st fun v h' tk hv st' kk => ?_
    obtain ⟨t, rfl⟩ := hv
    have I1 : Inv X pins σ H { s with heap := h', toks := tk } := I.turned (fun b o hb e => kk b o (by simpa using hb) e) f0 f1 f3 f4 f5
    refine ⟨_, rfl, go_of (s := { s with heap := h', toks := tk }) (n := "range_iterator") st' rfl rfl (by decide) ⟨.int (lo + i), H, I1, ⟨t, ?_⟩, ⟨rfl, rfl⟩, st', fun b hb => (hf b hb).1⟩⟩
    rw [Int.mul_one]
  done := by
    intro X hP hw hK hc i pins s σ H E I hf st hg
    subst hP hw hK
    obtain ⟨f0, f1, f2, f3, f4, f5⟩ := hf it (by simp)
    exact wpAny_pyNext_range_end (I.ok.hd hc) st (by have : n ≤ i := hg; omega) fun h' eb => ⟨rfl, I.turned (t' := s.toks) (fun b o hb e => eb b o hb e) f0 f1 f3 f4 f5⟩
  self := fun _ _ _ _ _ st h => wpAny_pyIter_rangeiter st h
end L2
namespace L2
open PySem PySem.Spec PyProof.Rows
section
variable {X : Cx} {tg : Expr}
def iList (K : PySem.W.Frag) (tl : TE) : TI := fun σ H R => tl σ H fun x H1 => ∃ a, x = .ref a ∧ (∃ xs, SqL K H1 a xs) ∧ R (Itl K a) H1
def iTup (K : PySem.W.Frag) (tl : TE) : TI := fun σ H R => tl σ H fun x H1 => ∃ a, x = .ref a ∧ (∃ xs, SqT K H1 a xs) ∧ R (Itt K a) H1
theorem pi_list {l : Expr} {tl : TE} (hl : PE X l tl) : PI X tg l (iList X.K tl) := by
  intro pins s σ H R I h
  refine thn (hl pins s σ H _ I h) fun v s1 ⟨x, H1, I1, r1, q1⟩ => ?_
  obtain ⟨a, e, ⟨xs, hq⟩, q⟩ := q1
  subst e
  cases r1
  obtain ⟨its, rv, p, hz⟩ := I1.list hq
  refine wpAny_pyIter_list p.isList ?_
  refine ⟨s1.heap.objs.size, [s1.heap.objs.size], _, _, H1, rfl, I1.kept (t' := s1.toks) fun b o e => Heap.get?_push_of_some _ e, turn_list a _, ⟨_, Heap.get?_push_size _ rfl, rfl, rfl⟩, fun b hb => ?_, q⟩
  have e : b = s1.heap.objs.size := by simpa using hb
  subst e
  exact I1.fpOk (Nat.le_refl _) (I1.hok.fresh (Nat.le_refl _))
theorem pi_tup {l : Expr} {tl : TE} (hl : PE X l tl) : PI X tg l (iTup X.K tl) := by
  intro pins s σ H R I h
  refine thn (hl pins s σ H _ I h) fun v s1 ⟨x, H1, I1, r1, q1⟩ => ?_
  obtain ⟨a, e, ⟨xs, hq⟩, q⟩ := q1
  subst e
  cases r1
  obtain ⟨its, rv, p, hz⟩ := I1.tuple hq
  refine wpAny_pyIter_tuple (show s1.heap.IsTuple a its.toArray from p) ?_
  refine ⟨s1.heap.objs.size, [s1.heap.objs.size], _, _, H1, rfl, I1.kept (t' := s1.toks) fun b o e => Heap.get?_push_of_some _ e, turn_tuple a _, ⟨_, Heap.get?_push_size _ rfl, rfl, rfl⟩, fun b hb => ?_, q⟩
  have e : b = s1.heap.objs.size := by simpa using hb
  subst e
  exact I1.fpOk (Nat.le_refl _) (I1.hok.fresh (Nat.le_refl _))
/-- a range object just made, walked -/
theorem range_it {pins : List (Addr × Obj)} {σ : St} {H : Hp} {s : Shared} {R : It → Hp → Prop} {E : Value → Shared → Prop} {lo hi : Int} {t u v : Tok} {tk : Nat} (I : Inv X pins σ H s) (h1 : -(2 ^ 62) ≤ lo) (h2 : lo < 2 ^ 62) (h3 : -(2 ^ 62) ≤ hi) (h4 : hi < 2 ^ 62)
    (q : R (Itr lo (hi - lo).toNat) H) : wpAny (model X.prog X.w) X.A (pyIter (.ref s.heap.objs.size)) (PIE X pins σ tg R) E { s with heap := s.heap.push { cls := .type "range", data := .fields #[.int lo t, .int hi u, .int 1 v] }, toks := tk } := by
  refine wpAny_pyIter_range (IsRange.new ..) (small_one h1 h2 h3 h4) ?_
  have I1 : Inv X pins σ H { s with heap := s.heap.push { cls := .type "range", data := .fields #[.int lo t, .int hi u, .int 1 v] }, toks := tk } := I.kept fun b o e => Heap.get?_push_of_some _ e
  refine ⟨(s.heap.push { cls := .type "range", data := .fields #[.int lo t, .int hi u, .int 1 v] }).objs.size, [(s.heap.push { cls := .type "range", data := .fields #[.int lo t, .int hi u, .int 1 v] }).objs.size], _, _, H, rfl,
    I1.kept (t' := tk) fun b o e => Heap.get?_push_of_some _ e, turn_range _ lo (hi - lo).toNat, ?_, fun b hb => ?_, q⟩
  · have e1 : lo + ((0 : Nat) : Int) * 1 = lo := by simp
    have e2 : (((hi - lo).toNat : Nat) : Int) - ((0 : Nat) : Int) = Builtin.Range.rangeSize lo hi 1 := by rw [rangeSize_one]; split <;> omega
    show IsRangeIter _ _ (lo + ((0 : Nat) : Int) * 1) ((((hi - lo).toNat : Nat) : Int) - ((0 : Nat) : Int)) 1
    rw [e1, e2]
    exact Heap.get?_push_size _ rfl
  · have e : b = (s.heap.push { cls := .type "range", data := .fields #[.int lo t, .int hi u, .int 1 v] }).objs.size := by simpa using hb
    subst e
    exact I1.fpOk (Nat.le_refl _) (I1.hok.fresh (Nat.le_refl _))
def iRng1 (ta : TA) : TI := fun σ H R => ta σ H fun vs H1 => ∃ j : Int, vs = [.int j] ∧ -(2 ^ 62) ≤ j ∧ j < 2 ^ 62 ∧ R (Itr 0 j.toNat) H1
theorem pi_range1 {a : Expr} {ta : TA} {p pos : Pos} (hg : Gl X "range") (hm : X.mg "range" = none) (ha : PA X [a] ta) (hs : starEach [a] X.env = [(false, eval a X.env)] := by rfl) : PI X tg (.Call (.Name "range" p) [a] [] pos) (iRng1 ta) := by
  intro pins s σ H R I h
  refine Call_ (ld_blt I hg hm boot_range (PyProof.Rows.callWith_type1 (thn (ha pos pins s σ H _ I h) fun us s1 ⟨vs, H1, I1, r1, q1⟩ => ?_) hs rfl))
  obtain ⟨j, e, q1, q2, q⟩ := q1
  subst e
  cases r1 with
  | cons r rr =>
    cases rr
    obtain ⟨t, rfl⟩ := r
    exact call_range_1 (range_it I1 (by omega) (by omega) q1 q2 (by simpa using q))
/-- W: the invariant by the turn and a measure; N: what the body is to reach -/
def tFor (wi : TI) (g : TG) (tb : TS) : TS := fun D σ H => wi σ H fun J H1 => ∃ W : Nat → Nat → St → Hp → Prop, (∃ m, W 0 m σ H1) ∧ ∀ i m σ H, W i m σ H →
  (J.stop i H ∧ D.nx σ H) ∨ (J.go i H ∧ ∃ N : St → Hp → Prop, (∀ σ' H', N σ' H' → ∃ m', m' < m ∧ W (i + 1) m' σ' H') ∧ ∀ x H', J.yld i H x H' → g x σ H' fun σ2 H2 => tb { D with nx := N, ct := N, bk := D.nx } σ2 H2)
/-- the records at fp as they stand -/
def pinsAt (fp : List Addr) (h : Heap) : List (Addr × Obj) := fp.filterMap fun b => (h.get? b).map fun o => (b, o)
theorem mem_pinsAt {fp : List Addr} {h : Heap} {b : Addr} {o : Obj} (hb : b ∈ fp) (e : h.get? b = some o) : (b, o) ∈ pinsAt fp h := List.mem_filterMap.mpr ⟨b, hb, by rw [e]; rfl⟩
theorem of_pinsAt {fp : List Addr} {h : Heap} {p : Addr × Obj} (hp : p ∈ pinsAt fp h) : p.1 ∈ fp ∧ h.get? p.1 = some p.2 := by
  obtain ⟨b, hb, e⟩ := List.mem_filterMap.mp hp
  cases q : h.get? b with
  | none => rw [q] at e; cases e
  | some o =>
    rw [q] at e
    have e' : (b, o) = p := Option.some.inj e
    subst e'
    exact ⟨hb, q⟩
theorem Inv.pinned {pins : List (Addr × Obj)} {σ : St} {H : Hp} {s : Shared} {fp : List Addr} (I : Inv X pins σ H s) (hf : ∀ b ∈ fp, FpOk X pins H b) (ho : ∀ b ∈ fp, ∃ o, s.heap.get? b = some o ∧ ∀ v, o.data ≠ .cell v) : Inv X (pins ++ pinsAt fp s.heap) σ H s :=
  I.pins_of fun p hp => (List.mem_append.mp hp).elim (fun z => I.pin p (List.mem_append_right _ z)) fun z => by
    obtain ⟨hb, e⟩ := of_pinsAt z
    obtain ⟨f0, f1, f2, _⟩ := hf p.1 hb
    obtain ⟨o, e', d⟩ := ho p.1 hb
    rw [e] at e'; cases e'
    exact ⟨e, f0, f1, f2, d⟩
theorem Inv.unpinned {pins pl : List (Addr × Obj)} {σ : St} {H : Hp} {s : Shared} (I : Inv X (pins ++ pl) σ H s) : Inv X pins σ H s := I.pins_of fun p hp => I.pin p (List.mem_append_right _ (List.mem_append_left _ hp))
theorem ps_for {iter : Expr} {body : List Stmt} {wi : TI} {g : TG} {tb : TS} {pos : Pos} (hp : PassesOwn (model X.prog X.w) X.A X.env X.xe) (hc : X.calm = true) (hi : PI X tg iter wi) (hg : PG X tg g) (hb : PSs X body tb)
    (hs : ∀ x, foldedSetIterable iter X.env x = pure x := by intro _; rfl) : PS X (.For tg iter body [] pos) (tFor wi g tb) := by
  intro pins s σ H D I h
  refine wpAny_For (thn (hi pins s σ H _ I h) fun v s1 h1 => thn h1 fun itv s2 h2 => ?_) hs
  obtain ⟨it, fp, tn, J, H2, e, I2, T, st2, f2, W, ⟨m0, w0⟩, turn⟩ := h2
  subst e
  -- what stays true of the iterator's objects through the loop
  have stat : ∀ {H' : Hp}, (∀ b ∈ fp, H' b = none) → ∀ b ∈ fp, FpOk X pins H' b := fun hn b hb => ⟨hn b hb, (f2 b hb).2⟩
  refine codeAny_forLoop_any (fun n s' => ∃ i σ' H', Inv X pins σ' H' s' ∧ tn i s'.heap ∧ (∀ b ∈ fp, H' b = none) ∧ W i n σ' H') ?_ m0 ⟨0, σ, H2, I2, st2, fun b hb => (f2 b hb).1, w0⟩
  rintro n s3 ⟨i, σ3, H3, I3, st3, fr3, w3⟩
  rcases turn i n σ3 H3 w3 with ⟨stop, qn⟩ | ⟨go, N, hN, step⟩
  · refine wpAny_passesOwn hp (thn (T.done X rfl rfl rfl hc i pins s3 σ3 H3 X.xe I3 (stat fr3) st3 stop) fun r s4 ⟨hr, I4⟩ => ?_)
    subst hr
    exact wpAny_execs_nil ⟨σ3, H3, I4, qn⟩
  · refine wpAny_passesOwn hp (thn (T.item X rfl rfl rfl hc i pins s3 σ3 H3 X.xe I3 (stat fr3) st3 go) fun r s4 ⟨u, hr, h4⟩ => ?_)
    subst hr
    refine wpAny_passesOwn hp (thn h4 fun _ s5 ⟨x, H5, I5, r5, y5, st5, fr5⟩ => ?_)
    have I5' := I5.pinned (stat fr5) (T.obj _ _ st5)
    refine wpAny_passesOwn hp (thn (hg _ s5 σ3 H5 x u _ I5' r5 (step x H5 y5)) fun _ s6 ⟨σ6, H6, I6, q6⟩ => ?_)
    refine wpAny_passesOwn hp (thn (hb _ s6 σ6 H6 _ I6 q6) fun f s7 q7 => ?_)
    have again : ∀ {σ7 : St} {H7 : Hp}, Inv X (pins ++ pinsAt fp s5.heap) σ7 H7 s7 → N σ7 H7 → ∃ m, m < n ∧ ∃ i σ' H', Inv X pins σ' H' s7 ∧ tn i s7.heap ∧ (∀ b ∈ fp, H' b = none) ∧ W i m σ' H' := fun {σ7 H7} I7 n7 => by
      obtain ⟨m', hm, w7⟩ := hN σ7 H7 n7
      refine ⟨m', hm, i + 1, σ7, H7, I7.unpinned, T.keep _ _ _ st5 fun b hb o e => (I7.pin (b, o) (List.mem_append_right _ (List.mem_append_right _ (mem_pinsAt hb e)))).1, fun b hb => ?_, w7⟩
      obtain ⟨o, e, d⟩ := T.obj _ _ st5 b hb
      exact (I7.pin (b, o) (List.mem_append_right _ (List.mem_append_right _ (mem_pinsAt hb e)))).2.1
    cases f with
    | next => obtain ⟨σ7, H7, I7, n7⟩ := q7; exact again I7 n7
    | cont => obtain ⟨σ7, H7, I7, n7⟩ := q7; exact again I7 n7
    | brk => obtain ⟨σ7, H7, I7, q7⟩ := q7; exact ⟨σ7, H7, I7.unpinned, q7⟩
    | ret v => obtain ⟨x7, σ7, H7, I7, r7, q7⟩ := q7; exact ⟨x7, σ7, H7, I7.unpinned, r7, q7⟩
end
/-- over a list that the body leaves as it is -/
theorem for_list {K : PySem.W.Frag} {a : Addr} {xs : List V} {g : TG} {tb : TS} {D : Ends} {σ : St} {H : Hp} (Pv : Nat → St → Hp → Prop) (h0 : Pv 0 σ H) (hl : ∀ i σ H, i ≤ xs.length → Pv i σ H → SqL K H a xs)
    (hs : ∀ i x σ H, xs[i]? = some x → Pv i σ H → g x σ H fun σ2 H2 => tb { D with nx := Pv (i + 1), ct := Pv (i + 1), bk := D.nx } σ2 H2) (hd : ∀ σ H, Pv xs.length σ H → D.nx σ H) :
    ∃ W : Nat → Nat → St → Hp → Prop, (∃ m, W 0 m σ H) ∧ ∀ i m σ H, W i m σ H →
      ((Itl K a).stop i H ∧ D.nx σ H) ∨ ((Itl K a).go i H ∧ ∃ N : St → Hp → Prop, (∀ σ' H', N σ' H' → ∃ m', m' < m ∧ W (i + 1) m' σ' H') ∧ ∀ x H', (Itl K a).yld i H x H' → g x σ H' fun σ2 H2 => tb { D with nx := N, ct := N, bk := D.nx } σ2 H2) := by
  refine ⟨fun i m σ H => m = xs.length - i ∧ i ≤ xs.length ∧ Pv i σ H, ⟨xs.length, by simp, Nat.zero_le _, h0⟩, ?_⟩
  rintro i m σ H ⟨rfl, hi, p⟩
  have q := hl i σ H hi p
  by_cases hlt : i < xs.length
  · refine .inr ⟨⟨xs, xs[i], q, by simp [hlt]⟩, Pv (i + 1), fun σ' H' p' => ⟨xs.length - (i + 1), by omega, rfl, hlt, p'⟩, fun x H' y => ?_⟩
    obtain ⟨e, y⟩ := y
    subst e
    exact hs i x σ _ (y xs q) p
  · have e : i = xs.length := by omega
    subst e
    exact .inl ⟨⟨xs, q, Nat.le_refl _⟩, hd σ H p⟩
theorem for_tup {K : PySem.W.Frag} {a : Addr} {xs : List V} {g : TG} {tb : TS} {D : Ends} {σ : St} {H : Hp} (Pv : Nat → St → Hp → Prop) (h0 : Pv 0 σ H) (hl : ∀ i σ H, i ≤ xs.length → Pv i σ H → SqT K H a xs)
    (hs : ∀ i x σ H, xs[i]? = some x → Pv i σ H → g x σ H fun σ2 H2 => tb { D with nx := Pv (i + 1), ct := Pv (i + 1), bk := D.nx } σ2 H2) (hd : ∀ σ H, Pv xs.length σ H → D.nx σ H) :
    ∃ W : Nat → Nat → St → Hp → Prop, (∃ m, W 0 m σ H) ∧ ∀ i m σ H, W i m σ H →
      ((Itt K a).stop i H ∧ D.nx σ H) ∨ ((Itt K a).go i H ∧ ∃ N : St → Hp → Prop, (∀ σ' H', N σ' H' → ∃ m', m' < m ∧ W (i + 1) m' σ' H') ∧ ∀ x H', (Itt K a).yld i H x H' → g x σ H' fun σ2 H2 => tb { D with nx := N, ct := N, bk := D.nx } σ2 H2) := by
  refine ⟨fun i m σ H => m = xs.length - i ∧ i ≤ xs.length ∧ Pv i σ H, ⟨xs.length, by simp, Nat.zero_le _, h0⟩, ?_⟩
  rintro i m σ H ⟨rfl, hi, p⟩
  have q := hl i σ H hi p
  by_cases hlt : i < xs.length
  · refine .inr ⟨⟨xs, xs[i], q, by simp [hlt]⟩, Pv (i + 1), fun σ' H' p' => ⟨xs.length - (i + 1), by omega, rfl, hlt, p'⟩, fun x H' y => ?_⟩
    obtain ⟨e, y⟩ := y
    subst e
    exact hs i x σ _ (y xs q) p
  · have e : i = xs.length := by omega
    subst e
    exact .inl ⟨⟨xs, q, Nat.le_refl _⟩, hd σ H p⟩
theorem for_range {lo : Int} {n : Nat} {g : TG} {tb : TS} {D : Ends} {σ : St} {H : Hp} (Pv : Nat → St → Hp → Prop) (h0 : Pv 0 σ H)
    (hs : ∀ i σ H, i < n → Pv i σ H → g (.int (lo + i)) σ H fun σ2 H2 => tb { D with nx := Pv (i + 1), ct := Pv (i + 1), bk := D.nx } σ2 H2) (hd : ∀ σ H, Pv n σ H → D.nx σ H) :
    ∃ W : Nat → Nat → St → Hp → Prop, (∃ m, W 0 m σ H) ∧ ∀ i m σ H, W i m σ H →
      ((Itr lo n).stop i H ∧ D.nx σ H) ∨ ((Itr lo n).go i H ∧ ∃ N : St → Hp → Prop, (∀ σ' H', N σ' H' → ∃ m', m' < m ∧ W (i + 1) m' σ' H') ∧ ∀ x H', (Itr lo n).yld i H x H' → g x σ H' fun σ2 H2 => tb { D with nx := N, ct := N, bk := D.nx } σ2 H2) := by
  refine ⟨fun i m σ H => m = n - i ∧ i ≤ n ∧ Pv i σ H, ⟨n, by simp, Nat.zero_le _, h0⟩, ?_⟩
  rintro i m σ H ⟨rfl, hi, p⟩
  by_cases hlt : i < n
  · refine .inr ⟨hlt, Pv (i + 1), fun σ' H' p' => ⟨n - (i + 1), by omega, rfl, hlt, p'⟩, fun x H' y => ?_⟩
    obtain ⟨e, y⟩ := y
    subst e y
    exact hs i σ _ hlt p
  · have e : i = n := by omega
    subst e
    exact .inl ⟨Nat.le_refl _, hd σ H p⟩
/-- while, by a word and a measure of the state -/
theorem while_by {c : TT} {tb : TS} {D : Ends} {σ : St} {H : Hp} (Pv : St → Hp → Prop) (μ : St → Hp → Nat) (h0 : Pv σ H)
    (hs : ∀ σ H, Pv σ H → c σ H fun b H1 => if b = true then tb { D with nx := fun σ' H' => Pv σ' H' ∧ μ σ' H' < μ σ H, ct := fun σ' H' => Pv σ' H' ∧ μ σ' H' < μ σ H, bk := D.nx } σ H1 else D.nx σ H1)
    (mono : ∀ σ H Q Q', (∀ b H1, Q b H1 → Q' b H1) → c σ H Q → c σ H Q') : tWhile c tb D σ H := by
  refine ⟨fun m σ H => m = μ σ H ∧ Pv σ H, ⟨_, rfl, h0⟩, ?_⟩
  rintro m σ H ⟨rfl, p⟩
  refine mono σ H _ _ (fun b H1 q => ?_) (hs σ H p)
  cases b with
  | true => exact ⟨_, fun σ' H' ⟨p', l⟩ => ⟨_, l, rfl, p'⟩, q⟩
  | false => exact q
end L2
namespace L2
open PySem PySem.Spec PyProof.Rows
abbrev R2 := V → V → Hp → VK → Prop
/-- a two-place operation on values: f is binaryOp op, inplaceOp op or compareOp op -/
def OpR (X : Cx) (f : Value → Value → Sem Value) (r : R2) : Prop :=
  ∀ (pins : List (Addr × Obj)) (s : Shared) (σ : St) (H : Hp) (x y : V) (v u : Value) (Q : VK), Inv X pins σ H s → RelV x v → RelV y u → r x y H Q →
    wpAny (model X.prog X.w) X.A (f v u) (EP X pins σ Q) X.xe s
/-- a one-place operation -/
def UnR (X : Cx) (f : Value → Sem Value) (r : V → Hp → VK → Prop) : Prop :=
  ∀ (pins : List (Addr × Obj)) (s : Shared) (σ : St) (H : Hp) (x : V) (v : Value) (Q : VK), Inv X pins σ H s → RelV x v → r x H Q →
    wpAny (model X.prog X.w) X.A (f v) (EP X pins σ Q) X.xe s
/-- a call of a value that is known (a builtin, a type) with values -/
def CallR (X : Cx) (f : Value) (r : List V → Hp → VK → Prop) : Prop :=
  ∀ (pins : List (Addr × Obj)) (s : Shared) (σ : St) (H : Hp) (xs : List V) (us : List Value) (Q : VK), Inv X pins σ H s → Vals xs us → r xs H Q →
    wpAny (model X.prog X.w) X.A (call f us) (EP X pins σ Q) X.xe s
def tOp (r : R2) (ta tb : TE) : TE := fun σ H Q => ta σ H fun x H1 => tb σ H1 fun y H2 => r x y H2 Q
def tUn (r : V → Hp → VK → Prop) (ta : TE) : TE := fun σ H Q => ta σ H fun x H1 => r x H1 Q
/-- ints in, under C, and a value out -/
def rI (C : Int → Int → Prop) (g : Int → Int → V) : R2 := fun x y H Q => ∃ i j, x = .int i ∧ y = .int j ∧ C i j ∧ Q (g i j) H
def rI0 (g : Int → Int → V) : R2 := fun x y H Q => ∃ i j, x = .int i ∧ y = .int j ∧ Q (g i j) H
def rU (g : Int → V) : V → Hp → VK → Prop := fun x H Q => ∃ i, x = .int i ∧ Q (g i) H
section
variable {X : Cx} {a b c : Expr} {ta tb tc : TE} {pos : Pos}
theorem binT (ha : PE X a ta) (hb : PE X b tb) {pins : List (Addr × Obj)} {s : Shared} {σ : St} {H : Hp} {R : V → V → Hp → Prop} (I : Inv X pins σ H s)
    (h : ta σ H fun x H1 => tb σ H1 fun y H2 => R x y H2) {Q : Value → Shared → Prop} {f : Value → Value → Sem Value}
    (hf : ∀ v u s2 x y H2, Inv X pins σ H2 s2 → RelV x v → RelV y u → R x y H2 → wpAny (model X.prog X.w) X.A (f v u) Q X.xe s2) :
    wpAny (model X.prog X.w) X.A (eval a X.env) (fun v s₁ => wpAny (model X.prog X.w) X.A (eval b X.env) (fun u s₂ => wpAny (model X.prog X.w) X.A (f v u) Q X.xe s₂) X.xe s₁) X.xe s := by
  refine thn (ha pins s σ H _ I h) fun v s1 ⟨x, H1, I1, r1, q1⟩ => ?_
  refine thn (hb pins s1 σ H1 _ I1 q1) fun u s2 ⟨y, H2, I2, r2, q2⟩ => ?_
  exact hf v u s2 x y H2 I2 r1 r2 q2
theorem pe_op {op : Operator} {r : R2} (ho : OpR X (binaryOp op) r) (ha : PE X a ta) (hb : PE X b tb) : PE X (.BinOp a op b pos) (tOp r ta tb) := by
  intro pins s σ H Q I h
  exact wpAny_BinOp (binT ha hb I h fun v u s2 x y H2 I2 rx ry q => ho pins s2 σ H2 x y v u Q I2 rx ry q)
theorem pe_un {op : UnaryOp} {r : V → Hp → VK → Prop} (ho : UnR X (unaryOp op) r) (ha : PE X a ta) : PE X (.UnaryOp op a pos) (tUn r ta) := by
  intro pins s σ H Q I h
  exact UnaryOp_ (thn (ha pins s σ H _ I h) fun v s1 ⟨x, H1, I1, r1, q1⟩ => ho pins s1 σ H1 x v Q I1 r1 q1)
/-! ### ints -/
theorem opI {f : Value → Value → Sem Value} {C : Int → Int → Prop} {g : Int → Int → Int}
    (rule : ∀ (i j : Int) (t u : Tok) (s : Shared) (Q : Value → Shared → Prop) (E : Value → Shared → Prop), C i j → Q (.int (g i j) s.toks) { s with toks := s.toks + 1 } → wpAny (model X.prog X.w) X.A (f (.int i t) (.int j u)) Q E s) :
    OpR X f (rI C fun i j => .int (g i j)) := by
  intro pins s σ H x y v u Q I rx ry h
  obtain ⟨i, j, rfl, rfl, hc, q⟩ := h
  obtain ⟨t, rfl⟩ := rx
  obtain ⟨t', rfl⟩ := ry
  exact rule i j t t' s _ _ hc ⟨.int (g i j), H, I.tok _, ⟨_, rfl⟩, q⟩
theorem opI0 {f : Value → Value → Sem Value} {g : Int → Int → Int}
    (rule : ∀ (i j : Int) (t u : Tok) (s : Shared) (Q : Value → Shared → Prop) (E : Value → Shared → Prop), Q (.int (g i j) s.toks) { s with toks := s.toks + 1 } → wpAny (model X.prog X.w) X.A (f (.int i t) (.int j u)) Q E s) :
    OpR X f (rI0 fun i j => .int (g i j)) := by
  intro pins s σ H x y v u Q I rx ry h
  obtain ⟨i, j, rfl, rfl, q⟩ := h
  obtain ⟨t, rfl⟩ := rx
  obtain ⟨t', rfl⟩ := ry
  exact rule i j t t' s _ _ ⟨.int (g i j), H, I.tok _, ⟨_, rfl⟩, q⟩
theorem opB0 {f : Value → Value → Sem Value} {g : Int → Int → Bool}
    (rule : ∀ (i j : Int) (t u : Tok) (s : Shared) (Q : Value → Shared → Prop) (E : Value → Shared → Prop), Q (.bool (g i j)) s → wpAny (model X.prog X.w) X.A (f (.int i t) (.int j u)) Q E s) :
    OpR X f (rI0 fun i j => .bl (g i j)) := by
  intro pins s σ H x y v u Q I rx ry h
  obtain ⟨i, j, rfl, rfl, q⟩ := h
  obtain ⟨t, rfl⟩ := rx
  obtain ⟨t', rfl⟩ := ry
  exact rule i j t t' s _ _ ⟨.bl (g i j), H, I, rfl, q⟩
def CMul (i j : Int) : Prop := (-(2 ^ 64) < i ∧ i < 2 ^ 64) ∨ (-(2 ^ 64) < j ∧ j < 2 ^ 64)
theorem CMul.ok {i j : Int} (h : CMul i j) : IntMulOk i j := by
  rcases h with ⟨h1, h2⟩ | ⟨h1, h2⟩
  · exact .of_left (intBits_le_64 h1 h2)
  · exact .of_right (intBits_le_64 h1 h2)
theorem op_add : OpR X (binaryOp .Add) (rI0 fun i j => .int (i + j)) := opI0 fun _ _ _ _ _ _ _ q => add_int q
theorem op_sub : OpR X (binaryOp .Sub) (rI0 fun i j => .int (i - j)) := opI0 fun _ _ _ _ _ _ _ q => sub_int q
/-- % by a positive divisor of any size -/
theorem op_mod : OpR X (binaryOp .Mod) (rI (fun _ j => 0 < j) fun i j => .int (i % j)) := opI fun i j _ _ _ _ _ hc q => by
  have h1 : (0 : Int) < j := hc
  exact mod_int' (by omega) (by rw [Int.fmod_eq_emod_of_nonneg i (by omega)]; exact q)
theorem unI {f : Value → Sem Value} {g : Int → Int}
    (rule : ∀ (i : Int) (t : Tok) (s : Shared) (Q : Value → Shared → Prop) (E : Value → Shared → Prop), Q (.int (g i) s.toks) { s with toks := s.toks + 1 } → wpAny (model X.prog X.w) X.A (f (.int i t)) Q E s) :
    UnR X f (rU fun i => .int (g i)) := by
  intro pins s σ H x v Q I rx h
  obtain ⟨i, rfl, q⟩ := h
  obtain ⟨t, rfl⟩ := rx
  exact rule i t s _ _ ⟨.int (g i), H, I.tok _, ⟨_, rfl⟩, q⟩
theorem un_neg : UnR X (unaryOp .USub) (rU fun i => .int (-i)) := unI fun _ _ _ _ _ q => neg_int q
end
/-- the scalars that == tells apart as data does -/
def scal : V → V → Bool
  | .non, .non => true | .non, .int _ => true | .int _, .non => true | .non, .bl _ => true | .bl _, .non => true | .non, .str _ => true | .str _, .non => true
  | .int _, .int _ => true | .bl _, .bl _ => true | .str _, .str _ => true | .byt _, .byt _ => true
  | .int _, .str _ => true | .str _, .int _ => true | .bl _, .str _ => true | .str _, .bl _ => true
  | _, _ => false
def rEq : R2 := fun x y H Q => scal x y = true ∧ Q (.bl (decide (x = y))) H
def rNe : R2 := fun x y H Q => scal x y = true ∧ Q (.bl (!decide (x = y))) H
theorem dec_int {i j : Int} : decide (V.int i = V.int j) = (i == j) := by
  rw [Bool.eq_iff_iff]
  simp
theorem dec_bl {i j : Bool} : decide (V.bl i = V.bl j) = (i == j) := by
  rw [Bool.eq_iff_iff]
  simp
theorem dec_str {i j : Str} : decide (V.str i = V.str j) = (i == j) := by
  rw [Bool.eq_iff_iff]
  simp
theorem dec_byt {i j : Array UInt8} : decide (V.byt i = V.byt j) = (i.toList == j.toList) := by
  rw [Bool.eq_iff_iff]
  cases i
  cases j
  simp
section
variable {X : Cx} {a b c : Expr} {ta tb tc : TE} {pos : Pos}
theorem fin_bl {pins : List (Addr × Obj)} {σ : St} {H : Hp} {s : Shared} {Q : VK} {k k' : Bool} (I : Inv X pins σ H s) (q : Q (.bl k) H) (e : k = k') : EP X pins σ Q (.bool k') s := by
  subst e
  exact ⟨.bl k, H, I, rfl, q⟩
theorem op_eq : OpR X (compareOp .Eq) rEq := by
  intro pins s σ H x y v u Q I rx ry h
  obtain ⟨hs, q⟩ := h
  cases x with
  | non =>
    cases rx
    cases y with
    | non => cases ry; exact PySem.EqNone.eq_none_none (fin_bl I q (by simp))
    | bl j => cases ry; exact PySem.EqNone.eq_none_bool (fin_bl I q (by simp))
    | int j => obtain ⟨t', rfl⟩ := ry; exact PySem.EqNone.eq_none_int (fin_bl I q (by simp))
    | str j => obtain ⟨t', rfl⟩ := ry; exact PySem.EqNone.eq_none_str (fin_bl I q (by simp))
    | _ => exact absurd (show false = true from hs) Bool.false_ne_true
  | bl i =>
    cases rx
    cases y with
    | non => cases ry; exact PySem.EqNone.eq_bool_none (fin_bl I q (by simp))
    | bl j => cases ry; exact eq_bool (fin_bl I q dec_bl)
    | str j => obtain ⟨t', rfl⟩ := ry; exact PySem.EqMixed.eq_bool_str (fin_bl I q (by simp))
    | _ => exact absurd (show false = true from hs) Bool.false_ne_true
  | int i =>
    obtain ⟨t, rfl⟩ := rx
    cases y with
    | non => cases ry; exact PySem.EqNone.eq_int_none (fin_bl I q (by simp))
    | int j => obtain ⟨t', rfl⟩ := ry; exact eq_int (fin_bl I q dec_int)
    | str j => obtain ⟨t', rfl⟩ := ry; exact PySem.EqMixed.eq_int_str (fin_bl I q (by simp))
    | _ => exact absurd (show false = true from hs) Bool.false_ne_true
  | str i =>
    obtain ⟨t, rfl⟩ := rx
    cases y with
    | non => cases ry; exact PySem.EqNone.eq_str_none (fin_bl I q (by simp))
    | bl j => cases ry; exact PySem.EqMixed.eq_str_bool (fin_bl I q (by simp))
    | int j => obtain ⟨t', rfl⟩ := ry; exact PySem.EqMixed.eq_str_int (fin_bl I q (by simp))
    | str j => obtain ⟨t', rfl⟩ := ry; exact eq_str (fin_bl I q dec_str)
    | _ => exact absurd (show false = true from hs) Bool.false_ne_true
  | byt i =>
    obtain ⟨t, rfl⟩ := rx
    cases y with
    | byt j => obtain ⟨t', rfl⟩ := ry; exact PySem.W.eq_bytes (fin_bl I q dec_byt)
    | _ => exact absurd (show false = true from hs) Bool.false_ne_true
  | _ => cases y <;> exact absurd (show false = true from hs) Bool.false_ne_true
theorem op_ne : OpR X (compareOp .NotEq) rNe := by
  intro pins s σ H x y v u Q I rx ry h
  obtain ⟨hs, q⟩ := h
  cases x with
  | non =>
    cases rx
    cases y with
    | non => cases ry; exact PySem.EqNone.ne_none_none (fin_bl I q (by simp))
    | bl j => cases ry; exact PySem.EqNone.ne_none_bool (fin_bl I q (by simp))
    | int j => obtain ⟨t', rfl⟩ := ry; exact PySem.EqNone.ne_none_int (fin_bl I q (by simp))
    | str j => obtain ⟨t', rfl⟩ := ry; exact PySem.EqNone.ne_none_str (fin_bl I q (by simp))
    | _ => exact absurd (show false = true from hs) Bool.false_ne_true
  | bl i =>
    cases rx
    cases y with
    | non => cases ry; exact PySem.EqNone.ne_bool_none (fin_bl I q (by simp))
    | bl j => cases ry; exact ne_bool (fin_bl I q (congrArg not dec_bl))
    | str j => obtain ⟨t', rfl⟩ := ry; exact PySem.EqMixed.ne_bool_str (fin_bl I q (by simp))
    | _ => exact absurd (show false = true from hs) Bool.false_ne_true
  | int i =>
    obtain ⟨t, rfl⟩ := rx
    cases y with
    | non => cases ry; exact PySem.EqNone.ne_int_none (fin_bl I q (by simp))
    | int j => obtain ⟨t', rfl⟩ := ry; exact ne_int (fin_bl I q (congrArg not dec_int))
    | str j => obtain ⟨t', rfl⟩ := ry; exact PySem.EqMixed.ne_int_str (fin_bl I q (by simp))
    | _ => exact absurd (show false = true from hs) Bool.false_ne_true
  | str i =>
    obtain ⟨t, rfl⟩ := rx
    cases y with
    | non => cases ry; exact PySem.EqNone.ne_str_none (fin_bl I q (by simp))
    | bl j => cases ry; exact PySem.EqMixed.ne_str_bool (fin_bl I q (by simp))
    | int j => obtain ⟨t', rfl⟩ := ry; exact PySem.EqMixed.ne_str_int (fin_bl I q (by simp))
    | str j => obtain ⟨t', rfl⟩ := ry; exact ne_str (fin_bl I q (congrArg not dec_str))
    | _ => exact absurd (show false = true from hs) Bool.false_ne_true
  | byt i =>
    obtain ⟨t, rfl⟩ := rx
    cases y with
    | byt j => obtain ⟨t', rfl⟩ := ry; exact PySem.W.ne_bytes (fin_bl I q (congrArg not dec_byt))
    | _ => exact absurd (show false = true from hs) Bool.false_ne_true
  | _ => cases y <;> exact absurd (show false = true from hs) Bool.false_ne_true
theorem op_lt : OpR X (compareOp .Lt) (rI0 fun i j => .bl (decide (i < j))) := opB0 fun _ _ _ _ _ _ _ q => lt_int q
theorem op_le : OpR X (compareOp .LtE) (rI0 fun i j => .bl (decide (i ≤ j))) := opB0 fun _ _ _ _ _ _ _ q => le_int q
theorem op_gt : OpR X (compareOp .Gt) (rI0 fun i j => .bl (decide (j < i))) := opB0 fun _ _ _ _ _ _ _ q => gt_int q
/-- two rules for one operation: by cases -/
theorem OpR.or {f : Value → Value → Sem Value} {r r' : R2} (h : OpR X f r) (h' : OpR X f r') : OpR X f (fun x y H Q => r x y H Q ∨ r' x y H Q) := by
  intro pins s σ H x y v u Q I rx ry q
  rcases q with q | q
  · exact h pins s σ H x y v u Q I rx ry q
  · exact h' pins s σ H x y v u Q I rx ry q
theorem nomark (b : Expr) {op : CmpOp} (h : op ≠ .In := by decide) (h2 : op ≠ .NotIn := by decide) : behindInMarks op b = false := by
  have e1 : (op == CmpOp.In) = false := by cases op <;> first | rfl | exact absurd rfl h
  have e2 : (op == CmpOp.NotIn) = false := by cases op <;> first | rfl | exact absurd rfl h2
  cases b <;> simp [behindInMarks, e1, e2]
/-- a comparison as a value; hm: nomark b, or (for in, not in) by with_unfolding_all rfl -/
theorem pe_cmpR {op : CmpOp} {r : R2} (ho : OpR X (compareOp op) r) (ha : PE X a ta) (hb : PE X b tb) (hm : behindInMarks op b = false) : PE X (.Compare a [op] [b] pos) (tOp r ta tb) := by
  intro pins s σ H Q I h
  exact wpAny_Compare1 (binT ha hb I h fun v u s2 x y H2 I2 rx ry q => ho pins s2 σ H2 x y v u Q I2 rx ry q) hm
/-- a reading of a value as a test -/
def tTest (t : TE) : TT := fun σ H Q => t σ H fun x H' => ∃ k, x = .bl k ∧ Q k H'
theorem pt_cmpR {op : CmpOp} {r : R2} (ho : OpR X (compareOp op) r) (ha : PE X a ta) (hb : PE X b tb) (hm : behindInMarks op b = false) : PT X (.Compare a [op] [b] pos) (tTest (tOp r ta tb)) := by
  intro pins s σ H Q I h
  refine wpAny_isTrue_Compare1 (thn (ha pins s σ H _ I h) fun v s1 ⟨x, H1, I1, r1, q1⟩ => thn (hb pins s1 σ H1 _ I1 q1) fun u s2 ⟨y, H2, I2, r2, q2⟩ =>
    thn (ho pins s2 σ H2 x y v u _ I2 r1 r2 q2) fun c s3 ⟨z, H3, I3, r3, k, e, q3⟩ => ?_) hm
  subst e
  cases r3
  exact wpAny_truthy_bool ⟨H3, I3, q3⟩
theorem line63 : (sizeLine : Nat) < 2 ^ 63 := by rw [sizeLine_eq]; decide
/-! ### scalar builtins, by CallR -/
theorem vals1 {x : V} {us : List Value} (r : Vals [x] us) : ∃ u, us = [u] ∧ RelV x u := by
  cases r with
  | cons r1 r2 => cases r2; exact ⟨_, rfl, r1⟩
theorem vals2 {x y : V} {us : List Value} (r : Vals [x, y] us) : ∃ u w', us = [u, w'] ∧ RelV x u ∧ RelV y w' := by
  cases r with
  | cons r1 r2 =>
    cases r2 with
    | cons r3 r4 => cases r4; exact ⟨_, _, rfl, r1, r3⟩
theorem call_abs : CallR X (.builtin "abs") (fun xs H Q => ∃ i, xs = [.int i] ∧ Q (.int (if i < 0 then -i else i)) H) := by
  intro pins s σ H xs us Q I r h
  obtain ⟨i, rfl, q⟩ := h
  obtain ⟨u, rfl, t, rfl⟩ := vals1 r
  exact call_abs_int fun u tk => ⟨.int (if i < 0 then -i else i), H, I.tok _, ⟨_, rfl⟩, q⟩
theorem call_max2 (hc : X.calm = true) : CallR X (.builtin "max") (fun xs H Q => ∃ i j, xs = [.int i, .int j] ∧ Q (.int (if j > i then j else i)) H) := by
  intro pins s σ H xs us Q I r h
  obtain ⟨i, j, rfl, q⟩ := h
  obtain ⟨u, w', rfl, ⟨t, rfl⟩, ⟨t', rfl⟩⟩ := vals2 r
  refine max_two_ints (I.ok.hd hc) fun h' tk k => ⟨_, H, I.kept k, ?_, q⟩
  by_cases hj : j > i
  · rw [if_pos hj, if_pos hj]; exact ⟨_, rfl⟩
  · rw [if_neg hj, if_neg hj]; exact ⟨_, rfl⟩
theorem call_min2 (hc : X.calm = true) : CallR X (.builtin "min") (fun xs H Q => ∃ i j, xs = [.int i, .int j] ∧ Q (.int (if j < i then j else i)) H) := by
  intro pins s σ H xs us Q I r h
  obtain ⟨i, j, rfl, q⟩ := h
  obtain ⟨u, w', rfl, ⟨t, rfl⟩, ⟨t', rfl⟩⟩ := vals2 r
  refine min_two_ints (I.ok.hd hc) fun h' tk k => ⟨_, H, I.kept k, ?_, q⟩
  by_cases hj : j < i
  · rw [if_pos hj, if_pos hj]; exact ⟨_, rfl⟩
  · rw [if_neg hj, if_neg hj]; exact ⟨_, rfl⟩
theorem call_int1 : CallR X (.type "int") (fun xs H Q => (∃ i, xs = [.int i] ∧ Q (.int i) H) ∨ ∃ k, xs = [.bl k] ∧ Q (.int (if k then 1 else 0)) H) := by
  intro pins s σ H xs us Q I r h
  rcases h with ⟨i, rfl, q⟩ | ⟨k, rfl, q⟩
  · obtain ⟨u, rfl, t, rfl⟩ := vals1 r
    exact call_int_int ⟨.int i, H, I, ⟨_, rfl⟩, q⟩
  · obtain ⟨u, rfl, r1⟩ := vals1 r
    cases r1
    exact call_int_bool ⟨.int (if k then 1 else 0), H, I.tok _, ⟨_, rfl⟩, q⟩
end
end L2
namespace L2
open PySem PySem.Spec PyProof.Rows
/-! ### an instance, its attributes a map -/
structure ObjM (h : Heap) (x dx C : Addr) (mA : Str → Option Value) : Prop where
  obj : h.get? x = some (PySem.W.instObj C dx)
  ns : h.Ns1 dx mA
  ne : dx ≠ x
theorem lookIn_ns {h : Heap} {dx : Addr} {mA : Str → Option Value} (n : h.Ns1 dx mA) : ∃ od, h.get? dx = some od ∧ ∀ name, PySem.W.lookIn name od = some (mA name) := by
  obtain ⟨o, es, ep, ho, hd, hk, _, hm⟩ := n
  refine ⟨o, ho, fun name => ?_⟩
  have e := hm name
  unfold nsFind findBy at e
  rw [← Array.find?_toList] at e
  unfold PySem.W.lookIn
  rw [hd]
  dsimp only
  split
  · rename_i y q
    rw [q] at e
    exact congrArg some e
  · rename_i q
    rw [q] at e
    have a : es.toList.any (·.refKey) = false := by
      rw [List.any_eq_false]
      intro y hy
      obtain ⟨z, t, hkey⟩ := hk y (Array.mem_toList_iff.mp hy)
      simp [DictEntry.refKey, hkey]
    have a' : ¬ es.toList.any (·.refKey) = true := by rw [a]; exact Bool.false_ne_true
    rw [if_neg a']
    exact congrArg some e
theorem ObjM.look {h : Heap} {x dx C : Addr} {mA : Str → Option Value} (I : ObjM h x dx C mA) : ∃ od, PySem.W.InstAt h x (PySem.W.instObj C dx) C (some od) ∧ ∀ name, PySem.W.lookIn name od = some (mA name) :=
  let ⟨od, ho, hl⟩ := lookIn_ns I.ns
  ⟨od, ⟨I.obj, rfl, rfl, ho⟩, hl⟩
theorem RelO.some_of {v : V} {o : Option Value} (r : RelO (some v) o) : ∃ u, o = some u ∧ RelV v u := by
  cases o with
  | none => exact (show False from r).elim
  | some u => exact ⟨u, rfl, r⟩
section
variable {P : Program} {w : World} {H H' : Hp} {h h' : Heap} {a C dx : Addr} {fs fs' : List (Str × V)}
theorem ins_get (hok : HOk P w H h) (e : H a = some (.ins C dx fs)) : ∃ mA, ObjM h a dx C mA ∧ (∀ f, RelO (fs.lookup f) (mA f)) ∧ PySem.Within mA (fs.map (·.1)) ∧ fs.length ≤ 1000 ∧ H dx = some (.own a) := by
  obtain ⟨d, z, ne, ob, mA, n, r, q⟩ := (show ObjOk P w H h a (.ins C dx fs) from hok a _ e)
  exact ⟨mA, ⟨ob, n, ne⟩, r, q, z, d⟩
end
/-! ### what of the text a class must have -/
structure Cls (K : PySem.W.Frag) (C : Addr) : Prop where
  pg : PySem.W.plainGet K C Str.empty = true
  hd : PySem.W.hasDictIn K C = true
  po : PySem.W.plainOver K C = true
  sa : PySem.W.findIn K (.ref C) "__setattr__" = some (some (.builtin "object.__setattr__"))
theorem Cls.get {K : PySem.W.Frag} {C : Addr} (c : Cls K C) (f : Str) : PySem.W.plainGet K C f = true := c.pg
section
variable {X : Cx} {pins : List (Addr × Obj)} {σ : St} {H : Hp} {s : Shared} {a C dx : Addr} {fs : List (Str × V)} {f : Str} {v : V} {A : Around} {E : Value → Shared → Prop}
/-- a new instance, tracked, without attributes -/
theorem Inv.made (I : Inv X pins σ H s) : Inv X pins σ (upd (upd H s.heap.objs.size (.own (s.heap.objs.size + 1))) (s.heap.objs.size + 1) (.ins C s.heap.objs.size []))
    { s with heap := (s.heap.push PySem.W.emptyDict).push (PySem.W.instObj C s.heap.objs.size) } := by
  have e1 : (s.heap.push PySem.W.emptyDict).get? s.heap.objs.size = some PySem.W.emptyDict := Heap.get?_push_size s.heap rfl
  have e2 : ((s.heap.push PySem.W.emptyDict).push (PySem.W.instObj C s.heap.objs.size)).get? (s.heap.objs.size + 1) = some (PySem.W.instObj C s.heap.objs.size) := by
    have := Heap.get?_push_size (s.heap.push PySem.W.emptyDict) (o := PySem.W.instObj C s.heap.objs.size) rfl
    rwa [Heap.size_push] at this
  have e3 : (s.heap.push PySem.W.emptyDict).Ns s.heap.objs.size (fun _ => none) := ⟨PySem.W.emptyDict, #[], _, e1, rfl, (fun e he => absurd he (by simp)), fun _ => rfl⟩
  have I1 := I.laid (a := s.heap.objs.size) (o := .own (s.heap.objs.size + 1)) (h' := s.heap.push PySem.W.emptyDict) (t' := s.toks) (fun b u q => Heap.get?_push_of_some _ q) (Nat.le_refl _) ⟨_, e1⟩
  refine I1.laid (a := s.heap.objs.size + 1) (o := .ins C s.heap.objs.size []) (t' := s.toks) (fun b u q => Heap.get?_push_of_some _ q) (Nat.le_of_eq (Heap.size_push _ _)) ?_
  have ne : s.heap.objs.size ≠ s.heap.objs.size + 1 := Nat.ne_of_lt (Nat.lt_succ_self _)
  refine ⟨by rw [upd_ne ne, upd_same], Nat.zero_le _, ne, e2, fun _ => none, (Heap.Ns1.of_empty e3).at fun o q => Heap.get?_push_of_some _ q, fun _ => True.intro, fun y hy => absurd rfl hy⟩
end
section
variable {X : Cx} {pins : List (Addr × Obj)} {σ : St} {H : Hp} {s : Shared} {A : Around} {E : Value → Shared → Prop} {Q : Value → Shared → Prop} {c : Value} {b : Bool}
/-- the type of a value, as the fragment's deciders take it; for an instance its class -/
inductive TyOf (K : PySem.W.Frag) (H : Hp) : V → Value → Prop where
  | non : TyOf K H .non (.type "NoneType")
  | bl (x : Bool) : TyOf K H (.bl x) (.type "bool")
  | int (i : Int) : TyOf K H (.int i) (.type "int")
  | str (x : Str) : TyOf K H (.str x) (.type "str")
  | flt (x : UInt64) : TyOf K H (.flt x) (.type "float")
  | lst {a : Addr} {xs : List V} (e : H a = some (.lst xs)) : TyOf K H (.ref a) (.type "list")
  | frz {a : Addr} {o : Obj} {xs : List V} (e : H a = some (.frz o (.lst xs))) : TyOf K H (.ref a) (.type "list")
  | tup {a : Addr} {xs : List V} (e : H a = some (.tup xs)) : TyOf K H (.ref a) (.type "tuple")
  | dK {a : Addr} {kvs : List (Key × V)} (e : H a = some (.dK kvs)) : TyOf K H (.ref a) (.type "dict")
  | dT {a : Addr} {kvs : List (List Key × V)} (e : H a = some (.dT kvs)) : TyOf K H (.ref a) (.type "dict")
  | ins {a C dx : Addr} {fs : List (Str × V)} (e : H a = some (.ins C dx fs)) (cl : Cls K C) (ha : PySem.W.findIn K (.ref C) "__class__" = some (some (.builtin "object.__class__")))
      (hn : PySem.W.specialIn K (.builtin "object.__class__") "__get__" = some (some (.builtin "getset_descriptor.__get__"))) (htk : PySem.W.takesIn K (.builtin "object.__class__") = some true)
      (hm : PySem.W.mroIn K C (.type "object") = some true) : TyOf K H (.ref a) (.ref C)
/-- isinstance(x, c) for one class c, a built-in or an own one: kitOne's answer -/
theorem isinst_ok {x : V} {u t : Value} (I : Inv X pins σ H s) (rx : RelV x u) (ty : TyOf X.K H x t) (e : PySem.W.kitOne X.K t c = some b) (h : ∀ tk, Q (.bool b) { s with toks := tk }) :
    wpAny (model X.prog X.w) A (call (.builtin "isinstance") [u, c]) Q E s := by
  cases ty with
  | non => cases (show u = Value.none from rx); exact PySem.W.kia_one PySem.W.kitx_none I.kIn True.intro e (fun z => nomatch z) h
  | bl y => cases (show u = Value.bool y from rx); exact PySem.W.kia_one PySem.W.kitx_bool I.kIn True.intro e (fun z => nomatch z) h
  | int i => obtain ⟨t, q⟩ := (show ∃ t, u = Value.int i t from rx); cases q; exact PySem.W.kia_one PySem.W.kitx_int I.kIn True.intro e (fun z => nomatch z) h
  | str y => obtain ⟨t, q⟩ := (show ∃ t, u = Value.str y t from rx); cases q; exact PySem.W.kia_one PySem.W.kitx_str I.kIn True.intro e (fun z => nomatch z) h
  | flt y => obtain ⟨t, q⟩ := (show ∃ t, u = Value.float y t from rx); cases q; exact PySem.W.kia_one PySem.W.kitx_float I.kIn True.intro e (fun z => nomatch z) h
  | @lst a xs ea =>
    cases (show u = Value.ref a from rx)
    obtain ⟨_, _, n, _, h1⟩ := (show ObjOk X.prog X.w H s.heap a (.lst xs) from I.hok a _ ea)
    exact PySem.W.kia_one PySem.W.kitx_list I.kIn ⟨_, h1, rfl⟩ e (fun z => nomatch z) h
  | @frz a ob xs ea =>
    cases (show u = Value.ref a from rx)
    obtain ⟨_, _, _, n, _, h1⟩ := (show ObjOk X.prog X.w H s.heap a (.frz ob (.lst xs)) from I.hok a _ ea)
    exact PySem.W.kia_one PySem.W.kitx_list I.kIn ⟨_, h1, rfl⟩ e (fun z => nomatch z) h
  | @tup a xs ea =>
    cases (show u = Value.ref a from rx)
    obtain ⟨_, _, _, p⟩ := (show ObjOk X.prog X.w H s.heap a (.tup xs) from I.hok a _ ea)
    obtain ⟨o, h1, h2, _⟩ := p
    exact PySem.W.kia_one PySem.W.kitx_tuple I.kIn ⟨o, h1, h2⟩ e (fun z => nomatch z) h
  | @dK a kvs ea =>
    cases (show u = Value.ref a from rx)
    obtain ⟨_, _, vs, _, p⟩ := (show ObjOk X.prog X.w H s.heap a (.dK kvs) from I.hok a _ ea)
    obtain ⟨o, es, ep, h1, h2, _⟩ := p
    exact PySem.W.kia_one PySem.W.kitx_dict I.kIn ⟨o, h1, h2.1⟩ e (fun z => nomatch z) h
  | @dT a kvs ea =>
    cases (show u = Value.ref a from rx)
    obtain ⟨_, _, xs, _, o, es, ep, h1, h2, _⟩ := (show ObjOk X.prog X.w H s.heap a (.dT kvs) from I.hok a _ ea)
    exact PySem.W.kia_one PySem.W.kitx_dict I.kIn ⟨o, h1, h2.1⟩ e (fun z => nomatch z) h
  | @ins a C dx fs ea cl ha hn htk hm =>
    cases (show u = Value.ref a from rx)
    obtain ⟨mA, O, _⟩ := ins_get I.hok ea
    obtain ⟨od, J, _⟩ := O.look
    exact PySem.W.kia_one (PySem.W.kitx_own (cl.get _) cl.hd ha hn htk hm) I.kIn J e (fun z => nomatch z) h
end
end L2
namespace L2
open PySem PySem.Spec PyProof.Rows
/-! ### room -/
structure Room (k : Nat) (A : Around) : Prop where
  hd : A.handled = none
  dp : A.depth + 3 * k + 5 < recursionLimit
  un : A.units + 16 * k + 200 < cLine
theorem Room.mono {j k : Nat} {A : Around} (r : Room k A) (h : j ≤ k) : Room j A := ⟨r.hd, by have := r.dp; omega, by have := r.un; omega⟩
theorem Room.deeper {k : Nat} {A : Around} (r : Room (k + 1) A) (env : Env) : Room k (A.deeper env) :=
  ⟨r.hd, by have := r.dp; show A.depth + 1 + 3 * k + 5 < _; omega, by have := r.un; show A.units + 3 + 16 * k + 200 < _; omega⟩
theorem Room.in1 {k : Nat} {A : Around} (r : Room (k + 1) A) : Room k A.in1 :=
  ⟨r.hd, by have := r.dp; show A.depth + 3 * k + 5 < _; omega, by have := r.un; show A.units + 1 + 16 * k + 200 < _; omega⟩
theorem Room.depth {k : Nat} {A : Around} (r : Room k A) : A.depth < recursionLimit := by have := r.dp; omega
theorem Room.units {k : Nat} {A : Around} (r : Room k A) : A.units + 64 < cLine := by have := r.un; omega
/-! ### argument lists and displays -/
def tNil : TA := fun _ H Q => Q [] H
def tCons (ta : TE) (tr : TA) : TA := fun σ H Q => ta σ H fun x H1 => tr σ H1 fun xs H2 => Q (x :: xs) H2
section
variable {X : Cx} {e : Expr} {es : List Expr} {te : TE} {t : TA} {pos : Pos}
theorem pa_nil : PA X [] tNil := fun _ _ _ _ H Q I h => Calls.spliced_nil ⟨[], H, I, .nil, h⟩
theorem pa_cons (ha : PE X e te) (hr : PA X es t) (hs : starEach (e :: es) X.env = (false, eval e X.env) :: starEach es X.env := by rfl) : PA X (e :: es) (tCons te t) := by
  intro pos pins s σ H Q I h
  rw [hs]
  show wpAny _ _ (spliced ((false, eval e X.env) :: backTo pos (starEach es X.env))) _ _ s
  refine Calls.spliced_cons (thn (ha pins s σ H _ I h) fun u s1 ⟨x, H1, I1, r1, q1⟩ => ?_)
  exact thn (hr pos pins s1 σ H1 _ I1 q1) fun us s2 ⟨xs, H2, I2, r2, q2⟩ => ⟨x :: xs, H2, I2, .cons r1 r2, q2⟩
/-- a tuple, a list of written items -/
def tTup (t : TA) : TE := fun σ H Q => t σ H fun xs H1 => xs.length ≤ sizeLine ∧ ∀ p, H1 p = none → Q (.ref p) (upd H1 p (.tup xs))
def tLst (t : TA) : TE := fun σ H Q => t σ H fun xs H1 => xs.length ≤ sizeLine ∧ ∀ p, H1 p = none → Q (.ref p) (upd H1 p (.lst xs))
theorem pe_tup {x1} (h : PA X es t) : PE X (.Tuple es x1 pos) (tTup t) := by
  intro pins s σ H Q I hq
  refine wpAny_Tuple_spliced (thn (h pos pins s σ H _ I hq) fun us s1 ⟨xs, H1, I1, r, z, q⟩ => ⟨by rw [← r.length]; exact z, ?_⟩)
  have hf : H1 s1.heap.objs.size = none := I1.hok.fresh (Nat.le_refl _)
  refine ⟨.ref s1.heap.objs.size, upd H1 s1.heap.objs.size (.tup xs), I1.laid (t' := s1.toks) (fun b u e => Heap.get?_push_of_some _ e) (Nat.le_refl _) ?_, rfl, q _ hf⟩
  exact ⟨z, us, r, ⟨_, Heap.get?_push_size _ rfl, rfl, rfl, _, rfl⟩⟩
theorem pe_lst (h : PA X es t) : PE X (.List es pos) (tLst t) := by
  intro pins s σ H Q I hq
  refine wpAny_List_spliced (thn (h pos pins s σ H _ I hq) fun us s1 ⟨xs, H1, I1, r, z, q⟩ => ⟨by rw [← r.length]; exact z, ?_⟩)
  have hf : H1 s1.heap.objs.size = none := I1.hok.fresh (Nat.le_refl _)
  refine ⟨.ref s1.heap.objs.size, upd H1 s1.heap.objs.size (.lst xs), I1.laid (t' := s1.toks) (fun b u e => Heap.get?_push_of_some _ e) (Nat.le_refl _) ?_, rfl, q _ hf⟩
  exact ⟨z, us, 0, r, Heap.get?_push_size _ rfl⟩
end
/-- a def's promise: the bound arguments in the parameters' order, the heap, the wanted end, the wanted exception -/
abbrev Sp := List V → Hp → VK → XK → Prop
/-- how an exception lies behind a call (file 08 gives it): the callers' frames, abstract heap and state ahead of the call, the wish, the exception, the state -/
abbrev CXT := List Env → Hp → Shared → XK → Value → Shared → Prop
/-- the state at a call -/
structure Env0 (P : Program) (w : World) (K : PySem.W.Frag) (mg : Str → Option Value) (base : Heap) (A : Around) (outer : List Env) (s : Shared) (H : Hp) : Prop where
  frames : A.frames = some outer
  mod : Mod K mg base
  bs : ∀ b o, base.get? b = some o → s.heap.get? b = some o ∧ H b = none
  bsz : base.objs.size ≤ s.heap.objs.size
  funs : s.heap.FunFrames base outer
  frf : ∀ b ∈ frs outer, H b = none
  hok : HOk P w H s.heap
  bare : AllBare s.gens
/-- a call's end -/
def CE (outer : List Env) (P : Program) (w : World) (H : Hp) (s : Shared) (Q : VK) (u : Value) (s' : Shared) : Prop :=
  ∃ v H', s'.os = s.os ∧ AllBare s'.gens ∧ Un (frs outer) [] H H' s.heap s'.heap ∧ HOk P w H' s'.heap ∧ RelV v u ∧ Q v H'
def CR (CX : CXT) (outer : List Env) (P : Program) (w : World) (H : Hp) (s : Shared) (Q : VK) (E : XK) (r : Result) (s' : Shared) : Prop :=
  match r with
  | .ok (.ret u) => CE outer P w H s Q u s'
  | .ok _ => False
  | .error e => CX outer H s E e s'
structure FnOk (P : Program) (w : World) (K : PySem.W.Frag) (mg : Str → Option Value) (base : Heap) (CX : CXT) (k : Nat) (f : Addr) (fd : FuncData) (ps : List Str) (sp : Sp) : Prop where
  len : ∀ vs H Q E, sp vs H Q E → vs.length = ps.length
  run : ∀ (A : Around) (outer : List Env) (s : Shared) (H : Hp) (args : Args) (us : List Value) (vs : List V) (Q : VK) (E : XK), Room k A → Env0 P w K mg base A outer s H → BindsTo s fd args (ps.zip us) → Vals vs us → sp vs H Q E →
    codeAny (model P w) A (.call (.ref f) args) (CR CX outer P w H s Q E) s
theorem FnOk.mono {P : Program} {w : World} {K : PySem.W.Frag} {mg : Str → Option Value} {base : Heap} {CX : CXT} {j k : Nat} {f : Addr} {fd : FuncData} {ps : List Str} {sp : Sp} (F : FnOk P w K mg base CX j f fd ps sp) (h : j ≤ k) :
    FnOk P w K mg base CX k f fd ps sp := ⟨F.len, fun A outer s H args us vs Q E hr => F.run A outer s H args us vs Q E (hr.mono h)⟩
/-- a weaker promise -/
theorem FnOk.imp {P : Program} {w : World} {K : PySem.W.Frag} {mg : Str → Option Value} {base : Heap} {CX : CXT} {k : Nat} {f : Addr} {fd : FuncData} {ps : List Str} {sp sp' : Sp} (F : FnOk P w K mg base CX k f fd ps sp)
    (h : ∀ vs H Q E, sp' vs H Q E → sp vs H Q E) : FnOk P w K mg base CX k f fd ps sp' :=
  ⟨fun vs H Q E q => F.len vs H Q E (h _ _ _ _ q), fun A outer s H args us vs Q E hr he hb hv hs => F.run A outer s H args us vs Q E hr he hb hv (h _ _ _ _ hs)⟩
theorem Env0.in1 {P : Program} {w : World} {K : PySem.W.Frag} {mg : Str → Option Value} {base : Heap} {A : Around} {outer : List Env} {s : Shared} {H : Hp} (e : Env0 P w K mg base A outer s H) :
    Env0 P w K mg base A.in1 outer s H := ⟨e.frames, e.mod, e.bs, e.bsz, e.funs, e.frf, e.hok, e.bare⟩
section
variable {X : Cx} {pins : List (Addr × Obj)} {σ : St} {H : Hp} {s s' : Shared}
/-- from a body: what a callee wants -/
theorem Inv.env0 (I : Inv X pins σ H s) : Env0 X.prog X.w X.K X.mg X.base X.A X.stack s H :=
  ⟨I.ok.frames, I.ok.mod, I.bs, Nat.le_trans I.ok.bsz I.sz, I.stack, I.stkFree, I.hok, I.bare⟩
/-- behind a call -/
theorem Inv.after {Q : VK} {u : Value} (I : Inv X pins σ H s) (h : CE X.stack X.prog X.w H s Q u s') : EP X pins σ Q u s' := by
  obtain ⟨v, H', os, bare, un, hok, r, q⟩ := h
  obtain ⟨hh, g, d, t, os'⟩ := s'
  obtain rfl : os' = s.os := os
  exact ⟨v, H', I.call (h' := hh) (g' := g) (d' := d) (t' := t) (ch := []) un hok bare (fun b z => absurd z (by simp)), r, q⟩
end
/-- f(..): the written arguments, then the defaults dvs; E: what is wanted of an exception -/
def tCall (sp : Sp) (dvs : List V) (E : XK) (t : TA) : TE := fun σ H Q => t σ H fun vs H1 => sp (vs ++ dvs) H1 Q E
/-- how the parameters are bound: us the positional arguments, kw the keywords' values by name, ds the defaults that fill up -/
def Binds (K : PySem.W.Frag) (fd : FuncData) (ps : List Str) (ds : List Value) : Prop :=
  ∀ (s : Shared) (us : List Value), K.In s.heap → (us ++ ds).length = ps.length → BindsTo s fd ⟨us, []⟩ (ps.zip (us ++ ds))
/-- every parameter is given -/
theorem Binds.all {K : PySem.W.Frag} {fd : FuncData} {ps : List Str} (h : ∀ us : List Value, us.length = ps.length → bindArgs fd ⟨us, []⟩ = pure (ps.zip us)) : Binds K fd ps [] := fun s us _ hl => by
  rw [List.append_nil] at hl ⊢
  exact .of_eq (h us hl)
/-- an exception of a callee reaches what this body wants of exceptions -/
def Passes (CX : CXT) (X : Cx) (E : XK) : Prop := ∀ (pins : List (Addr × Obj)) (σ : St) (H : Hp) (s : Shared) (e : Value) (s' : Shared), Inv X pins σ H s → CX X.stack H s E e s' → X.xe e s'
section
variable {X : Cx} {CX : CXT} {k : Nat} {f C : Addr} {fd : FuncData} {ps : List Str} {sp : Sp} {dvs : List V} {ds : List Value} {E : XK} {x m : Str} {p pos apos : Pos} {e o : Expr} {es : List Expr} {ta : TE} {t : TA}
/-- the callee runs -/
theorem run_fn {pins : List (Addr × Obj)} {σ : St} {H : Hp} {s : Shared} {Q : VK} {us : List Value} {vs : List V} (F : FnOk X.prog X.w X.K X.mg X.base CX k f fd ps sp) (hr : Room k X.A) (hb : Binds X.K fd ps ds) (hd : Vals dvs ds) (hx : Passes CX X E)
    (I : Inv X pins σ H s) (r : Vals vs us) (h : sp (vs ++ dvs) H Q E) : wpAny (model X.prog X.w) X.A (call (.ref f) us) (EP X pins σ Q) X.xe s := by
  have r2 : Vals (vs ++ dvs) (us ++ ds) := r.append hd
  have hl : (us ++ ds).length = ps.length := by rw [← r2.length]; exact F.len _ _ _ _ h
  refine wpAny_call (codeAny_mono (F.run X.A X.stack s H ⟨us, []⟩ (us ++ ds) (vs ++ dvs) Q E hr I.env0 (hb s us I.kIn hl) r2 h) fun r s' hq => ?_)
  cases r with
  | error e => exact hx pins σ H s e s' I hq
  | ok fl =>
    cases fl with
    | ret u => exact I.after hq
    | next => exact False.elim hq
    | brk => exact False.elim hq
    | cont => exact False.elim hq
theorem pe_call (F : FnOk X.prog X.w X.K X.mg X.base CX k f fd ps sp) (hr : Room k X.A) (hg : Gl X x) (hm : X.mg x = some (.ref f)) (hk : PySem.W.keepIn X.K (.ref f) = true) (hb : Binds X.K fd ps ds) (hd : Vals dvs ds) (hx : Passes CX X E)
    (ha : PA X (e :: es) t) (hdb : (x == ("__debug__" : Str)) = false := by decide) (he : starEach (e :: es) X.env = (false, eval e X.env) :: starEach es X.env := by rfl) (hpl : (backTo pos (starEach es X.env)).any (·.1) = false := by rfl) :
    PE X (.Call (.Name x p) (e :: es) [] pos) (tCall sp dvs E t) := by
  intro pins s σ H Q I h
  refine wpAny_Call_Name_kw (ld_glob I hg hm ?_ hdb)
  refine PySem.W.callWith_K (h₀ := X.base) I.ok.mod.kin hk (thn (ha pos pins s σ H _ I h) fun us s1 ⟨vs, H1, I1, r, q⟩ => ⟨I1.kIn, ?_⟩) he hpl
  exact run_fn F hr hb hd hx I1 r q
end
/-- names: the parameters first -/
structure FnScope (N P : List Str) (sc : Scope) : Prop where
  kind : sc.kind = .function
  co : sc.isCoroutine = false
  gen : sc.isGenerator = false
  nd : N.Nodup
  pre : N.take P.length = P
  par : ∀ x ∈ P, sc.names.lookup x = some .local ∨ sc.names.lookup x = some .cell
  nofree : ∀ y ∈ sc.names, y.2 ≠ .free
theorem bindL_out {kindOf : Str → Option NameKind} {x : Str} : ∀ {binds : List (Str × Value)} {m : Str → Option Value}, (∀ v, (x, v) ∉ binds) → bindL kindOf binds m x = m x
  | [], _, _ => rfl
  | (n, v) :: r, m, h => by
    unfold bindL
    rw [bindL_out fun w hw => h w (List.mem_cons_of_mem _ hw)]
    split
    · have : x ≠ n := by rintro rfl; exact h v List.mem_cons_self
      simp [this]
    · rfl
theorem bindC_out {kindOf : Str → Option NameKind} {x : Str} : ∀ {binds : List (Str × Value)} {m : Str → Option Value}, (∀ v, (x, v) ∉ binds) → bindC kindOf binds m x = m x
  | [], _, _ => rfl
  | (n, v) :: r, m, h => by
    unfold bindC
    rw [bindC_out fun w hw => h w (List.mem_cons_of_mem _ hw)]
    split
    · rfl
    · have : x ≠ n := by rintro rfl; exact h v List.mem_cons_self
      simp [this]
theorem bindL_get {kindOf : Str → Option NameKind} {x : Str} {v : Value} : ∀ {P : List Str} {vs : List Value} {i : Nat} {m : Str → Option Value}, P.Nodup → P[i]? = some x → vs[i]? = some v → kindOf x = some .local →
    bindL kindOf (P.zip vs) m x = some v
  | [], _, _, _, _, h, _, _ => by simp at h
  | _ :: _, [], _, _, _, _, h, _ => by simp at h
  | p :: P, w :: vs, 0, m, nd, h1, h2, hk => by
    simp at h1 h2; subst h1; subst h2
    show bindL kindOf ((p, w) :: P.zip vs) m p = _
    unfold bindL
    rw [bindL_out fun v hv => (List.nodup_cons.mp nd).1 (List.of_mem_zip hv).1, if_pos hk]
    simp
  | p :: P, w :: vs, i + 1, m, nd, h1, h2, hk => by
    show bindL kindOf ((p, w) :: P.zip vs) m x = _
    unfold bindL
    exact bindL_get (i := i) (List.nodup_cons.mp nd).2 (by simpa using h1) (by simpa using h2) hk
theorem bindC_get {kindOf : Str → Option NameKind} {x : Str} {v : Value} : ∀ {P : List Str} {vs : List Value} {i : Nat} {m : Str → Option Value}, P.Nodup → P[i]? = some x → vs[i]? = some v → kindOf x ≠ some .local →
    bindC kindOf (P.zip vs) m x = some v
  | [], _, _, _, _, h, _, _ => by simp at h
  | _ :: _, [], _, _, _, _, h, _ => by simp at h
  | p :: P, w :: vs, 0, m, nd, h1, h2, hk => by
    simp at h1 h2; subst h1; subst h2
    show bindC kindOf ((p, w) :: P.zip vs) m p = _
    unfold bindC
    rw [bindC_out fun v hv => (List.nodup_cons.mp nd).1 (List.of_mem_zip hv).1, if_neg hk]
    simp
  | p :: P, w :: vs, i + 1, m, nd, h1, h2, hk => by
    show bindC kindOf ((p, w) :: P.zip vs) m x = _
    unfold bindC
    exact bindC_get (i := i) (List.nodup_cons.mp nd).2 (by simpa using h1) (by simpa using h2) hk
/-- the names' values at the entry -/
def start (N : List Str) (vs : List V) : St := vs.map some ++ List.replicate (N.length - vs.length) none
/-- the context of a def's body, at its entry; an exception leaves the frame, then lies as CX says -/
def cxOf (CX : CXT) (P : Program) (w : World) (K : PySem.W.Frag) (mg : Str → Option Value) (base : Heap) (N : List Str) (qual : Str) (scope : Scope) (f : Addr) (cd : Value) (A : Around) (outer : List Env) (s : Shared) (H : Hp) (E : XK) : Cx where
  prog := P
  w := w
  K := K
  mg := mg
  base := base
  A := A.deeper (envOfC qual scope s.heap.objs.size f cd)
  N := N
  s_0 := s
  H_0 := H
  env := envOfC qual scope s.heap.objs.size f cd
  outer := outer
  stack := envOfC qual scope s.heap.objs.size f cd :: outer
  ex := []
  calm := true
  fn := fun _ => true
  pn := []
  xe := fun e s' => wpAny (model P w) (A.deeper (envOfC qual scope s.heap.objs.size f cd)) (leaving (envOfC qual scope s.heap.objs.size f cd) e) (fun _ s'' => CX outer H s E e s'') (fun e' s'' => CX outer H s E e' s'') s'
theorem cell_has {sc : Scope} {n : Nat} {x : Str} (h : sc.names.lookup x = some .cell) : ∃ c, (cellsFrom n sc.names []).lookup x = some c := by
  have q := PySem.W.cellsFrom_some sc.names n [] (.inl h)
  exact Option.isSome_iff_exists.mp q
theorem inv_start {CX : CXT} {P : Program} {w : World} {K : PySem.W.Frag} {mg : Str → Option Value} {base : Heap} {N ps : List Str} {qual : Str} {scope : Scope} {f : Addr} {cd : Value} {A : Around} {outer : List Env} {s s1 : Shared} {H : Hp} {E : XK} {us : List Value} {vs : List V}
    (S : FnScope N ps scope) (hd : A.handled = none) (e0 : Env0 P w K mg base A outer s H) (hl : vs.length = ps.length) (r : Vals vs us)
    (x : InCallC s s.heap.objs.size (bindL (envOfC qual scope s.heap.objs.size f cd).kindOf (ps.zip us) fun _ => none) (cellsFrom (s.heap.objs.size + 1) scope.names []) (bindC (envOfC qual scope s.heap.objs.size f cd).kindOf (ps.zip us) fun _ => none) s1) :
    Inv (cxOf CX P w K mg base N qual scope f cd A outer s H E) [] (start N vs) H s1 := by
  have hpl : ps.length ≤ N.length := by have := congrArg List.length S.pre; rw [List.length_take] at this; omega
  obtain ⟨h1, tk, rfl, hk⟩ := x.done
  have noA : ∀ b : Addr, b ∉ (cxOf CX P w K mg base N qual scope f cd A outer s H E).ex := fun b z => absurd (show b ∈ ([] : List Addr) from z) (by simp)
  refine ⟨⟨e0.mod, S.kind, rfl, rfl, Nat.le_refl _, fun y z c h1 h2 => ?_, fun y hy => ?_, fun y c _ h => ?_, fun _ => hd, Around.frames_deeper e0.frames, .inr ⟨rfl, rfl⟩, fun b z => absurd z (noA b), e0.bs, e0.bsz, fun b _ _ => noA b, fun b z => absurd z (noA b), e0.funs, e0.frf⟩,
    rfl, e0.bare, Un.kept hk, ⟨_, x.toInCall.ns, fun i y v h1 h2 h3 => ?_⟩, fun y c h => ⟨_, x.cell y c h⟩, e0.hok.fresh (Nat.le_refl _), fun y c h => ?_, fun p hp => absurd (show p ∈ ([] : List (Addr × Obj)) from hp) (by simp), e0.hok.kept hk, ?_⟩
  · exact name_of_addr x.apart (PySem.mem_of_lookup h1) (PySem.mem_of_lookup h2)
  · have hy : scope.names.lookup y = some .cell ∨ scope.names.lookup y = some .free := hy
    rcases hy with hy | hy
    · exact cell_has hy
    · exact absurd rfl (S.nofree _ (PySem.mem_of_lookup hy))
  · exact Nat.le_of_lt (x.above y c (PySem.mem_of_lookup h))
  · have hi : i < vs.length := by
      unfold start at h2
      by_cases hi : i < vs.length
      · exact hi
      · rw [List.getElem?_append_right (by simpa using hi)] at h2
        rw [List.getElem?_replicate] at h2
        split at h2 <;> cases h2
    have ha : vs[i]? = some v := by
      unfold start at h2
      rw [List.getElem?_append_left (by simpa using hi), List.getElem?_map] at h2
      cases e : vs[i]? with
      | none => rw [e] at h2; cases h2
      | some a => rw [e] at h2; cases h2; rfl
    obtain ⟨u, hu, rv⟩ := r.get ha
    have hp : ps[i]? = some y := by
      rw [← S.pre, List.getElem?_take_of_lt (by omega)]; exact h1
    have ndP : ps.Nodup := by rw [← S.pre]; exact S.nd.sublist (List.take_sublist _ _)
    refine ⟨u, rv, ?_⟩
    rcases S.par y (List.mem_of_getElem? hp) with k | k
    · exact .inl ⟨k, bindL_get ndP hp hu k⟩
    · obtain ⟨c, e⟩ := cell_has (n := s.heap.objs.size + 1) k
      refine .inr ⟨.inl k, c, e, ?_⟩
      have q := x.cell y c e
      rw [bindC_get ndP hp hu (by show scope.names.lookup y ≠ _; rw [k]; decide)] at q
      exact q
  · exact e0.hok.fresh (Nat.le_of_lt (x.above y c (PySem.mem_of_lookup h)))
  · unfold start
    show _ = N.length
    rw [List.length_append, List.length_map, List.length_replicate]
    omega
/-- THE RULE: a def (or a method) of the text, by its body. The body's reading t is chosen for each entry; it is run at the parameters' values -/
theorem fn_of {CX : CXT} {P : Program} {w : World} {K : PySem.W.Frag} {mg : Str → Option Value} {base : Heap} {k : Nat} {f : Addr} {name qual : Str} {params : Arguments} {body : List Stmt} {scope : Scope} {dV kV doc pm cdv ct oc : Value} {an od : Option Addr}
    {osl : Array (Option Value)} {N ps : List Str} {sp : Sp} (lk : K.lookup f = some ⟨oc, od, .func (PySem.W.fnOf name qual params body scope dV kV doc pm an cdv ct), osl⟩) (hcd : PySem.W.codeIn K cdv qual = true) (S : FnScope N ps scope)
    (len : ∀ vs H Q E, sp vs H Q E → vs.length = ps.length)
    (hbody : ∀ (A : Around) (outer : List Env) (s : Shared) (H : Hp) (vs : List V) (Q : VK) (E : XK), Room k (A.deeper (envOfC qual scope s.heap.objs.size f cdv)) → sp vs H Q E →
      ∃ t, PSs (cxOf CX P w K mg base N qual scope f cdv A outer s H E) body t ∧ t { nx := fun _ H' => Q .non H', rt := Q } (start N vs) H) :
    FnOk P w K mg base CX (k + 1) f (PySem.W.fnOf name qual params body scope dV kV doc pm an cdv ct) ps sp := by
  refine ⟨len, fun A outer s H args us vs Q E hr e0 hb r hsp => ?_⟩
  have hl := len _ _ _ _ hsp
  have KX : K.In s.heap := e0.mod.kin.keeps fun b o e => (e0.bs b o e).1
  have lim : s.heap.NoLimit := e0.mod.nolimit.keeps fun b o e => (e0.bs b o e).1
  have hkind : ∀ y ∈ ps.zip us, scope.names.lookup y.1 = some .local ∨ (scope.names.lookup y.1 = some .cell ∧ ((cellsFrom (s.heap.objs.size + 1) scope.names []).lookup y.1).isSome = true) := fun ⟨n, v⟩ hy => by
    rcases S.par n (List.of_mem_zip hy).1 with q | q
    · exact .inl q
    · exact .inr ⟨q, PySem.W.cellsFrom_some _ _ _ (.inl q)⟩
  refine codeAny_call_function hr.depth (KX _ _ lk) rfl S.co S.gen rfl (PySem.W.codeRec_of KX hcd) (hb _ _ _ _ ?_)
  refine wpAny_newFunctionEnv_cells S.kind hkind fun env he s1 x => ?_
  subst he
  refine ⟨lim.keeps x.toInCall.keep, codeAny_func ?_⟩
  obtain ⟨t, ht, hq⟩ := hbody A outer s H vs Q E (hr.deeper _) hsp
  have I : Inv (cxOf CX P w K mg base N qual scope f cdv A outer s H E) [] (start N vs) H s1 := inv_start S hr.hd e0 hl r x
  refine wpAny_mono (ht [] s1 (start N vs) H _ I hq) (fun fl s' hs => ?_) fun e s' hs => hs
  have fin : ∀ {σ' : St} {H' : Hp} {v : V} {u : Value}, Inv (cxOf CX P w K mg base N qual scope f cdv A outer s H E) [] σ' H' s' → RelV v u → Q v H' → CE outer P w H s Q u s' :=
    fun {σ' H' v u} J rv q => ⟨v, H', J.os, J.bare, J.base, J.hok, rv, q⟩
  cases fl with
  | ret u =>
    obtain ⟨v, σ', H', J, rv, q⟩ := hs
    exact fin J rv q
  | next =>
    obtain ⟨σ', H', J, q⟩ := hs
    exact fin (v := V.non) (u := Value.none) J rfl q
  | brk =>
    obtain ⟨_, _, _, q⟩ := hs
    exact False.elim q
  | cont =>
    obtain ⟨_, _, _, q⟩ := hs
    exact False.elim q
end L2
namespace L2
open PySem PySem.Spec PyProof.Rows
section
variable {X : Cx} {x : Str} {p pos : Pos} {e : Expr} {es : List Expr} {t : TA} {id T : String} {r : List V → Hp → VK → Prop}
def tCB (r : List V → Hp → VK → Prop) (t : TA) : TE := fun σ H Q => t σ H fun vs H1 => r vs H1 Q
/-- f(e, ..), f a built-in function -/
theorem pe_callB (hc : CallR X (.builtin id) r) (hg : Gl X x) (hm : X.mg x = none) (hv : bootBuiltins x = some (.builtin id)) (ha : PA X (e :: es) t) (hn : x ≠ "__name__" := by decide) (hdb : (x == ("__debug__" : Str)) = false := by decide)
    (he : starEach (e :: es) X.env = (false, eval e X.env) :: starEach es X.env := by rfl) (hpl : (backTo pos (starEach es X.env)).any (·.1) = false := by rfl) : PE X (.Call (.Name x p) (e :: es) [] pos) (tCB r t) := by
  intro pins s σ H Q I h
  refine wpAny_Call_Name_kw (ld_blt I hg hm hv ?_ hn hdb)
  exact PyProof.Rows.callWith_builtin1 (thn (ha pos pins s σ H _ I h) fun us s1 ⟨vs, H1, I1, r1, q1⟩ => hc pins s1 σ H1 vs us Q I1 r1 q1) he hpl
/-- T(e, ..), T a built-in type -/
theorem pe_callTy (hc : CallR X (.type T) r) (hg : Gl X x) (hm : X.mg x = none) (hv : bootBuiltins x = some (.type T)) (ha : PA X (e :: es) t) (hn : x ≠ "__name__" := by decide) (hdb : (x == ("__debug__" : Str)) = false := by decide)
    (he : starEach (e :: es) X.env = (false, eval e X.env) :: starEach es X.env := by rfl) (hpl : (backTo pos (starEach es X.env)).any (·.1) = false := by rfl) : PE X (.Call (.Name x p) (e :: es) [] pos) (tCB r t) := by
  intro pins s σ H Q I h
  refine wpAny_Call_Name_kw (ld_blt I hg hm hv ?_ hn hdb)
  exact PyProof.Rows.callWith_type1 (thn (ha pos pins s σ H _ I h) fun us s1 ⟨vs, H1, I1, r1, q1⟩ => hc pins s1 σ H1 vs us Q I1 r1 q1) he hpl
end
end L2
namespace HT
open PySem PyProof.Rows
section
open PySem.SeqAt
open PySem.AutoSeq1 (wpAny_loadPart')
open PySem.MeetsSeq PySem.MeetsSeq2 PySem.MeetsSeq3
end
section
variable {prog : Program} {w : World} {A : Around} {E : Value → Shared → Prop} {s : Shared}
/-- t + u, t not empty -/
theorem cat_tup {t b : Addr} {vs ws : List Value} {Q : Value → Shared → Prop} (ht : IsTup s.heap t vs.toArray) (hb : IsTup s.heap b ws.toArray) (hv : vs ≠ [])
    (h1 : ws = [] → Q (.ref t) s) (h2 : ws ≠ [] → Q (.ref s.heap.objs.size) { s with heap := s.heap.push { cls := .type "tuple", data := .seq (vs ++ ws).toArray } })
    (hsz : vs.length + ws.length ≤ sizeLine) : wpAny (model prog w) A (binaryOp .Add (.ref t) (.ref b)) Q E s := by
  obtain ⟨⟨cls, dd, data, sl⟩, ho, hc, n, hd⟩ := id ht
  obtain ⟨⟨cls2, dd2, data2, sl2⟩, ho2, hc2, n2, hd2⟩ := id hb
  simp only at hc hd hc2 hd2
  subst hc hd hc2 hd2
  have e : vs.toArray ++ ws.toArray = (vs ++ ws).toArray := by simp
  by_cases hw : ws = []
  · exact concat_meets ⟨_, ho, rfl⟩ ⟨_, ho2, rfl⟩ noFill_tuple_add seq_tuple_add PySem.F.slot_tuple_add PySem.F.entry_tuple_add (PySem.F.args_tuple_add_2 _ _)
      (tuple_addW1 t b vs.toArray ws.toArray n n2 dd dd2 sl sl2 (by simpa using hv) (by simp [hw])) ⟨ho, ho2, h1 hw⟩
  · refine concat_meets ⟨_, ho, rfl⟩ ⟨_, ho2, rfl⟩ noFill_tuple_add seq_tuple_add PySem.F.slot_tuple_add PySem.F.entry_tuple_add (PySem.F.args_tuple_add_2 _ _)
      (tuple_addW2 t b vs.toArray ws.toArray n n2 dd dd2 sl sl2 (by simpa using hv) (by simpa using hw) (by rw [List.size_toArray, List.size_toArray]; exact hsz)) ⟨ho, ho2, ?_⟩
    rw [e]
    exact h2 hw
/-- a slice's bound as a place among n (d where it is left out) -/
def sIx (n d : Nat) : Option Int → Nat
  | none => d
  | some v => if v < 0 then (v + (n : Int)).toNat else min v.toNat n
theorem sIx_none (n d : Nat) : sIx n d none = d := rfl
end
end HT
namespace L2
open PySem PySem.Spec PyProof.Rows
/-! ### the parts of a slice -/
abbrev TO := St → Hp → (Option Int → Hp → Prop) → Prop
/-- a slice's part (left out, or an int) -/
def PO (X : Cx) (e : Option Expr) (t : TO) : Prop :=
  ∀ (pins : List (Addr × Obj)) (s : Shared) (σ : St) (H : Hp) (Q : Option Int → Hp → Prop), Inv X pins σ H s → t σ H Q →
    wpAny (model X.prog X.w) X.A (evalPart e X.env) (fun u s' => ∃ o H', Inv X pins σ H' s' ∧ IsPart u o ∧ Q o H') X.xe s
def tNoPart : TO := fun _ H Q => Q none H
def tPart (t : TE) : TO := fun σ H Q => t σ H fun x H1 => ∃ i, x = .int i ∧ Q (some i) H1
section
variable {X : Cx} {e : Expr} {te : TE} {lo hi : Option Expr} {tl th : TO} {pos p2 : Pos}
theorem po_none : PO X none tNoPart := by
  intro pins s σ H Q I h
  rw [evalPart_none]
  exact wpAny_pure ⟨none, H, I, .none, h⟩
theorem po_some (h : PE X e te) : PO X (some e) (tPart te) := by
  intro pins s σ H Q I hw
  rw [evalPart_some]
  refine thn (h pins s σ H _ I hw) fun u s1 ⟨x, H1, I1, r1, q1⟩ => ?_
  obtain ⟨i, rfl, q⟩ := q1
  obtain ⟨t, rfl⟩ := r1
  exact ⟨some i, H1, I1, .int i t, q⟩
/-- what a slice of a value is, by values: the slice object stands at sl -/
def SlR (X : Cx) (r : V → Option Int → Option Int → Hp → VK → Prop) : Prop :=
  ∀ (pins : List (Addr × Obj)) (s : Shared) (σ : St) (H : Hp) (x : V) (v vl vu : Value) (lo hi : Option Int) (sl : Addr) (Q : VK), Inv X pins σ H s → RelV x v → s.heap.IsSliceOf sl vl vu .none → IsPart vl lo → IsPart vu hi → r x lo hi H Q →
    ∃ T id, typeLookup (.type T) "__getitem__" = pure (some (.builtin id)) ∧ s.TypeIs v T ∧ wpAny (model X.prog X.w) X.A (getItem v (.ref sl)) (EP X pins σ Q) X.xe s
theorem SlR.or {r r' : V → Option Int → Option Int → Hp → VK → Prop} (h : SlR X r) (h' : SlR X r') : SlR X (fun x lo hi H Q => r x lo hi H Q ∨ r' x lo hi H Q) := by
  intro pins s σ H x v vl vu lo hi sl Q I rx hs pl pu q
  rcases q with q | q
  · exact h pins s σ H x v vl vu lo hi sl Q I rx hs pl pu q
  · exact h' pins s σ H x v vl vu lo hi sl Q I rx hs pl pu q
def tSl (r : V → Option Int → Option Int → Hp → VK → Prop) (te : TE) (tl th : TO) : TE := fun σ H Q => te σ H fun x H1 => tl σ H1 fun l H2 => th σ H2 fun u H3 => r x l u H3 Q
/-- a[lo:hi], any a -/
theorem pe_slice {r : V → Option Int → Option Int → Hp → VK → Prop} (hr : SlR X r) (he : PE X e te) (hl : PO X lo tl) (hu : PO X hi th) : PE X (.Subscript e (.Slice lo hi none p2) pos) (tSl r te tl th) := by
  intro pins s σ H Q I h
  refine Subscript_ (thn (he pins s σ H _ I h) fun v s1 ⟨x, H1, I1, r1, q1⟩ => ?_)
  refine wpAny_Slice (thn (hl pins s1 σ H1 _ I1 q1) fun vl s2 ⟨l, H2, I2, pl, q2⟩ => thn (hu pins s2 σ H2 _ I2 q2) fun vu s3 ⟨u, H3, I3, pu, q3⟩ => ?_)
  rw [evalPart_none]
  refine wpAny_pure ?_
  have I4 : Inv X pins σ H3 { s3 with heap := s3.heap.push { cls := .type "slice", data := .fields #[vl, vu, .none] } } := I3.kept (t' := s3.toks) fun b ob q => Heap.get?_push_of_some _ q
  obtain ⟨T, id, hT, ht, hg⟩ := hr pins { s3 with heap := s3.heap.push { cls := .type "slice", data := .fields #[vl, vu, .none] } } σ H3 x v vl vu l u s3.heap.objs.size Q I4 r1 (Heap.IsSliceOf.new ..) pl pu q3
  show wpAny (model X.prog X.w) X.A (subscriptTail e (.Slice lo hi none p2) v (.ref s3.heap.objs.size)) (EP X pins σ Q) X.xe { s3 with heap := s3.heap.push { cls := .type "slice", data := .fields #[vl, vu, .none] } }
  exact tail_any (ops := [.ref s3.heap.objs.size, v]) ht hT hg (by with_unfolding_all rfl)
/-- the items of xs[lo:hi] -/
def cutV (xs : List V) (lo hi : Option Int) : List V := (xs.drop (HT.sIx xs.length 0 lo)).take (HT.sIx xs.length xs.length hi - HT.sIx xs.length 0 lo)
theorem cutV_length (xs : List V) (lo hi : Option Int) : (cutV xs lo hi).length ≤ xs.length := by
  unfold cutV
  rw [List.length_take, List.length_drop]
  omega
/-- t + u, t not empty: u empty gives t itself -/
def rCatT (K : PySem.W.Frag) : R2 := fun x y H Q => ∃ a b xs ys, x = .ref a ∧ y = .ref b ∧ SqT K H a xs ∧ SqT K H b ys ∧ xs ≠ [] ∧ xs.length + ys.length ≤ sizeLine ∧
  (ys = [] → Q (.ref a) H) ∧ (ys ≠ [] → ∀ p, H p = none → Q (.ref p) (upd H p (.tup (xs ++ ys))))
theorem Vals.nil_iff {xs : List V} {us : List Value} (r : Vals xs us) : us = [] ↔ xs = [] := by
  cases r with
  | nil => simp
  | cons _ _ => simp
theorem op_catT : OpR X (binaryOp .Add) (rCatT X.K) := by
  intro pins s σ H x y v u Q I rx ry h
  obtain ⟨a, b, xs, ys, rfl, rfl, ha, hb, hx, hz, q1, q2⟩ := h
  cases rx
  cases ry
  obtain ⟨its, r1, p1, _⟩ := I.tuple ha
  obtain ⟨its2, r2, p2, _⟩ := I.tuple hb
  refine HT.cat_tup p1 p2 (fun z => hx (r1.nil_iff.mp z)) (fun z => ⟨.ref a, H, I, rfl, q1 (r2.nil_iff.mp z)⟩) (fun z => ?_) (by rw [← r1.length, ← r2.length]; exact hz)
  refine ⟨.ref s.heap.objs.size, _, I.laid (t' := s.toks) (o := .tup (xs ++ ys)) (fun b ob q => Heap.get?_push_of_some _ q) (Nat.le_refl _) ?_, rfl, q2 (fun w => z (r2.nil_iff.mpr w)) _ (I.hok.fresh (Nat.le_refl _))⟩
  exact ⟨by rw [List.length_append]; exact hz, _, r1.append r2, IsTupD.new _ _⟩
end
end L2
namespace L2
open PySem PySem.Spec PyProof.Rows
/-- the place that an index of any sign means -/
def ixN (n : Nat) (i : Int) : Option Nat := if 0 ≤ i then (if i < n then some i.toNat else none) else if -(n : Int) ≤ i then some (i + n).toNat else none
def atI {α : Type} (xs : List α) (i : Int) : Option α := (ixN xs.length i).bind fun j => xs[j]?
theorem ixN_seq {n : Nat} {i : Int} {j : Nat} (h : ixN n i = some j) : seqIndex? i n = some j ∧ j < n ∧ -(n : Int) ≤ i ∧ i < n := by
  unfold ixN at h
  by_cases h0 : 0 ≤ i
  · rw [if_pos h0] at h
    by_cases h1 : i < n
    · rw [if_pos h1] at h
      have e : i.toNat = j := Option.some.inj h
      exact ⟨by rw [seqIndex_of h0 h1, e], by omega, by omega, h1⟩
    · rw [if_neg h1] at h; cases h
  · rw [if_neg h0] at h
    by_cases h1 : -(n : Int) ≤ i
    · rw [if_pos h1] at h
      have e : (i + n).toNat = j := Option.some.inj h
      exact ⟨by rw [seqIndex_neg (by omega) h1, e], by omega, h1, by omega⟩
    · rw [if_neg h1] at h; cases h
theorem atI_get {α : Type} {xs : List α} {i : Int} {v : α} (h : atI xs i = some v) : ∃ j, seqIndex? i xs.length = some j ∧ xs[j]? = some v ∧ j < xs.length ∧ -(xs.length : Int) ≤ i ∧ i < xs.length := by
  unfold atI at h
  cases e : ixN xs.length i with
  | none => rw [e] at h; cases h
  | some j =>
    rw [e] at h
    obtain ⟨h1, h2, h3, h4⟩ := ixN_seq e
    exact ⟨j, h1, h, h2, h3, h4⟩
theorem atI_nat {α : Type} {xs : List α} {j : Nat} {v : α} (h : xs[j]? = some v) : atI xs (j : Int) = some v := by
  have hj : j < xs.length := (List.getElem?_eq_some_iff.mp h).1
  have e : ixN xs.length (j : Int) = some j := by
    unfold ixN
    rw [if_pos (by omega), if_pos (by omega)]; simp
  unfold atI; rw [e]; exact h
theorem atI_last {α : Type} (xs : List α) (v : α) : atI (xs ++ [v]) (-1) = some v := by
  have hl : (xs ++ [v]).length = xs.length + 1 := by simp
  have e : ixN (xs ++ [v]).length (-1) = some xs.length := by
    unfold ixN
    rw [hl, if_neg (by decide), if_pos (by omega)]
    congr 1
    omega
  unfold atI
  rw [e]
  show (xs ++ [v])[xs.length]? = some v
  simp
/-- what stands as an index of a plain subscript -/
def PlainIx (b : Expr) : Prop := ∀ o i, subscripted b false o i = operate [o, i] (getItem o i)
/-- a subscript by values -/
def IxR (X : Cx) (r : R2) : Prop :=
  ∀ (value slice : Expr) (pins : List (Addr × Obj)) (s : Shared) (σ : St) (H : Hp) (x y : V) (v u : Value) (Q : VK), Inv X pins σ H s → RelV x v → RelV y u → r x y H Q →
    subscripted slice false v u = operate [v, u] (getItem v u) → wpAny (model X.prog X.w) X.A (subscriptTail value slice v u) (EP X pins σ Q) X.xe s
/-- a call of a builtin's method by values: the receiver, the arguments -/
def MtR (X : Cx) (id : String) (r : V → List V → Hp → VK → Prop) : Prop :=
  ∀ (pins : List (Addr × Obj)) (s : Shared) (σ : St) (H : Hp) (x : V) (xs : List V) (v : Value) (us : List Value) (Q : VK), Inv X pins σ H s → RelV x v → Vals xs us → r x xs H Q →
    wpAny (model X.prog X.w) X.A (call (.builtin id) (v :: us)) (EP X pins σ Q) X.xe s
section
variable {X : Cx} {a b : Expr} {ta tb : TE} {pos : Pos}
theorem IxR.or {r r' : R2} (h : IxR X r) (h' : IxR X r') : IxR X (fun x y H Q => r x y H Q ∨ r' x y H Q) := by
  intro value slice pins s σ H x y v u Q I rx ry q hs
  rcases q with q | q
  · exact h value slice pins s σ H x y v u Q I rx ry q hs
  · exact h' value slice pins s σ H x y v u Q I rx ry q hs
theorem MtR.or {id : String} {r r' : V → List V → Hp → VK → Prop} (h : MtR X id r) (h' : MtR X id r') : MtR X id (fun x xs H Q => r x xs H Q ∨ r' x xs H Q) := by
  intro pins s σ H x xs v us Q I rx rs q
  rcases q with q | q
  · exact h pins s σ H x xs v us Q I rx rs q
  · exact h' pins s σ H x xs v us Q I rx rs q
/-- a[b] -/
theorem pe_ix {r : R2} (hr : IxR X r) (ha : PE X a ta) (hb : PE X b tb) (hs : PlainIx b) : PE X (.Subscript a b pos) (tOp r ta tb) := by
  intro pins s σ H Q I h
  exact Subscript_ (binT ha hb I h fun v u s2 x y H2 I2 rx ry q => hr a b pins s2 σ H2 x y v u Q I2 rx ry q (hs _ _))
def rIxL (K : PySem.W.Frag) : R2 := fun x y H Q => ∃ p xs i v, x = .ref p ∧ y = .int i ∧ SqL K H p xs ∧ atI xs i = some v ∧ Q v H
def rIxT (K : PySem.W.Frag) : R2 := fun x y H Q => ∃ p xs i v, x = .ref p ∧ y = .int i ∧ SqT K H p xs ∧ atI xs i = some v ∧ Q v H
theorem ix_list : IxR X (rIxL X.K) := by
  intro value slice pins s σ H x y v u Q I rx ry h hs
  obtain ⟨p, xs, i, z, rfl, rfl, hq, he, q⟩ := h
  cases rx
  obtain ⟨t, rfl⟩ := ry
  obtain ⟨its, r, pl, hz⟩ := I.list hq
  obtain ⟨j, h1, h2, h3, h4, h5⟩ := atI_get he
  obtain ⟨w, ew, rw'⟩ := r.get h2
  have hl := r.length
  have hn := line63
  have fin : EP X pins σ Q w s := ⟨z, H, I, rw', q⟩
  by_cases h0 : 0 ≤ i
  · have hj : i.toNat = j := by
      rw [seqIndex_of h0 h5] at h1
      exact Option.some.inj h1
    exact item_listR pl.isList h0 (by omega) (by rw [hj]; simpa using ew) fin hs
  · have hj : (i + (its.toArray.size : Int)).toNat = j := by
      rw [seqIndex_neg (by omega) h4] at h1
      rw [List.size_toArray, ← hl]
      exact Option.some.inj h1
    exact subscriptTail_builtinR (x := w) pl.isList.typeIs slot_list_getitem.lookup
      (wpAny_getItem_list_neg (Q := fun r s' => r = w ∧ EP X pins σ Q r s') pl.isList (by omega) (by rw [List.size_toArray] <;> omega) (by omega) (by rw [hj]; simpa using ew) ⟨rfl, fin⟩) hs
theorem ix_tup : IxR X (rIxT X.K) := by
  intro value slice pins s σ H x y v u Q I rx ry h hs
  obtain ⟨p, xs, i, z, rfl, rfl, hq, he, q⟩ := h
  cases rx
  obtain ⟨t, rfl⟩ := ry
  obtain ⟨its, r, pl, hz⟩ := I.tuple hq
  obtain ⟨j, h1, h2, h3, h4, h5⟩ := atI_get he
  obtain ⟨w, ew, rw'⟩ := r.get h2
  have hl := r.length
  have hn := line63
  have fin : EP X pins σ Q w s := ⟨z, H, I, rw', q⟩
  exact subscriptTail_builtinR (x := w) pl.typeIs slot_tuple_getitem.lookup
    (getItem_tuple (j := j) (Q := fun r s' => r = w ∧ EP X pins σ Q r s') pl (by omega) (by omega) (by rw [List.size_toArray, ← hl]; exact h1) (by simpa using ew) ⟨rfl, fin⟩) hs
/-- the list's object behind a store -/
theorem mapSeq_set (its : List Value) (n j : Nat) (u : Value) : Obj.mapSeq (·.setIfInBounds j u) { cls := .type "list", data := .seq its.toArray n } = { cls := .type "list", data := .seq (its.set j u).toArray n } := by
  simp [Obj.mapSeq]
theorem Inv.lst {pins : List (Addr × Obj)} {σ : St} {H : Hp} {s : Shared} {p : Addr} {xs : List V} (I : Inv X pins σ H s) (h : H p = some (.lst xs)) :
    ∃ (its : List Value) (n : Nat), Vals xs its ∧ s.heap.get? p = some { cls := .type "list", data := .seq its.toArray n } ∧ xs.length ≤ sizeLine := by
  obtain ⟨z, its, n, r, e⟩ := I.hok p _ h
  exact ⟨its, n, r, e, z⟩
/-- the list at p is written by an update of its object -/
theorem Inv.lstUpd {pins : List (Addr × Obj)} {σ : St} {H : Hp} {s : Shared} {p : Addr} {xs ys : List V} {its its' : List Value} {n n' : Nat} {f : Obj → Obj} (I : Inv X pins σ H s) (h : H p = some (.lst xs))
    (ho : s.heap.get? p = some { cls := .type "list", data := .seq its.toArray n }) (hf : f { cls := .type "list", data := .seq its.toArray n } = { cls := .type "list", data := .seq its'.toArray n' }) (r : Vals ys its') (hz : ys.length ≤ sizeLine) (t : Nat) :
    Inv X pins σ (upd H p (.lst ys)) { s with heap := s.heap.update p f, toks := t } := by
  have e : (s.heap.update p f).get? p = some { cls := .type "list", data := .seq its'.toArray n' } := by
    rw [Heap.get?_update_self f ho (by rw [hf] <;> rfl), hf]
  refine I.write (x := p) (e := p) (by rw [h]; trivial) (.inl rfl) (fun b u hb q => (Heap.get?_update_other _ _ (Ne.symm hb)).trans q) ⟨_, e⟩ ?_
  exact ⟨hz, its', n', r, e⟩
def rSetL : V → V → V → Hp → (Hp → Prop) → Prop := fun o i v H Q => ∃ p xs k j, o = .ref p ∧ i = .int k ∧ H p = some (.lst xs) ∧ ixN xs.length k = some j ∧ Q (upd H p (.lst (xs.set j v)))
theorem set_list : PSet X rSetL := by
  intro pins s σ H o i v ov iv u Q I ro ri rv h
  obtain ⟨p, xs, k, j, rfl, rfl, hp, hj, q⟩ := h
  cases ro
  obtain ⟨t, rfl⟩ := ri
  obtain ⟨its, n, r, ho, hz⟩ := I.lst hp
  obtain ⟨h1, h2, h3, h4⟩ := ixN_seq hj
  have hl := r.length
  have hn := line63
  have I' : Inv X pins σ (upd H p (.lst (xs.set j v))) { s with heap := s.heap.update p (Obj.mapSeq (·.setIfInBounds j u)) } :=
    I.lstUpd hp ho (mapSeq_set its n j u) (r.set rv j) (by rw [List.length_set]; exact hz) s.toks
  by_cases h0 : 0 ≤ k
  · have hk : k.toNat = j := by
      rw [seqIndex_of h0 h4] at h1
      exact Option.some.inj h1
    exact PySem.W.ki_setAt ho h0 (by omega) (by rw [List.size_toArray, ← hl]; exact h4) (by rw [hk]; exact ⟨_, I', q⟩)
  · have hk : (k + (its.toArray.size : Int)).toNat = j := by
      rw [seqIndex_neg (by omega) h3] at h1
      rw [List.size_toArray, ← hl]
      exact Option.some.inj h1
    exact PySem.W.ki_setBack ho (by omega) (by rw [List.size_toArray, ← hl]; exact h3) (by omega) (by rw [hk]; exact ⟨_, I', q⟩)
/-! ### slices -/
theorem slice_bounds (lo hi : Option Int) (n : Nat) : (sliceBounds lo hi none n).1 = ((HT.sIx n 0 lo : Nat) : Int) ∧ (sliceBounds lo hi none n).2.1 = ((HT.sIx n n hi : Nat) : Int) ∧ (sliceBounds lo hi none n).2.2 = 1 := by
  refine ⟨?_, ?_, rfl⟩
  · cases lo with
    | none => simp [sliceBounds, HT.sIx]
    | some i =>
      simp only [sliceBounds, HT.sIx, Option.getD_none, show (1 : Int) > 0 by decide, if_true]
      by_cases h : i < 0
      · simp only [h, if_true] <;> omega
      · simp only [h, if_false] <;> omega
  · cases hi with
    | none => simp [sliceBounds, HT.sIx]
    | some i =>
      simp only [sliceBounds, HT.sIx, Option.getD_none, show (1 : Int) > 0 by decide, if_true]
      by_cases h : i < 0
      · simp only [h, if_true] <;> omega
      · simp only [h, if_false] <;> omega
theorem slicePick_cut (its : List Value) (lo hi : Option Int) : slicePick its.toArray lo hi none = ((its.drop (HT.sIx its.length 0 lo)).take (HT.sIx its.length its.length hi - HT.sIx its.length 0 lo)).toArray := by
  obtain ⟨h1, h2, h3⟩ := slice_bounds lo hi its.toArray.size
  unfold slicePick
  rw [h1, h2, h3]
  simp only [sliceRange_one, pick_run, List.size_toArray] <;> rfl
/-- xs[lo:hi] of a list: a new list -/
def rSlL (K : PySem.W.Frag) : V → Option Int → Option Int → Hp → VK → Prop := fun x lo hi H Q => ∃ a xs, x = .ref a ∧ SqL K H a xs ∧ ∀ p, H p = none → Q (.ref p) (upd H p (.lst (cutV xs lo hi)))
theorem sl_list : SlR X (rSlL X.K) := by
  intro pins s σ H x v vl vu lo hi sl Q I rx hs pl pu h
  obtain ⟨a, xs, rfl, hx, q⟩ := h
  cases rx
  obtain ⟨its, r, ht, hz⟩ := I.list hx
  have hlen := r.length
  refine ⟨"list", _, slot_list_getitem.lookup, ht.isList.typeIs, ?_⟩
  refine wpAny_getItem_list_slice ht.isList hs pl pu .none (by simp) ?_ (by rw [List.size_toArray] <;> omega)
  rw [slicePick_cut, ← hlen]
  refine ⟨.ref s.heap.objs.size, _, I.laid (t' := s.toks) (o := .lst (cutV xs lo hi)) (fun b ob q => Heap.get?_push_of_some _ q) (Nat.le_refl _) ?_, rfl, q _ (I.hok.fresh (Nat.le_refl _))⟩
  exact ⟨Nat.le_trans (cutV_length xs lo hi) hz, _, 0, (r.drop (HT.sIx xs.length 0 lo)).take (HT.sIx xs.length xs.length hi - HT.sIx xs.length 0 lo), Heap.get?_push_size _ rfl⟩
/-! ### in, not in: flat items -/
def flatV : V → Bool
  | .non => true
  | .bl _ => true
  | .int _ => true
  | .str _ => true
  | _ => false
/-- == of flat values -/
def eqV : V → V → Bool
  | .non, .non => true
  | .bl a, .bl b => a == b
  | .bl a, .int b => (if a then 1 else 0) == b
  | .int a, .bl b => a == (if b then 1 else 0)
  | .int a, .int b => a == b
  | .str a, .str b => a == b
  | _, _ => false
theorem eqAt_V {A : Around} {s : Shared} {y x : V} {u v : Value} (ry : RelV y u) (rx : RelV x v) (fy : flatV y = true) (fx : flatV x = true) : SeqAt.EqAt A s u v (eqV y x) := by
  cases y with
  | non =>
    cases ry
    cases x with
    | non => cases rx; exact SeqAt.EqAt.same _
    | bl b => cases rx; exact SeqAt.EqAt.none_bool b
    | int b => obtain ⟨t, rfl⟩ := rx; exact SeqAt.EqAt.none_int b t
    | str b => obtain ⟨t, rfl⟩ := rx; exact SeqAt.EqAt.none_str b t
    | _ => exact absurd (show false = true from fx) Bool.false_ne_true
  | bl a =>
    cases ry
    cases x with
    | non => cases rx; exact SeqAt.EqAt.bool_none a
    | bl b => cases rx; exact SeqAt.EqAt.bool_bool a b
    | int b => obtain ⟨t, rfl⟩ := rx; exact SeqAt.EqAt.bool_int a b t
    | str b => obtain ⟨t, rfl⟩ := rx; exact SeqAt.EqAt.bool_str a b t
    | _ => exact absurd (show false = true from fx) Bool.false_ne_true
  | int a =>
    obtain ⟨t', rfl⟩ := ry
    cases x with
    | non => cases rx; exact SeqAt.EqAt.int_none a t'
    | bl b => cases rx; exact SeqAt.EqAt.int_bool a t' b
    | int b => obtain ⟨t, rfl⟩ := rx; exact SeqAt.EqAt.int_int a t' b t
    | str b => obtain ⟨t, rfl⟩ := rx; exact SeqAt.EqAt.int_str a t' b t
    | _ => exact absurd (show false = true from fx) Bool.false_ne_true
  | str a =>
    obtain ⟨t', rfl⟩ := ry
    cases x with
    | non => cases rx; exact SeqAt.EqAt.str_none a t'
    | bl b => cases rx; exact SeqAt.EqAt.str_bool a t' b
    | int b => obtain ⟨t, rfl⟩ := rx; exact SeqAt.EqAt.str_int a t' b t
    | str b => obtain ⟨t, rfl⟩ := rx; exact SeqAt.EqAt.str_str a t' b t
    | _ => exact absurd (show false = true from fx) Bool.false_ne_true
  | _ => exact absurd (show false = true from fy) Bool.false_ne_true
/-- the items' answers, read off the values (a value's own answer does not lean on its token) -/
def eqU (x : V) (u : Value) : Bool := match u with
  | .none => eqV .non x
  | .bool b => eqV (.bl b) x
  | .int i _ => eqV (.int i) x
  | .str z _ => eqV (.str z) x
  | _ => false
theorem eqU_of {x y : V} {u : Value} (r : RelV y u) (f : flatV y = true) : eqU x u = eqV y x := by
  cases y with
  | non => cases r; rfl
  | bl b => cases r; rfl
  | int i => obtain ⟨t, rfl⟩ := r; rfl
  | str z => obtain ⟨t, rfl⟩ := r; rfl
  | _ => exact absurd (show false = true from f) Bool.false_ne_true
theorem mem_eqAt {A : Around} {s : Shared} {x : V} {v : Value} (rx : RelV x v) (fx : flatV x = true) : ∀ {xs : List V} {us : List Value}, Vals xs us → xs.all flatV = true → ∀ u ∈ us, SeqAt.EqAt A s u v (eqU x u)
  | _, _, .nil, _ => fun u hu => by cases hu
  | y :: xs, u :: us, .cons r t, f => fun u' hu => by
    rw [List.all_cons, Bool.and_eq_true] at f
    rcases List.mem_cons.mp hu with rfl | hu
    · rw [eqU_of r f.1]; exact eqAt_V r rx f.1 fx
    · exact mem_eqAt rx fx t f.2 u' hu
/-! ### len, list(x), tuple(x) of any list or tuple that is read -/
theorem call_len_seq : CallR X (.builtin "len") (fun xs H Q => ∃ p ys, xs = [.ref p] ∧ (SqL X.K H p ys ∨ SqT X.K H p ys) ∧ Q (.int ys.length) H) := by
  intro pins s σ H xs us Q I r h
  obtain ⟨p, ys, rfl, hq, q⟩ := h
  obtain ⟨u, rfl, rx⟩ := vals1 r
  cases rx
  have hn := line63
  rcases hq with hq | hq
  · obtain ⟨its, r', pl, hz⟩ := I.list hq
    have hlen := r'.length
    exact Calls.call_len_list pl.isList (by simp only [List.size_toArray] <;> omega) ⟨.int ys.length, H, I.tok _, ⟨s.toks + 1, by rw [List.size_toArray, hlen]⟩, q⟩
  · obtain ⟨its, r', pl, hz⟩ := I.tuple hq
    have hlen := r'.length
    exact len_tuple pl (by simp only [List.size_toArray] <;> omega) ⟨.int ys.length, H, I.tok _, ⟨s.toks + 1, by rw [List.size_toArray, hlen]⟩, q⟩
theorem CallR.or {f : Value} {r r' : List V → Hp → VK → Prop} (h : CallR X f r) (h' : CallR X f r') : CallR X f (fun xs H Q => r xs H Q ∨ r' xs H Q) := by
  intro pins s σ H xs us Q I rs q
  rcases q with q | q
  · exact h pins s σ H xs us Q I rs q
  · exact h' pins s σ H xs us Q I rs q
theorem call_tuple_of : CallR X (.type "tuple") (fun xs H Q => ∃ p ys, xs = [.ref p] ∧ ((SqL X.K H p ys ∧ ∀ l, H l = none → Q (.ref l) (upd H l (.tup ys))) ∨ (SqT X.K H p ys ∧ Q (.ref p) H))) := by
  intro pins s σ H xs us Q I r h
  obtain ⟨p, ys, rfl, h⟩ := h
  obtain ⟨u, rfl, rx⟩ := vals1 r
  cases rx
  rcases h with ⟨hq, q⟩ | ⟨hq, q⟩
  · obtain ⟨its, r', pl, hz⟩ := I.list hq
    have hlen := r'.length
    refine call_tuple_list pl.isList (fun h' kp => ?_) (by simp only [List.size_toArray] <;> omega)
    have I1 : Inv X pins σ H { s with heap := h' } := I.kept (t' := s.toks) kp
    have I2 : Inv X pins σ (upd H h'.objs.size (.tup ys)) { s with heap := h'.push { cls := .type "tuple", data := .seq its.toArray } } :=
      I1.laid (t' := s.toks) (fun b o e => Heap.get?_push_of_some _ e) (Nat.le_refl _) (show ObjOk X.prog X.w _ _ _ (.tup ys) from ⟨hz, its, r', IsTupD.new _ _⟩)
    exact ⟨.ref h'.objs.size, _, I2, rfl, q _ (I1.hok.fresh (Nat.le_refl _))⟩
  · obtain ⟨its, r', pl, hz⟩ := I.tuple hq
    exact call_tuple_same pl ⟨.ref p, H, I, rfl, q⟩
/-- the value is of that builtin type -/
def tyV (K : PySem.W.Frag) (T : String) (x : V) (H : Hp) : Prop := match x with
  | .str _ => T = "str"
  | .int _ => T = "int"
  | .ref p => (T = "list" ∧ ∃ xs, SqL K H p xs) ∨ (T = "tuple" ∧ ∃ o, K.lookup p = some o ∧ o.cls = .type "tuple" ∧ o.dict = none) ∨
      (T = "dict" ∧ ((∃ kvs, H p = some (.dK kvs)) ∨ ∃ kvs, H p = some (.dT kvs))) ∨ (T = "set" ∧ ∃ S n, H p = some (.set S n))
  | _ => False
theorem tyV_is {pins : List (Addr × Obj)} {σ : St} {H : Hp} {s : Shared} {T : String} {x : V} {v : Value} (I : Inv X pins σ H s) (r : RelV x v) (ty : tyV X.K T x H) :
    s.TypeIs v T ∧ ∀ a, v = .ref a → ∃ ob, s.heap.get? a = some ob ∧ ob.dict = none := by
  cases x with
  | str z =>
    obtain ⟨t, rfl⟩ := r
    cases (show T = "str" from ty)
    exact ⟨typeIs_str s z t, fun _ e => nomatch e⟩
  | int i =>
    obtain ⟨t, rfl⟩ := r
    cases (show T = "int" from ty)
    exact ⟨typeIs_int s i t, fun _ e => nomatch e⟩
  | ref p =>
    cases r
    rcases ty with ⟨rfl, xs, hq⟩ | ⟨rfl, o, hk, hc, hd⟩ | ⟨rfl, hk⟩ | ⟨rfl, S, n, hk⟩
    · obtain ⟨its, _, pl, _⟩ := I.list hq
      refine ⟨pl.isList.typeIs, fun a e => ?_⟩
      cases e
      obtain ⟨o, n, e, c, hd, _⟩ := pl
      exact ⟨o, e, hd⟩
    · refine ⟨⟨o, I.kIn p o hk, hc⟩, fun a e => ?_⟩
      cases e
      exact ⟨o, I.kIn _ o hk, hd⟩
    · have z : ∃ o, s.heap.get? p = some o ∧ o.ExactDict := by
        rcases hk with ⟨kvs, hk⟩ | ⟨kvs, hk⟩
        · obtain ⟨_, _, _, _, o, _, _, e, ex, _⟩ := I.hok p _ hk
          exact ⟨o, e, ex⟩
        · obtain ⟨_, _, _, _, o, _, _, e, ex, _⟩ := I.hok p _ hk
          exact ⟨o, e, ex⟩
      obtain ⟨o, e, ex⟩ := z
      refine ⟨⟨o, e, ex.1⟩, fun a e2 => ?_⟩
      cases e2
      exact ⟨o, e, ex.2.1⟩
    · obtain ⟨o, _, _, _, e, ex, _⟩ := I.hok p _ hk
      refine ⟨⟨o, e, ex.1⟩, fun a e2 => ?_⟩
      cases e2
      exact ⟨o, e, ex.2.1⟩
  | _ => exact False.elim ty
def tBM (K : PySem.W.Frag) (T : String) (r : V → List V → Hp → VK → Prop) (to : TE) (t : TA) : TE := fun σ H Q => to σ H fun x H1 => tyV K T x H1 ∧ t σ H1 fun xs H2 => r x xs H2 Q
variable {o e : Expr} {es : List Expr} {to : TE} {t : TA} {name : Str} {apos cpos : Pos} {T id : String} {r : V → List V → Hp → VK → Prop}
theorem pe_bm (pa : PlainAttrs T) (slot : Slot T name id) (hty : typeOf (.builtin id) = pure (.type "method_descriptor")) (hm : MtR X id r) (ho : PE X o to) (ha : PA X (e :: es) t)
    (hbase : attributeBase o name X.env (eval o X.env) = eval o X.env := by rfl)
    (hfew : ((backTo cpos (starEach (e :: es) X.env)).all (fun x => !x.1) && (backToKw cpos (keywordEach [] X.env)).all (fun x => x.1.isSome)
      && decide ((e :: es).length + ([] : List Keyword).length + (if ([] : List Keyword).isEmpty then 0 else 1) < 30)) = true := by rfl)
    (hline : (apos.endLine == cpos.line) = true := by rfl) (hs : starEach (e :: es) X.env = (false, eval e X.env) :: starEach es X.env := by rfl) (hplain : (backTo cpos (starEach es X.env)).any (·.1) = false := by rfl) :
    PE X (.Call (.Attribute o name apos) (e :: es) [] cpos) (tBM X.K T r to t) := by
  intro pins s σ H Q I h
  refine wpAny_Call_method_late hbase hfew hline rfl (thn (ho pins s σ H _ I h) fun v s1 ⟨x, H1, I1, r1, ty, q1⟩ => ?_)
  obtain ⟨h1, h2⟩ := tyV_is I1 r1 ty
  refine ⟨T, id, pa, slot, hty, h1, h2, ?_⟩
  have hA := ha cpos pins s1 σ H1 _ I1 q1
  rw [hs] at hA ⊢
  refine Calls.callWith_builtin (by show (false || (backTo cpos (starEach es X.env)).any (·.1)) = false; rw [hplain] <;> rfl) (Calls.evalArgs_plain ?_)
  exact thn hA fun us s2 ⟨vs, H2, I2, r2, q2⟩ => hm pins s2 σ H2 x vs v us Q I2 r1 r2 q2
end
end L2
namespace L2
open PySem PySem.Spec PyProof.Rows
def MtM (X : Cx) (id : String) (r : V → List V → Hp → VK → Prop) : Prop :=
  ∀ (pins : List (Addr × Obj)) (s : Shared) (σ : St) (H : Hp) (x : V) (xs : List V) (v : Value) (us : List Value) (Q : VK), Inv X pins σ H s → RelV x v → Vals xs us → r x xs H Q →
    wpAny (model X.prog X.w) X.A (call (.builtin id) (v :: us)) (EP X pins σ Q) X.xe s
/-! ### lists of values -/
theorem Vals.one : ∀ {x : V} {us : List Value}, Vals [x] us → ∃ u, us = [u] ∧ RelV x u
  | _, _, .cons r .nil => ⟨_, rfl, r⟩
theorem Vals.two : ∀ {x y : V} {us : List Value}, Vals [x, y] us → ∃ u v, us = [u, v] ∧ RelV x u ∧ RelV y v
  | _, _, _, .cons r (.cons q .nil) => ⟨_, _, rfl, r, q⟩
theorem Vals.zero : ∀ {us : List Value}, Vals [] us → us = []
  | _, .nil => rfl
theorem Vals.dropLast {xs : List V} {us : List Value} (h : Vals xs us) : Vals xs.dropLast us.dropLast := by
  induction h with
  | nil => exact .nil
  | cons r t ih =>
    cases t with
    | nil => exact .nil
    | cons q t' => exact .cons r ih
theorem Vals.eraseIdx : ∀ {xs : List V} {us : List Value} (i : Nat), Vals xs us → Vals (xs.eraseIdx i) (us.eraseIdx i)
  | _, _, _, .nil => .nil
  | _, _, 0, .cons _ t => t
  | _, _, i + 1, .cons r t => .cons r (Vals.eraseIdx i t)
theorem Vals.reverse {xs : List V} {us : List Value} (h : Vals xs us) : Vals xs.reverse us.reverse := by
  induction h with
  | nil => exact .nil
  | cons r t ih => rw [List.reverse_cons, List.reverse_cons]; exact Vals.append ih (.cons r .nil)
theorem len_erase {α : Type} : ∀ (l : List α) (i : Nat), (l.eraseIdx i).length ≤ l.length
  | [], _ => Nat.le_refl _
  | _ :: _, 0 => Nat.le_succ _
  | _ :: r, i + 1 => Nat.succ_le_succ (len_erase r i)
section
variable {X : Cx} {pins : List (Addr × Obj)} {σ : St} {H : Hp} {s : Shared} {l b : Addr} {xs ys zs : List V}
/-! ### the two steps: a tracked list is rewritten, a new list is laid -/
theorem Inv.lset {its its' : List Value} {n : Nat} {f : Array Value → Array Value} {t' : Nat} (I : Inv X pins σ H s) (hH : H l = some (.lst xs))
    (e : s.heap.get? l = some { cls := .type "list", data := .seq its.toArray n }) (hf : f its.toArray = its'.toArray) (hv : Vals ys its') (hz : ys.length ≤ sizeLine) :
    Inv X pins σ (upd H l (.lst ys)) { s with heap := s.heap.update l (Obj.mapSeq f), toks := t' } := by
  have q := PySem.IsL.update e f
  rw [hf] at q
  refine I.write (x := l) (e := l) (by rw [hH]; exact trivial) (.inl rfl) (fun b' u hb hu => (Heap.get?_update_other s.heap (Obj.mapSeq f) (Ne.symm hb)).trans hu) ⟨_, q⟩ ?_
  exact ⟨hz, its', _, hv, q⟩
theorem Inv.fresh (I : Inv X pins σ H s) : H s.heap.objs.size = none := I.hok.fresh (Nat.le_refl _)
theorem Inv.lstM (I : Inv X pins σ H s) (hH : H l = some (.lst xs)) : xs.length ≤ sizeLine ∧ ∃ (its : List Value) (n : Nat), Vals xs its ∧ xs.length = its.length ∧ s.heap.get? l = some { cls := .type "list", data := .seq its.toArray n } := by
  obtain ⟨z, its, n, r, e⟩ := I.hok l _ hH
  exact ⟨z, its, n, r, r.length, e⟩
end
section
variable {X : Cx}
/-! ### methods -/
def rAppend : V → List V → Hp → VK → Prop := fun x vs H Q => ∃ l xs y, x = .ref l ∧ vs = [y] ∧ H l = some (.lst xs) ∧ xs.length < sizeLine ∧ Q .non (upd H l (.lst (xs ++ [y])))
theorem mt_append : MtM X "list.append" rAppend := by
  intro pins s σ H x vs v us Q I rx rv h
  obtain ⟨l, xs, y, rfl, rfl, hH, hz, q⟩ := h
  cases rx
  obtain ⟨u, rfl, ru⟩ := rv.one
  obtain ⟨z, its, n, r, hl, e⟩ := I.lstM hH
  refine call_meets F.slot_list_append ⟨_, e, rfl⟩ F.entry_list_append (F.args_list_append_2 _ _) (PySem.list_append l its.toArray n u (by rw [List.size_toArray]; omega)) ⟨e, ?_⟩
  refine ⟨.non, _, I.lset (its' := its ++ [u]) hH e (by simp) (r.append (.cons ru .nil)) ?_, rfl, q⟩
  rw [List.length_append, List.length_singleton]
  omega
def rPopAt : V → List V → Hp → VK → Prop := fun x vs H Q => ∃ l xs i k y, x = .ref l ∧ vs = [.int i] ∧ H l = some (.lst xs) ∧ -(2 ^ 63) ≤ i ∧ i < 2 ^ 63 ∧ seqIndex? i xs.length = some k ∧ xs[k]? = some y ∧ Q y (upd H l (.lst (xs.eraseIdx k)))
theorem mt_popAt : MtM X "list.pop" rPopAt := by
  intro pins s σ H x vs v us Q I rx rv h
  obtain ⟨l, xs, i, k, y, rfl, rfl, hH, h1, h2, hk, hy, q⟩ := h
  cases rx
  obtain ⟨u, rfl, ru⟩ := rv.one
  obtain ⟨t, rfl⟩ := ru
  obtain ⟨z, its, n, r, hl, e⟩ := I.lstM hH
  obtain ⟨w, hw, rw'⟩ := r.get hy
  refine call_meets F.slot_list_pop ⟨_, e, rfl⟩ F.entry_list_pop (F.args_list_pop_2 _ _)
    (MeetsSeq.list_pop_at l its.toArray n i t k w (fitsIndex_both h1 h2) (by rw [List.size_toArray, ← hl]; exact hk) (by rw [← Array.getElem?_toList]; exact hw) (by rw [List.size_toArray]; omega)) ⟨e, ?_⟩
  refine ⟨y, _, I.lset (its' := its.eraseIdx k) hH e ?_ (r.eraseIdx k) ?_, rw', q⟩
  · show its.toArray.eraseIdxIfInBounds k = (its.eraseIdx k).toArray
    rw [List.eraseIdxIfInBounds_toArray]
  · have := len_erase xs k
    omega
end
section
variable {prog : Program} {w : World} {A : Around} {E : Value → Shared → Prop} {s : Shared}
set_option maxRecDepth 100000 in
end
end L2
namespace L2
open PySem PySem.Spec PyProof.Rows
theorem Vals.ints : ∀ {ns : List Int} {us : List Value}, Vals (ns.map V.int) us → IntsAre us ns
  | [], us, h => by
    rw [List.map_nil] at h
    cases h
    exact IntsAre.nil
  | n :: ns, us, h => by
    rw [List.map_cons] at h
    cases h with
    | cons r t =>
      obtain ⟨k, rfl⟩ := r
      exact IntsAre.cons n k (Vals.ints t)
theorem vals_of_ints : ∀ {us : List Value} {ns : List Int}, IntsAre us ns → Vals (ns.map V.int) us
  | _, _, .nil => by rw [List.map_nil]; exact Paired.nil
  | _, _, .cons n t h => by rw [List.map_cons]; exact Paired.cons (show RelV (V.int n) (Value.int n t) from ⟨t, rfl⟩) (vals_of_ints h)
theorem Vals.ref1 {a : Addr} {us : List Value} (r : Vals [V.ref a] us) : us = [Value.ref a] := by
  cases r with
  | cons r t =>
    cases t
    cases r
    rfl
section
variable {X : Cx}
/-! sorted, sort (fewer than 64 items: the library's own bound) -/
def rSorted (K : PySem.W.Frag) : List V → Hp → VK → Prop := fun vs H Q => ∃ (a : Addr) (ns : List Int), vs = [V.ref a] ∧ SqL K H a (ns.map V.int) ∧ ns.length < 64 ∧
  ∀ (ns' : List Int) (p : Addr), ns'.Perm ns → ns'.Pairwise (· ≤ ·) → H p = none → Q (.ref p) (upd H p (.lst (ns'.map V.int)))
theorem small64 {n : Nat} (h : n < 64) : n ≤ sizeLine := by rw [sizeLine_eq]; omega
theorem cr_sorted : CallR X (.builtin "sorted") (rSorted X.K) := by
  intro pins s σ H vs us Q I r h
  obtain ⟨a, ns, rfl, hs, h64, q⟩ := h
  obtain ⟨its, rv, hl, _⟩ := I.list hs
  rw [Vals.ref1 r]
  have hi := rv.ints
  refine PyProof.Rows.sorted_ints hl.isList hi (by rw [hi.length]; exact h64) fun out ns' h1 h2 h3 => ?_
  obtain ⟨ep, he'⟩ := PyProof.Rows.sortedAll_at s.heap its out
  have hlen : (ns'.map V.int).length ≤ sizeLine := by rw [List.length_map, h2.length_eq]; exact small64 h64
  exact ⟨.ref _, upd H (s.heap.objs.size + 1) (.lst (ns'.map V.int)), I.laid (t' := s.toks) (fun _ _ => PyProof.Rows.sortedAll_old) (Nat.le_succ _) ⟨hlen, out.toList, ep, vals_of_ints h1, he'⟩, rfl, q ns' _ h2 h3 (I.hok.fresh (Nat.le_succ _))⟩
end
section
variable {X : Cx}
theorem flat_at {ys : List V} (f : ys.all flatV = true) {j : Nat} {z : V} (h : ys[j]? = some z) : flatV z = true := List.all_eq_true.mp f z (List.mem_of_getElem? h)
end
mutual
inductive Dp (K : PySem.W.Frag) (H : Hp) : V → PyData → Prop
  | non : Dp K H .non .none
  | bl (b : Bool) : Dp K H (.bl b) (.bool b)
  | int (i : Int) : Dp K H (.int i) (.int i)
  | str (x : Str) : Dp K H (.str x) (.str x)
  | lst {a : Addr} {xs : List V} {ds : List PyData} : SqL K H a xs → DpAll K H xs ds → Dp K H (.ref a) (.list ds)
  | tup {a : Addr} {xs : List V} {ds : List PyData} : SqT K H a xs → DpAll K H xs ds → Dp K H (.ref a) (.tuple ds)
inductive DpAll (K : PySem.W.Frag) (H : Hp) : List V → List PyData → Prop
  | nil : DpAll K H [] []
  | cons {v : V} {vs : List V} {d : PyData} {ds : List PyData} : Dp K H v d → DpAll K H vs ds → DpAll K H (v :: vs) (d :: ds)
end
section
variable {X : Cx} {pins : List (Addr × Obj)} {σ : St} {H : Hp} {s : Shared}
mutual
theorem Dp.reads (I : Inv X pins σ H s) : ∀ (d : PyData) (v : V) (u : Value), Dp X.K H v d → RelV v u → ∃ as, Reads s.heap u d as
  | .none, _, _, h, r => by
    cases h
    cases r
    exact ⟨_, Reads.none⟩
  | .bool b, _, _, h, r => by
    cases h
    cases r
    exact ⟨_, Reads.bool b⟩
  | .int i, _, _, h, r => by
    cases h
    obtain ⟨t, rfl⟩ := r
    exact ⟨_, Reads.int i t⟩
  | .str x, _, _, h, r => by
    cases h
    obtain ⟨t, rfl⟩ := r
    exact ⟨_, Reads.str x t⟩
  | .list ds, _, _, h, r => by
    cases h with
    | lst hs ha =>
      cases r
      obtain ⟨its, rv, ⟨o, n, ho, hc, _, hd⟩, _⟩ := I.list hs
      obtain ⟨as, hr⟩ := Dp.readsAll I ds _ its ha rv
      exact ⟨_, Reads.list ho hc hd hr⟩
  | .tuple ds, _, _, h, r => by
    cases h with
    | tup hs ha =>
      cases r
      obtain ⟨its, rv, ⟨o, ho, hc, n, hd⟩, _⟩ := I.tuple hs
      obtain ⟨as, hr⟩ := Dp.readsAll I ds _ its ha rv
      exact ⟨_, Reads.tuple ho hc hd hr⟩
  | .dict _, _, _, h, _ => by cases h
theorem Dp.readsAll (I : Inv X pins σ H s) : ∀ (ds : List PyData) (vs : List V) (us : List Value), DpAll X.K H vs ds → Vals vs us → ∃ as, ReadsAll s.heap us ds as
  | [], _, _, h, r => by
    cases h
    cases r
    exact ⟨_, ReadsAll.nil⟩
  | d :: ds, _, _, h, r => by
    cases h with
    | cons h1 h2 =>
      cases r with
      | cons r1 r2 =>
        obtain ⟨as, q1⟩ := Dp.reads I d _ _ h1 r1
        obtain ⟨bs, q2⟩ := Dp.readsAll I ds _ _ h2 r2
        exact ⟨_, ReadsAll.cons q1 q2⟩
end
end
section
variable {X : Cx}
def rEqD (K : PySem.W.Frag) : R2 := fun x y H Q => ∃ d e, Dp K H x d ∧ Dp K H y e ∧ SeqAt.shaped d = true ∧ SeqAt.shaped e = true ∧ Q (.bl (PyData.eqv d e)) H
def rNeD (K : PySem.W.Frag) : R2 := fun x y H Q => ∃ d e, Dp K H x d ∧ Dp K H y e ∧ SeqAt.shaped d = true ∧ SeqAt.shaped e = true ∧ Q (.bl (!PyData.eqv d e)) H
theorem op_eqD (hu : X.A.units + 64 < cLine) : OpR X (compareOp .Eq) (rEqD X.K) := by
  intro pins s σ H x y v u Q I rx ry h
  obtain ⟨d, e, hd, he, sd, se, q⟩ := h
  obtain ⟨as, r1⟩ := Dp.reads I d x v hd rx
  obtain ⟨bs, r2⟩ := Dp.reads I e y u he ry
  exact SeqAt.compareEq_shaped r1 r2 sd se hu ⟨.bl _, H, I, rfl, q⟩
theorem op_neD (hu : X.A.units + 64 < cLine) : OpR X (compareOp .NotEq) (rNeD X.K) := by
  intro pins s σ H x y v u Q I rx ry h
  obtain ⟨d, e, hd, he, sd, se, q⟩ := h
  obtain ⟨as, r1⟩ := Dp.reads I d x v hd rx
  obtain ⟨bs, r2⟩ := Dp.reads I e y u he ry
  exact SeqAt.compareNe_shaped r1 r2 sd se hu ⟨.bl _, H, I, rfl, q⟩
end
end L2
namespace L2
open PySem PySem.Spec PyProof.Rows
abbrev CellAt (h : Heap) (c : Addr) (v : Option Value) : Prop := h.IsCell c v
def relS (scope sc : Scope) : Scope :=
  { scope with names := scope.names.map fun (n, k) => if (k == .free && sc.kind == .function && sc.names.lookup n == some .cell) then (n, .cell) else (n, k) }
def cloFrom (cells : List (Str × Addr)) : List (Str × NameKind) → List (Str × Addr) → List (Str × Addr)
  | [], acc => acc
  | (n, k) :: r, acc => if k == .free then cloFrom cells r ((n, (cells.lookup n).getD 0) :: acc) else cloFrom cells r acc
theorem closure_loop (env : Env) (f : Str × NameKind → List (Str × Addr) → Sem (ForInStep (List (Str × Addr))))
    (hf : ∀ n k c, f (n, k) c = if k == .free then (do let a ← cellOf env n; pure (.yield ((n, a) :: c))) else pure (.yield c)) :
    ∀ (names : List (Str × NameKind)) (acc : List (Str × Addr)), (∀ y ∈ names, y.2 = .free → ∃ c, env.cells.lookup y.1 = some c) → forIn names acc f = pure (cloFrom env.cells names acc)
  | [], acc, _ => by rw [List.forIn_nil]; rfl
  | (n, k) :: r, acc, h => by
    rw [List.forIn_cons, hf]
    have ih := fun acc => closure_loop env f hf r acc fun y hy => h y (List.mem_cons_of_mem _ hy)
    unfold cloFrom
    by_cases hk : (k == NameKind.free) = true
    · rw [if_pos hk, if_pos hk]
      obtain ⟨c, hc⟩ := h (n, k) List.mem_cons_self (by simpa using hk)
      have e : cellOf env n = pure c := by unfold cellOf; rw [hc]
      rw [e]
      have e2 : (env.cells.lookup n).getD 0 = c := by rw [hc]; rfl
      rw [e2]
      exact ih _
    · rw [if_neg hk, if_neg hk]
      exact ih _
theorem closure_ok {scope : Scope} {env : Env} (h : ∀ y ∈ scope.names, y.2 = .free → ∃ c, env.cells.lookup y.1 = some c) : closureFor scope env = pure (cloFrom env.cells scope.names []) := by
  simp only [closureFor]
  rw [closure_loop env _ (fun n k c => rfl) scope.names [] h]
  rfl
theorem mem_lookup {α : Type} : ∀ {l : List (Str × α)} {n : Str} {c : α}, (n, c) ∈ l → ∃ c', l.lookup n = some c'
  | (k, v) :: r, n, c, h => by
    rw [List.lookup_cons]
    cases hb : n == k with
    | true => exact ⟨_, rfl⟩
    | false =>
      rcases List.mem_cons.mp h with e | h
      · cases e; simp at hb
      · exact mem_lookup h
theorem cloFrom_mem {cells : List (Str × Addr)} : ∀ {names : List (Str × NameKind)} {acc : List (Str × Addr)} {n : Str} {c : Addr}, (n, c) ∈ cloFrom cells names acc → (n, c) ∈ acc ∨ ((n, .free) ∈ names ∧ c = (cells.lookup n).getD 0)
  | [], _, _, _, h => .inl h
  | (m, k) :: r, acc, n, c, h => by
    unfold cloFrom at h
    split at h
    · rename_i hk
      have hk : k = .free := by simpa using hk
      rcases cloFrom_mem h with h | ⟨h1, h2⟩
      · rcases List.mem_cons.mp h with e | h
        · cases e; exact .inr ⟨hk ▸ List.mem_cons_self, rfl⟩
        · exact .inl h
      · exact .inr ⟨List.mem_cons_of_mem _ h1, h2⟩
    · rcases cloFrom_mem h with h | ⟨h1, h2⟩
      · exact .inl h
      · exact .inr ⟨List.mem_cons_of_mem _ h1, h2⟩
theorem cloFrom_acc {cells : List (Str × Addr)} : ∀ {names : List (Str × NameKind)} {acc : List (Str × Addr)} {p : Str × Addr}, p ∈ acc → p ∈ cloFrom cells names acc
  | [], _, _, h => h
  | (m, k) :: r, acc, p, h => by
    unfold cloFrom
    split
    · exact cloFrom_acc (List.mem_cons_of_mem _ h)
    · exact cloFrom_acc h
theorem cloFrom_has {cells : List (Str × Addr)} : ∀ {names : List (Str × NameKind)} {acc : List (Str × Addr)} {n : Str}, (n, .free) ∈ names → (n, (cells.lookup n).getD 0) ∈ cloFrom cells names acc
  | (m, k) :: r, acc, n, h => by
    unfold cloFrom
    rcases List.mem_cons.mp h with e | h
    · cases e
      exact cloFrom_acc List.mem_cons_self
    · split
      · exact cloFrom_has h
      · exact cloFrom_has h
theorem cells_mem : ∀ {names : List (Str × NameKind)} {h : Heap} {acc : List (Str × Addr)} {x : Str} {c : Addr}, (x, c) ∈ cellsFrom h.objs.size names acc →
    (x, c) ∈ acc ∨ ((x, .cell) ∈ names ∧ h.objs.size ≤ c ∧ CellAt (pushCells h names) c none)
  | [], _, _, _, _, h => .inl h
  | (n, k) :: r, h, acc, x, c, hm => by
    unfold cellsFrom at hm
    unfold pushCells
    split at hm
    · rename_i hk
      rw [if_pos hk]
      have hk : k = .cell := by simpa using hk
      rw [← Heap.size_push h { cls := .type "cell", data := .cell none }] at hm
      rcases cells_mem hm with hm | ⟨h1, h2, h3⟩
      · rcases List.mem_cons.mp hm with e | hm
        · cases e
          exact .inr ⟨hk ▸ List.mem_cons_self, Nat.le_refl _, _, pushCells_keeps r _ _ _ (Heap.get?_push_size _ rfl), rfl⟩
        · exact .inl hm
      · rw [Heap.size_push] at h2
        exact .inr ⟨List.mem_cons_of_mem _ h1, Nat.le_of_succ_le h2, h3⟩
    · rename_i hk
      rw [if_neg hk]
      rcases cells_mem hm with hm | ⟨h1, h2, h3⟩
      · exact .inl hm
      · exact .inr ⟨List.mem_cons_of_mem _ h1, h2, h3⟩
theorem cells_acc : ∀ {names : List (Str × NameKind)} {n : Nat} {acc : List (Str × Addr)} {p : Str × Addr}, p ∈ acc → p ∈ cellsFrom n names acc
  | [], _, _, _, h => h
  | (m, k) :: r, n, acc, p, h => by
    unfold cellsFrom
    split
    · exact cells_acc (List.mem_cons_of_mem _ h)
    · exact cells_acc h
theorem cells_has : ∀ {names : List (Str × NameKind)} {n : Nat} {acc : List (Str × Addr)} {x : Str}, (x, .cell) ∈ names → ∃ c, (x, c) ∈ cellsFrom n names acc
  | (m, k) :: r, n, acc, x, h => by
    unfold cellsFrom
    rcases List.mem_cons.mp h with e | h
    · cases e
      exact ⟨n, cells_acc List.mem_cons_self⟩
    · split
      · exact cells_has h
      · exact cells_has h
theorem cells_inj : ∀ {names : List (Str × NameKind)} {h : Heap} {acc : List (Str × Addr)} {x y : Str} {c : Addr}, (∀ p ∈ acc, p.2 < h.objs.size) → (∀ x y c, (x, c) ∈ acc → (y, c) ∈ acc → x = y) →
    (x, c) ∈ cellsFrom h.objs.size names acc → (y, c) ∈ cellsFrom h.objs.size names acc → x = y
  | [], _, _, _, _, _, _, hi, h1, h2 => hi _ _ _ h1 h2
  | (n, k) :: r, h, acc, x, y, c, hl, hi, h1, h2 => by
    unfold cellsFrom at h1 h2
    split at h1
    · rename_i hk
      rw [if_pos hk] at h2
      rw [← Heap.size_push h { cls := .type "cell", data := .cell none }] at h1 h2
      refine cells_inj (h := h.push _) (fun p hp => ?_) (fun x y c a b => ?_) h1 h2
      · rw [Heap.size_push]
        rcases List.mem_cons.mp hp with rfl | hp
        · exact Nat.lt_succ_self _
        · exact Nat.lt_succ_of_lt (hl p hp)
      · rcases List.mem_cons.mp a with e | a <;> rcases List.mem_cons.mp b with e' | b
        · cases e; cases e'; rfl
        · cases e; exact absurd (hl _ b) (Nat.lt_irrefl _)
        · cases e'; exact absurd (hl _ a) (Nat.lt_irrefl _)
        · exact hi _ _ _ a b
    · rename_i hk
      rw [if_neg hk] at h2
      exact cells_inj hl hi h1 h2
theorem newEnv_comp {M : Model} {A : Around} {E : Value → Shared → Prop} {s : Shared} {scope : Scope} {globals : Addr} {closure : List (Str × Addr)} {qual : Str} {func : Option Addr} {code : Value} {around : Env} {builtins : Addr} {Q : Env → Shared → Prop}
    (h : Q (newEnv scope s.heap.objs.size globals (cellsFrom (s.heap.objs.size + 1) scope.names closure) qual func code (some around) builtins)
      { s with heap := pushCells (s.heap.push { cls := .type "dict", data := .dict #[] }) scope.names }) :
    wpAny M A (newFunctionEnv scope globals closure [] qual func code (some around) builtins) Q E s := by
  simp only [newFunctionEnv, Option.isSome_some, if_true]
  refine wpAny_bind (wpAny_alloc ?_)
  refine wpAny_bind (wpAny_layCells _ (fun n k c => rfl) scope.names closure _ _ ?_)
  rw [show ({ s with heap := s.heap.push { cls := .type "dict", data := .dict #[] } } : Shared).heap.objs.size = s.heap.objs.size + 1 from Heap.size_push ..]
  rw [List.forIn_nil]
  exact wpAny_bind (wpAny_pure (wpAny_pure h))
/-- every name of the written scope, in the scope that runs -/
theorem lookup_relS {sc : Scope} : ∀ {names : List (Str × NameKind)} {x : Str} {k : NameKind},
    (names.map fun (n, k) => if (k == NameKind.free && sc.kind == .function && sc.names.lookup n == some .cell) then (n, NameKind.cell) else (n, k)).lookup x = some k →
    ∃ k', names.lookup x = some k' ∧ (k = k' ∨ (k' = .free ∧ k = .cell))
  | [], _, _, h => by simp at h
  | (n, k₀) :: r, x, k, h => by
    have ih := @lookup_relS sc r x k
    have h' : List.lookup x ((if (k₀ == NameKind.free && sc.kind == .function && sc.names.lookup n == some .cell) = true then (n, NameKind.cell) else (n, k₀)) :: (r.map _)) = some k := h
    cases hx : x == n with
    | true =>
      simp only [List.lookup_cons, hx]
      by_cases hc : (k₀ == NameKind.free && sc.kind == .function && sc.names.lookup n == some .cell) = true
      · rw [if_pos hc] at h'
        simp only [List.lookup_cons, hx] at h'
        cases h'
        simp only [Bool.and_eq_true, beq_iff_eq] at hc
        exact ⟨k₀, rfl, .inr ⟨hc.1.1, rfl⟩⟩
      · rw [if_neg hc] at h'
        simp only [List.lookup_cons, hx] at h'
        cases h'
        exact ⟨_, rfl, .inl rfl⟩
    | false =>
      simp only [List.lookup_cons, hx]
      by_cases hc : (k₀ == NameKind.free && sc.kind == .function && sc.names.lookup n == some .cell) = true
      · rw [if_pos hc] at h'
        simp only [List.lookup_cons, hx] at h'
        exact ih h'
      · rw [if_neg hc] at h'
        simp only [List.lookup_cons, hx] at h'
        exact ih h'
/-- the names of a comprehension's block: its own (with their places in N), or captured -/
structure BlkOk (N : List Str) (sc scope : Scope) (own : List (Str × Nat)) : Prop where
  kind : scope.kind = .function
  uniq : ∀ y ∈ scope.names, scope.names.lookup y.1 = some y.2
  ix : ∀ p ∈ own, N[p.2]? = some p.1
  free : ∀ y ∈ scope.names, y.2 = .free → sc.names.lookup y.1 = some .cell ∨ sc.names.lookup y.1 = some .free
  own : ∀ y ∈ scope.names, y.2 = .local ∨ y.2 = .cell → y.1 ∈ own.map (·.1) ∨ y.1 ∉ N
/-- the slots of the block's own names forgotten -/
def wipe (σ : St) : List Nat → St
  | [] => σ
  | v :: vs => (wipe σ vs).set v none
theorem wipe_length (σ : St) : ∀ vs : List Nat, (wipe σ vs).length = σ.length
  | [] => rfl
  | v :: vs => by unfold wipe; rw [List.length_set, wipe_length σ vs]
theorem wipe_some {σ : St} {i : Nat} {x : V} : ∀ {vs : List Nat}, (wipe σ vs)[i]? = some (some x) → σ[i]? = some (some x) ∧ i ∉ vs
  | [], h => ⟨h, by simp⟩
  | v :: vs, h => by
    unfold wipe at h
    by_cases hi : v = i
    · subst hi
      by_cases hv : v < (wipe σ vs).length
      · rw [List.getElem?_set_self hv] at h; cases h
      · rw [List.getElem?_eq_none (by simpa using hv)] at h; cases h
    · rw [List.getElem?_set_ne hi] at h
      obtain ⟨h1, h2⟩ := wipe_some h
      exact ⟨h1, by simp only [List.mem_cons, not_or]; exact ⟨fun e => hi e.symm, h2⟩⟩
/-- the context of a block that starts at s, its iterator's objects at fp -/
abbrev Cx.blk (X : Cx) (s : Shared) (H : Hp) (scope : Scope) (cenv : Env) (fp : List Addr) : Cx := { X with s_0 := s, H_0 := H, env := cenv, outer := X.stack, ex := fp, fn := fun x => scope.names.lookup x == some .cell, pn := [], xe := fun _ _ => False }
section
variable {X : Cx} {pins : List (Addr × Obj)} {σ : St} {H : Hp} {s : Shared}
theorem block_start {scope : Scope} {own : List (Str × Nat)} {fp : List Addr} (I : Inv X pins σ H s) (ok : BlkOk X.N X.env.scope scope own) (hN : X.N.Nodup) (hfp : ∀ b ∈ fp, FpOk X pins H b ∧ b < s.heap.objs.size) :
    Inv (X.blk s H scope (compEnvC scope (cellsFrom (s.heap.objs.size + 1) scope.names (cloFrom X.env.cells scope.names [])) s.heap.objs.size X.env) fp) [] (wipe σ (own.map (·.2))) H { s with heap := pushCells (s.heap.push { cls := .type "dict", data := .dict #[] }) scope.names } := by
  have hfree : ∀ y ∈ scope.names, y.2 = .free → ∃ c, X.env.cells.lookup y.1 = some c := fun y hy e => by
    rcases ok.free y hy e with k | k
    · exact I.ok.has _ (.inl k)
    · exact I.ok.has _ (.inr k)
  generalize hcenv : compEnvC scope (cellsFrom (s.heap.objs.size + 1) scope.names (cloFrom X.env.cells scope.names [])) s.heap.objs.size X.env = cenv
  have kp : ∀ b o, s.heap.get? b = some o → (pushCells (s.heap.push { cls := .type "dict", data := .dict #[] }) scope.names).get? b = some o := fun b o e => pushCells_keeps _ _ _ _ (Heap.get?_push_of_some _ e)
  have hL : cenv.locals = s.heap.objs.size := by rw [← hcenv]; rfl
  have hcl : cenv.cells = cellsFrom (s.heap.objs.size + 1) scope.names (cloFrom X.env.cells scope.names []) := by rw [← hcenv]; rfl
  have hsc : cenv.scope = relS scope X.env.scope := by rw [← hcenv]; rfl
  rw [← Heap.size_push s.heap { cls := .type "dict", data := .dict #[] }] at hcl
  have cm : ∀ {y c}, (y, c) ∈ cloFrom X.env.cells scope.names [] → X.env.cells.lookup y = some c ∧ c < s.heap.objs.size := fun {y c} hm => by
    rcases cloFrom_mem hm with hm | ⟨h1, rfl⟩
    · cases hm
    · obtain ⟨c, hc⟩ := hfree _ h1 rfl
      rw [hc]
      obtain ⟨w, z⟩ := I.cell _ _ hc
      exact ⟨rfl, z.lt⟩
  have mem : ∀ {y c}, cenv.cells.lookup y = some c → (X.env.cells.lookup y = some c ∧ c < s.heap.objs.size) ∨ (s.heap.objs.size + 1 ≤ c ∧ CellAt (pushCells (s.heap.push { cls := .type "dict", data := .dict #[] }) scope.names) c none) := fun {y c} e => by
    rw [hcl] at e
    rcases cells_mem (PySem.mem_of_lookup e) with hm | ⟨_, h2, h3⟩
    · exact .inl (cm hm)
    · rw [Heap.size_push] at h2; exact .inr ⟨h2, h3⟩
  have look : ∀ {y}, scope.names.lookup y = some .free → ∃ c, cenv.cells.lookup y = some c ∧ X.env.cells.lookup y = some c := fun {y} hl => by
    have hy : (y, NameKind.free) ∈ scope.names := PySem.mem_of_lookup hl
    obtain ⟨c', e'⟩ := mem_lookup (cells_acc (names := scope.names) (n := (s.heap.push { cls := .type "dict", data := .dict #[] }).objs.size) (cloFrom_has (cells := X.env.cells) (acc := []) hy))
    rw [← hcl] at e'
    refine ⟨c', e', ?_⟩
    rw [hcl] at e'
    rcases cells_mem (PySem.mem_of_lookup e') with hm | ⟨h1, _, _⟩
    · exact (cm hm).1
    · have := ok.uniq _ h1
      rw [hl] at this; cases this
  have okB : (X.blk s H scope cenv fp).Ok := by
    refine ⟨I.ok.mod, by show cenv.scope.kind = _; rw [hsc]; exact ok.kind, by show cenv.globals = _; rw [← hcenv]; exact I.ok.glob, by show cenv.builtins = _; rw [← hcenv]; exact I.ok.blt, by show s.heap.objs.size ≤ cenv.locals; rw [hL]; exact Nat.le_refl _,
      fun y z c e1 e2 => ?_, fun y hy => ?_, fun y c z e => ?_, I.ok.hd, I.ok.frames, .inl rfl, fun b hb => ⟨?_, fun y c e z => ?_⟩, I.bs, Nat.le_trans I.ok.bsz I.sz, fun b o e hb => ?_, fun b hb z => ?_, I.stack, I.stkFree⟩
    · have e1 : cenv.cells.lookup y = some c := e1
      have e2 : cenv.cells.lookup z = some c := e2
      rw [hcl] at e1 e2
      refine cells_inj (fun p hp => ?_) (fun y z c a b => I.ok.inj y z c (cm a).1 (cm b).1) (PySem.mem_of_lookup e1) (PySem.mem_of_lookup e2)
      rw [Heap.size_push]
      exact Nat.lt_succ_of_lt (cm (y := p.1) (c := p.2) hp).2
    · show ∃ c, cenv.cells.lookup y = some c
      have key : ∀ k, cenv.kindOf y = some k → (k = .cell ∨ k = .free) → ∃ c, cenv.cells.lookup y = some c := fun k hk hk' => by
        unfold Env.kindOf at hk
        rw [hsc] at hk
        obtain ⟨k', e, r⟩ := lookup_relS hk
        have : k' = .cell ∨ k' = .free := by
          rcases r with rfl | ⟨rfl, _⟩
          · exact hk'
          · exact .inr rfl
        rcases this with rfl | rfl
        · obtain ⟨c, hm⟩ := cells_has (n := (s.heap.push { cls := .type "dict", data := .dict #[] }).objs.size) (acc := cloFrom X.env.cells scope.names []) (PySem.mem_of_lookup e)
          obtain ⟨c', e'⟩ := mem_lookup hm
          exact ⟨c', by rw [hcl]; exact e'⟩
        · obtain ⟨c, h1, _⟩ := look e
          exact ⟨c, h1⟩
      rcases hy with hy | hy
      · exact key _ hy (.inl rfl)
      · exact key _ hy (.inr rfl)
    · have z : (scope.names.lookup y == some NameKind.cell) = true := z
      have z : scope.names.lookup y = some .cell := by simpa using z
      have e : cenv.cells.lookup y = some c := e
      rw [hcl] at e
      rcases cells_mem (PySem.mem_of_lookup e) with hm | ⟨_, h2, _⟩
      · rcases cloFrom_mem hm with hm | ⟨h1, _⟩
        · cases hm
        · have q := ok.uniq _ h1
          rw [z] at q; cases q
      · rw [Heap.size_push] at h2
        exact Nat.le_of_succ_le h2
    · show b ≠ cenv.locals
      rw [hL]; exact Nat.ne_of_lt (hfp b hb).2
    · have e : cenv.cells.lookup y = some c := e
      rcases mem e with ⟨h1, _⟩ | ⟨h1, _⟩
      · exact (hfp b hb).1.2.2.2.2.1 y c h1 z
      · have h2 : s.heap.objs.size + 1 ≤ b := by rw [← z]; exact h1
        exact absurd (Nat.lt_of_lt_of_le (hfp b hb).2 (Nat.le_of_succ_le h2)) (Nat.lt_irrefl _)
    · rcases (hfp b hb).1.2.2.2.1 with z | z
      · exact I.ok.noex b o e z
      · exact absurd (Nat.lt_of_lt_of_le (Heap.lt_size e) (Nat.le_trans I.ok.bsz z)) (Nat.lt_irrefl _)
    · rcases List.mem_cons.mp (I.stkSub b z) with z | z
      · exact (hfp b hb).1.2.1 z
      · exact (hfp b hb).1.2.2.1 z
  refine ⟨okB, rfl, I.bare, Un.kept kp, ⟨fun _ => none, ?_, fun i y av e1 e2 e3 => ?_⟩, fun y c e => ?_, ?_, fun y c e => ?_, fun p hp => ?_, I.hok.kept kp, by rw [wipe_length]; exact I.len⟩
  · show Heap.Ns _ cenv.locals _
    rw [hL]
    exact Heap.Ns.keeps (Heap.Ns.new ..) fun b o e => pushCells_keeps _ _ _ _ e
  · obtain ⟨e2, hne⟩ := wipe_some e2
    have hfr : scope.names.lookup y = some .free ∧ (cenv.kindOf y = some .cell ∨ cenv.kindOf y = some .free) := by
      have key : ∀ k, cenv.scope.names.lookup y = some k → k = .local ∨ k = .cell ∨ k = .free → scope.names.lookup y = some .free ∧ (cenv.kindOf y = some .cell ∨ cenv.kindOf y = some .free) := fun k hk hk' => by
        have hk0 := hk
        rw [hsc] at hk
        obtain ⟨k', e, r⟩ := lookup_relS hk
        have no : ¬ (k' = .local ∨ k' = .cell) := fun hh => by
          rcases ok.own _ (PySem.mem_of_lookup e) hh with e' | e'
          · obtain ⟨p, hp, hpy⟩ := List.mem_map.mp e'
            have e3 := ok.ix p hp
            have : p.1 = y := hpy
            rw [this] at e3
            exact hne (List.mem_map.mpr ⟨p, hp, nodup_ix hN e3 e1⟩)
          · exact e' (List.mem_of_getElem? e1)
        rcases r with rfl | ⟨rfl, rfl⟩
        · rcases hk' with rfl | rfl | rfl
          · exact absurd (.inl rfl) no
          · exact absurd (.inr rfl) no
          · exact ⟨e, .inr hk0⟩
        · exact ⟨e, .inl hk0⟩
      have e3 : Vis cenv.scope y := e3
      rcases e3 with e3 | e3 | e3
      · exact key _ e3 (.inl rfl)
      · exact key _ e3 (.inr (.inl rfl))
      · exact key _ e3 (.inr (.inr rfl))
    obtain ⟨m, hn, hl⟩ := I.loc
    have hvis : Vis X.env.scope y := (ok.free _ (PySem.mem_of_lookup hfr.1) rfl).elim (fun k => .inr (.inl k)) (fun k => .inr (.inr k))
    obtain ⟨w, r, q⟩ := hl i y av e1 e2 hvis
    refine ⟨w, r, .inr ⟨hfr.2, ?_⟩⟩
    obtain ⟨c, h1, h2⟩ := look hfr.1
    rcases q with ⟨k, _⟩ | ⟨_, c', e', z⟩
    · have k : X.env.scope.names.lookup y = some .local := k
      rcases ok.free _ (PySem.mem_of_lookup hfr.1) rfl with k' | k' <;> rw [show X.env.scope.names.lookup y = _ from k'] at k <;> cases k
    · rw [h2] at e'; cases e'
      exact ⟨c, h1, z.keeps kp⟩
  · have e : cenv.cells.lookup y = some c := e
    rcases mem e with ⟨h1, _⟩ | ⟨_, z⟩
    · obtain ⟨w, z⟩ := I.cell y c h1
      exact ⟨w, z.keeps kp⟩
    · exact ⟨_, z⟩
  · show H cenv.locals = none
    rw [hL]; exact I.hok.fresh (Nat.le_refl _)
  · have e : cenv.cells.lookup y = some c := e
    rcases mem e with ⟨h1, _⟩ | ⟨h1, _⟩
    · exact I.freeC y c h1
    · exact I.hok.fresh (Nat.le_of_succ_le h1)
  · exact absurd (show p ∈ ([] : List (Addr × Obj)) ++ [] from hp) (by simp)
/-- an item appended to a tracked list -/
theorem app_ok {E : Value → Shared → Prop} {D : Addr} {xs : List V} {y : V} {v : Value} {Q : Value → Shared → Prop} (I : Inv X pins σ H s) (hD : H D = some (.lst xs)) (hz : xs.length < sizeLine) (r : RelV y v)
    (h : ∀ s', Inv X pins σ (upd H D (.lst (xs ++ [y]))) s' → Q .none s') : wpAny (model X.prog X.w) X.A (call (.builtin "list.append") [.ref D, v]) Q E s := by
  obtain ⟨hz', its, n, ri, e⟩ := I.hok D _ hD
  have hl := ri.length
  refine append_at (hsz := by rw [List.size_toArray]; omega) e fun h' sb ho' => ?_
  refine h { s with heap := h' } (I.write (t' := s.toks) (by rw [hD]; trivial) (.inl rfl) (fun b u hb q => (sb.2 b hb).trans q) ⟨_, ho'⟩ ⟨by rw [List.length_append]; exact hz, its ++ [v], n + 1, ri.append (.cons r .nil), ?_⟩)
  rw [ho']
  simp
/-- a clause's tests -/
def PTs (X : Cx) (ifs : List Expr) (t : TT) : Prop :=
  ∀ (pins : List (Addr × Obj)) (s : Shared) (σ : St) (H : Hp) (Q : Bool → Hp → Prop), Inv X pins σ H s → t σ H Q →
    wpAny (model X.prog X.w) X.A (forIn ifs true fun c r => if r = true then do let ok ← isTrue c X.env (eval c X.env); pure (ForInStep.yield ok) else pure (ForInStep.yield r)) (TP X pins σ Q) X.xe s
def tYes : TT := fun _ H Q => Q true H
theorem pts_nil : PTs X [] tYes := fun _ _ _ H _ I h => wpAny_tests_nil ⟨H, I, h⟩
end
theorem thnF {α : Type} {t : Sem α} {Q Q' : α → Shared → Prop} {M : Model} {A : Around} {E : Value → Shared → Prop} {s : Shared} (h : wpAny M A t Q (fun _ _ => False) s) (hQ : ∀ a s, Q a s → Q' a s) : wpAny M A t Q' E s := wpAny_mono h hQ fun _ _ z => False.elim z
/-- the loop of a list comprehension's block, the target of any form (codeAny_compLoop_tests asks a target that no tuple goes to; statement and proof follow it, PyProof/CompMap.lean:41-61, with the step letOwnedTupleGo kept) -/
theorem compLoop_any {prog : Program} {w : World} {A : Around} {R : Result → Shared → Prop} {s : Shared} {elt target iter : Expr} {ifs : List Expr} {scope : Scope} {pos : Pos} {it acc : Value} {env : Env} (I : Nat → Shared → Prop)
    (turn : ∀ n s, I n s → wpAny (model prog w) A (pyNext it) (fun r s₁ => match r with
      | none => R (.ok .next) s₁
      | some v => wpAny (model prog w) A (letOwnedTupleGo target it v) (fun _ s₁' => wpAny (model prog w) A (assign target env v) (fun _ s₂ =>
          wpAny (model prog w) A (forIn ifs true fun c r => if r = true then do let ok ← isTrue c env (eval c env); pure (ForInStep.yield ok) else pure (ForInStep.yield r)) (fun ok s₃ =>
            if ok = true then wpAny (model prog w) A (eval elt env) (fun x s₄ =>
              wpAny (model prog w) A (call (.builtin "list.append") [acc, x]) (fun _ s₅ => ∃ m, m < n ∧ I m s₅) (notedBy (model prog w) A env fun e s' => R (.error e) s') s₄) (notedBy (model prog w) A env fun e s' => R (.error e) s') s₃
            else ∃ m, m < n ∧ I m s₃) (notedBy (model prog w) A env fun e s' => R (.error e) s') s₂) (notedBy (model prog w) A env fun e s' => R (.error e) s') s₁') (notedBy (model prog w) A env fun e s' => R (.error e) s') s₁) (notedBy (model prog w) A env fun e s' => R (.error e) s') s)
    (n : Nat) (h : I n s) :
    codeAny (model prog w) A (.compLoop (.ListComp elt [⟨target, iter, ifs, 0⟩] scope pos) 0 it acc env) R s := by
  refine codeAny_loop rfl I (fun n s hI => ?_) n h
  show wpAny _ A ((compTurn (.ListComp elt [⟨target, iter, ifs, 0⟩] scope pos) 0 it acc env).onRaise (fun x => do noteFrame x env; theTreesLotGoes x)) _ _ s
  refine wpAny_noted ?_
  rw [compTurn_list]
  refine wpAny_bind (wpAny_standAt (wpAny_bind (wpAny_mono (turn n s hI) (fun r s₁ h₁ => ?_) fun _ _ h' => h')))
  cases r with
  | none => exact wpAny_pure h₁
  | some v =>
    refine wpAny_bind (wpAny_mono h₁ (fun _ s₁' h₁' => ?_) fun _ _ h' => h')
    refine wpAny_bind (wpAny_mono h₁' (fun _ s₂ h₂ => wpAny_bind (wpAny_mono h₂ (fun ok s₃ h₃ => ?_) fun _ _ h' => h')) fun _ _ h' => h')
    cases ok with
    | false => exact wpAny_pure ⟨rfl, h₃⟩
    | true =>
      exact wpAny_bind (wpAny_bind (wpAny_mono h₃ (fun x s₄ h₄ => wpAny_bind (wpAny_mono h₄ (fun _ s₅ h₅ => wpAny_pure (wpAny_pure ⟨rfl, h₅⟩)) fun _ _ h' => h')) fun _ _ h' => h'))
section
variable {X : Cx}
/-- [elt for target in iter if ..]: D the new list; W by the turn and a measure, Nx what a turn is to reach -/
def tLc (wi : TI) (g : TG) (tt : TT) (te : TE) (vs : List Nat) : TE := fun σ H Q => wi σ H fun J H1 => ∀ D, H1 D = none → ∃ W : Nat → Nat → Hp → Prop, (∃ m, W 0 m (upd H1 D (.lst []))) ∧ ∀ i m H, W i m H →
  (J.stop i H ∧ Q (.ref D) H) ∨ (J.go i H ∧ ∃ Nx : Hp → Prop, (∀ H', Nx H' → ∃ m', m' < m ∧ W (i + 1) m' H') ∧ ∀ x H', J.yld i H x H' → g x (wipe σ vs) H' fun σ2 H2 => wipe σ2 vs = wipe σ vs ∧ tt σ2 H2 fun b H3 =>
    if b = true then te σ2 H3 fun y H4 => ∃ acc, H4 D = some (.lst acc) ∧ acc.length < sizeLine ∧ Nx (upd H4 D (.lst (acc ++ [y]))) else Nx H3)
theorem lc_core {pins : List (Addr × Obj)} {s : Shared} {σ : St} {H : Hp} {Q : VK} {elt tg iter : Expr} {ifs : List Expr} {scope : Scope} {own : List (Str × Nat)} {pos pos' : Pos} {wi : TI} {g : TG} {tt : TT} {te : TE} {use : Option (Value → Sem Unit)} {Qf : Value → Shared → Prop}
    (hc : X.calm = true) (hN : X.N.Nodup) (I : Inv X pins σ H s) (hi : PI X tg iter wi) (ok : BlkOk X.N X.env.scope scope own)
    (hg : ∀ (s : Shared) (H : Hp) (C : Addr) (cl : List (Str × Addr)) (fp : List Addr), PG (X.blk s H scope (compEnvC scope cl C X.env) fp) tg g) (ht : ∀ (s : Shared) (H : Hp) (C : Addr) (cl : List (Str × Addr)) (fp : List Addr), PTs (X.blk s H scope (compEnvC scope cl C X.env) fp) ifs tt)
    (he : ∀ (s : Shared) (H : Hp) (C : Addr) (cl : List (Str × Addr)) (fp : List Addr), PE (X.blk s H scope (compEnvC scope cl C X.env) fp) elt te) (hs : ∀ x, foldedSetIterable iter X.env x = pure x)
    (h : tLc wi g tt te (own.map (·.2)) σ H Q)
    (hRR : ∀ D C s' m H', Inv X pins σ H' s' → Q (.ref D) H' → s'.heap.Ns C m → FpOk X pins H' C → compPost (model X.prog X.w) X.A X.xe use Qf (.ref D) C (.ok .next) s') :
    wpAny (model X.prog X.w) X.A (comprehension (.ListComp elt [⟨tg, iter, ifs, 0⟩] scope pos) scope X.env pos' (newList []) false (eval iter X.env) use) Qf X.xe s := by
  have hfree : ∀ y ∈ scope.names, y.2 = .free → ∃ c, X.env.cells.lookup y.1 = some c := fun y hy e => by
    rcases ok.free y hy e with k | k
    · exact I.ok.has _ (.inl k)
    · exact I.ok.has _ (.inr k)
  refine wpAny_comprehension_free (use := use) rfl hs (closure_ok hfree) ok.kind (fun y hy e => by rw [ok.uniq y hy, e])
    (thn (hi pins s σ H _ I h) fun xv s1 hx => thn hx fun itv s2 h2 => ?_)
  obtain ⟨it, fp, tn, J, H2, e, I2, T, st2, f2, q⟩ := h2
  subst e
  refine wpAny_newObj_type (newEnv_comp ?_) (by show 0 ≤ sizeLine; decide)
  generalize hD : s2.heap.objs.size = D
  have hDn : H2 D = none := I2.hok.fresh (Nat.le_of_eq hD)
  obtain ⟨W, ⟨m0, w0⟩, turn⟩ := q D hDn
  -- the new list
  generalize hs3 : ({ s2 with heap := s2.heap.push { cls := .type "list", data := .seq ([] : List Value).toArray } } : Shared) = s3
  have I3 : Inv X pins σ (upd H2 D (.lst [])) s3 := by
    rw [← hs3]
    refine I2.laid (t' := s2.toks) (fun b o e => Heap.get?_push_of_some _ e) (Nat.le_of_eq hD) ⟨Nat.zero_le _, [], 0, .nil, ?_⟩
    rw [← hD]
    exact Heap.get?_push_size _ rfl
  have h3 : s3.heap = s2.heap.push { cls := .type "list", data := .seq ([] : List Value).toArray } := by rw [← hs3]
  have sz : ∀ b ∈ fp, b < s2.heap.objs.size := fun b hb => by
    obtain ⟨o, e, _⟩ := T.obj _ _ st2 b hb
    exact Heap.lt_size e
  have f3 : ∀ b ∈ fp, FpOk X pins (upd H2 D (.lst [])) b ∧ b < s3.heap.objs.size := fun b hb => by
    have hlt := sz b hb
    refine ⟨⟨?_, (f2 b hb).2⟩, by rw [h3, Heap.size_push]; exact Nat.lt_succ_of_lt hlt⟩
    rw [upd_ne (by rw [← hD]; exact Nat.ne_of_lt hlt)]
    exact (f2 b hb).1
  have st3 : tn 0 s3.heap := T.keep _ _ _ st2 fun b _ o e => by rw [h3]; exact Heap.get?_push_of_some _ e
  have I4 := block_start I3 ok hN f3
  have pg := hg s3 (upd H2 D (.lst [])) s3.heap.objs.size (cellsFrom (s3.heap.objs.size + 1) scope.names (cloFrom X.env.cells scope.names [])) fp
  have pt := ht s3 (upd H2 D (.lst [])) s3.heap.objs.size (cellsFrom (s3.heap.objs.size + 1) scope.names (cloFrom X.env.cells scope.names [])) fp
  have pe := he s3 (upd H2 D (.lst [])) s3.heap.objs.size (cellsFrom (s3.heap.objs.size + 1) scope.names (cloFrom X.env.cells scope.names [])) fp
  show codeAny _ _ (.compStart (.ListComp elt [⟨tg, iter, ifs, 0⟩] scope pos) 0 (.ref it) (.ref D) (compEnvC scope (cellsFrom (s3.heap.objs.size + 1) scope.names (cloFrom X.env.cells scope.names [])) s3.heap.objs.size X.env)) (compPost (model X.prog X.w) X.A X.xe use Qf (.ref D) s3.heap.objs.size) { s3 with heap := pushCells (s3.heap.push { cls := .type "dict", data := .dict #[] }) scope.names }
  have nfp : ∀ b ∈ fp, (upd H2 D (.lst [])) b = none := fun b hb => (f3 b hb).1.1
  generalize hce : compEnvC scope (cellsFrom (s3.heap.objs.size + 1) scope.names (cloFrom X.env.cells scope.names [])) s3.heap.objs.size X.env = ce at I4 pg pt pe ⊢
  have cL : ce.locals = s3.heap.objs.size := by subst hce; rfl
  generalize hH3 : upd H2 D (.lst []) = H3 at I3 I4 pg pt pe w0 nfp f3
  generalize hs4 : ({ s3 with heap := pushCells (s3.heap.push { cls := .type "dict", data := .dict #[] }) scope.names } : Shared) = s4 at I4 ⊢
  have st4 : tn 0 s4.heap := T.keep _ _ _ st3 fun b _ o e => by rw [← hs4]; exact pushCells_keeps _ _ _ _ (Heap.get?_push_of_some _ e)
  have stat : ∀ {σ' : St} {H' : Hp} {s' : Shared}, Inv (X.blk s3 H3 scope ce fp) [] σ' H' s' → (∀ b ∈ fp, H' b = none) → ∀ b ∈ fp, FpOk (X.blk s3 H3 scope ce fp) [] H' b := fun {σ' H' s'} I' hn b hb =>
    ⟨hn b hb, (I'.ok.exf b hb).1, I'.ok.exfs b hb, .inl hb, fun x c e => (I'.ok.exf b hb).2 x c e, fun p hp => absurd (show p ∈ ([] : List (Addr × Obj)) ++ [] from hp) (by simp)⟩
  have loop : codeAny (model X.prog X.w) X.A (.compLoop (.ListComp elt [⟨tg, iter, ifs, 0⟩] scope pos) 0 (.ref it) (.ref D) ce) (compPost (model X.prog X.w) X.A X.xe use Qf (.ref D) s3.heap.objs.size) s4 := by
    refine compLoop_any (fun n s' => ∃ i H', Inv (X.blk s3 H3 scope ce fp) [] (wipe σ (own.map (·.2))) H' s' ∧ tn i s'.heap ∧ (∀ b ∈ fp, H' b = none) ∧ W i n H') ?_ m0 ⟨0, H3, I4, st4, nfp, w0⟩
    rintro n s5 ⟨i, H5, I5, st5, n5, w5⟩
    rcases turn i n H5 w5 with ⟨stop, qq⟩ | ⟨go, Nx, hNx, step⟩
    · have td := T.done (X.blk s3 H3 scope ce fp) rfl rfl rfl hc i [] s5 _ H5 (fun _ _ => False) I5 (stat I5 n5) st5 stop
      refine thnF td fun r s6 ⟨hr, I6⟩ => ?_
      subst hr
      -- back in the def's context
      have I7 : Inv X pins σ H5 s6 := I3.call' (ch := fp) I6.os I6.base I6.hok I6.bare fun b hb => ⟨(f3 b hb).1.2.2.2.1, (f3 b hb).1.2.1, (f3 b hb).1.2.2.2.2.1, (f3 b hb).1.2.2.2.2.2⟩
      have nC : H5 s3.heap.objs.size = none := by
        have z : H5 ce.locals = none := I6.free
        rw [cL] at z
        exact z
      obtain ⟨m, hn, _⟩ := I6.loc
      have hn : s6.heap.Ns ce.locals m := hn
      rw [cL] at hn
      exact hRR D s3.heap.objs.size s6 m H5 I7 qq hn (I3.fpOk (Nat.le_refl _) nC)
    · have ti := T.item (X.blk s3 H3 scope ce fp) rfl rfl rfl hc i [] s5 _ H5 (fun _ _ => False) I5 (stat I5 n5) st5 go
      refine thnF ti fun r s6 ⟨u, hr, h6⟩ => ?_
      subst hr
      refine thnF h6 fun _ s7 ⟨x, H7, I7, r7, y7, st7, n7⟩ => ?_
      have I7' := I7.pinned (stat I7 n7) (T.obj _ _ st7)
      refine thnF (pg _ s7 _ H7 x u _ I7' r7 (step x H7 y7)) fun _ s8 ⟨σ8, H8, I8, hw8, q8⟩ => ?_
      refine thnF (pt _ s8 σ8 H8 _ I8 q8) fun b s9 ⟨H9, I9, q9⟩ => ?_
      -- the turn's end
      have fin : ∀ {s' : Shared} {H' : Hp}, Inv (X.blk s3 H3 scope ce fp) ([] ++ pinsAt fp s7.heap) σ8 H' s' → Nx H' → ∃ m, m < n ∧ ∃ i H', Inv (X.blk s3 H3 scope ce fp) [] (wipe σ (own.map (·.2))) H' s' ∧ tn i s'.heap ∧ (∀ b ∈ fp, H' b = none) ∧ W i m H' := fun {s' H'} I' nx => by
        obtain ⟨m', hm, w'⟩ := hNx H' nx
        have pin' : ∀ b ∈ fp, ∀ o, s7.heap.get? b = some o → s'.heap.get? b = some o ∧ H' b = none := fun b hb o e =>
          let z := I'.pin (b, o) (List.mem_append_right _ (List.mem_append_right _ (mem_pinsAt hb e)))
          ⟨z.1, z.2.1⟩
        have hl : (wipe σ (own.map (·.2))).length = σ8.length := by rw [← hw8, wipe_length]
        refine ⟨m', hm, i + 1, H', (I'.unpinned (pins := [])).weak hl (fun j v e => ?_), T.keep _ _ _ st7 fun b hb o e => (pin' b hb o e).1, fun b hb => ?_, w'⟩
        · rw [← hw8] at e
          exact (wipe_some e).1
        · obtain ⟨o, e, _⟩ := T.obj _ _ st7 b hb
          exact (pin' b hb o e).2
      cases b with
      | false =>
        simp only [Bool.false_eq_true, if_false] at q9 ⊢
        exact fin I9 q9
      | true =>
        simp only [if_true] at q9 ⊢
        refine thnF (pe _ s9 σ8 H9 _ I9 q9) fun z s10 ⟨yv, H10, I10, r10, acc, hD10, hz10, nx⟩ => ?_
        exact app_ok (X := X.blk s3 H3 scope ce fp) I10 hD10 hz10 r10 fun s11 I11 => fin I11 nx
  exact codeAny_compStart_list loop (T.self X.A 0 _ _ _ st4 loop)
/-- as a value -/
theorem pe_lc {elt tg iter : Expr} {ifs : List Expr} {scope : Scope} {own : List (Str × Nat)} {pos : Pos} {wi : TI} {g : TG} {tt : TT} {te : TE} (hc : X.calm = true) (hN : X.N.Nodup) (hi : PI X tg iter wi) (ok : BlkOk X.N X.env.scope scope own)
    (hg : ∀ (s : Shared) (H : Hp) (C : Addr) (cl : List (Str × Addr)) (fp : List Addr), PG (X.blk s H scope (compEnvC scope cl C X.env) fp) tg g) (ht : ∀ (s : Shared) (H : Hp) (C : Addr) (cl : List (Str × Addr)) (fp : List Addr), PTs (X.blk s H scope (compEnvC scope cl C X.env) fp) ifs tt)
    (he : ∀ (s : Shared) (H : Hp) (C : Addr) (cl : List (Str × Addr)) (fp : List Addr), PE (X.blk s H scope (compEnvC scope cl C X.env) fp) elt te) (hs : ∀ x, foldedSetIterable iter X.env x = pure x := by intro _; rfl) :
    PE X (.ListComp elt [⟨tg, iter, ifs, 0⟩] scope pos) (tLc wi g tt te (own.map (·.2))) := by
  intro pins s σ H Q I h
  rw [eval_ListComp]
  refine lc_core hc hN I hi ok hg ht he hs h fun D C s' m H' I' q hn f => ⟨m, hn, fun h'' sb => ?_⟩
  obtain ⟨f0, f1, f2, f3, f4, f5⟩ := f
  exact ⟨.ref D, H', I'.turned (t' := s'.toks) (fun b o hb e => (sb.2 b hb).trans e) f0 f1 f3 f4 f5, rfl, q⟩
end
/-- over a range: Pv by the turn and the heap (the new list at D within) -/
theorem lc_range {lo : Int} {n : Nat} {g : TG} {tt : TT} {te : TE} {vs : List Nat} {σ : St} {H1 : Hp} {D : Addr} {Qd : Hp → Prop} (Pv : Nat → Hp → Prop) (h0 : Pv 0 (upd H1 D (.lst [])))
    (hs : ∀ i H, i < n → Pv i H → g (.int (lo + i)) (wipe σ vs) H fun σ2 H2 => wipe σ2 vs = wipe σ vs ∧ tt σ2 H2 fun b H3 =>
      if b = true then te σ2 H3 fun y H4 => ∃ acc, H4 D = some (.lst acc) ∧ acc.length < sizeLine ∧ Pv (i + 1) (upd H4 D (.lst (acc ++ [y]))) else Pv (i + 1) H3) (hd : ∀ H, Pv n H → Qd H) :
    ∃ W : Nat → Nat → Hp → Prop, (∃ m, W 0 m (upd H1 D (.lst []))) ∧ ∀ i m H, W i m H →
      ((Itr lo n).stop i H ∧ Qd H) ∨ ((Itr lo n).go i H ∧ ∃ Nx : Hp → Prop, (∀ H', Nx H' → ∃ m', m' < m ∧ W (i + 1) m' H') ∧ ∀ x H', (Itr lo n).yld i H x H' → g x (wipe σ vs) H' fun σ2 H2 => wipe σ2 vs = wipe σ vs ∧ tt σ2 H2 fun b H3 =>
        if b = true then te σ2 H3 fun y H4 => ∃ acc, H4 D = some (.lst acc) ∧ acc.length < sizeLine ∧ Nx (upd H4 D (.lst (acc ++ [y]))) else Nx H3) := by
  refine ⟨fun i m H => m = n - i ∧ i ≤ n ∧ Pv i H, ⟨n, by simp, Nat.zero_le _, h0⟩, ?_⟩
  rintro i m H ⟨rfl, hi, p⟩
  by_cases hlt : i < n
  · refine .inr ⟨hlt, Pv (i + 1), fun H' p' => ⟨n - (i + 1), by omega, rfl, hlt, p'⟩, fun x H' y => ?_⟩
    obtain ⟨e, y⟩ := y
    subst e y
    exact hs i _ hlt p
  · have e : i = n := by omega
    subst e
    exact .inl ⟨Nat.le_refl _, hd H p⟩
/-- over a list that the block leaves as it is -/
theorem lc_list {K : PySem.W.Frag} {a : Addr} {xs : List V} {g : TG} {tt : TT} {te : TE} {vs : List Nat} {σ : St} {H1 : Hp} {D : Addr} {Qd : Hp → Prop} (Pv : Nat → Hp → Prop) (h0 : Pv 0 (upd H1 D (.lst []))) (hl : ∀ i H, i ≤ xs.length → Pv i H → SqL K H a xs)
    (hs : ∀ i x H, xs[i]? = some x → Pv i H → g x (wipe σ vs) H fun σ2 H2 => wipe σ2 vs = wipe σ vs ∧ tt σ2 H2 fun b H3 =>
      if b = true then te σ2 H3 fun y H4 => ∃ acc, H4 D = some (.lst acc) ∧ acc.length < sizeLine ∧ Pv (i + 1) (upd H4 D (.lst (acc ++ [y]))) else Pv (i + 1) H3) (hd : ∀ H, Pv xs.length H → Qd H) :
    ∃ W : Nat → Nat → Hp → Prop, (∃ m, W 0 m (upd H1 D (.lst []))) ∧ ∀ i m H, W i m H →
      ((Itl K a).stop i H ∧ Qd H) ∨ ((Itl K a).go i H ∧ ∃ Nx : Hp → Prop, (∀ H', Nx H' → ∃ m', m' < m ∧ W (i + 1) m' H') ∧ ∀ x H', (Itl K a).yld i H x H' → g x (wipe σ vs) H' fun σ2 H2 => wipe σ2 vs = wipe σ vs ∧ tt σ2 H2 fun b H3 =>
        if b = true then te σ2 H3 fun y H4 => ∃ acc, H4 D = some (.lst acc) ∧ acc.length < sizeLine ∧ Nx (upd H4 D (.lst (acc ++ [y]))) else Nx H3) := by
  refine ⟨fun i m H => m = xs.length - i ∧ i ≤ xs.length ∧ Pv i H, ⟨xs.length, by simp, Nat.zero_le _, h0⟩, ?_⟩
  rintro i m H ⟨rfl, hi, p⟩
  have q := hl i H hi p
  by_cases hlt : i < xs.length
  · refine .inr ⟨⟨xs, xs[i], q, by simp [hlt]⟩, Pv (i + 1), fun H' p' => ⟨xs.length - (i + 1), by omega, rfl, hlt, p'⟩, fun x H' y => ?_⟩
    obtain ⟨e, y⟩ := y
    subst e
    exact hs i x _ (y xs q) p
  · have e : i = xs.length := by omega
    subst e
    exact .inl ⟨⟨xs, q, Nat.le_refl _⟩, hd H p⟩
/-- over a tuple -/
theorem lc_tup {K : PySem.W.Frag} {a : Addr} {xs : List V} {g : TG} {tt : TT} {te : TE} {vs : List Nat} {σ : St} {H1 : Hp} {D : Addr} {Qd : Hp → Prop} (Pv : Nat → Hp → Prop) (h0 : Pv 0 (upd H1 D (.lst []))) (hl : ∀ i H, i ≤ xs.length → Pv i H → SqT K H a xs)
    (hs : ∀ i x H, xs[i]? = some x → Pv i H → g x (wipe σ vs) H fun σ2 H2 => wipe σ2 vs = wipe σ vs ∧ tt σ2 H2 fun b H3 =>
      if b = true then te σ2 H3 fun y H4 => ∃ acc, H4 D = some (.lst acc) ∧ acc.length < sizeLine ∧ Pv (i + 1) (upd H4 D (.lst (acc ++ [y]))) else Pv (i + 1) H3) (hd : ∀ H, Pv xs.length H → Qd H) :
    ∃ W : Nat → Nat → Hp → Prop, (∃ m, W 0 m (upd H1 D (.lst []))) ∧ ∀ i m H, W i m H →
      ((Itt K a).stop i H ∧ Qd H) ∨ ((Itt K a).go i H ∧ ∃ Nx : Hp → Prop, (∀ H', Nx H' → ∃ m', m' < m ∧ W (i + 1) m' H') ∧ ∀ x H', (Itt K a).yld i H x H' → g x (wipe σ vs) H' fun σ2 H2 => wipe σ2 vs = wipe σ vs ∧ tt σ2 H2 fun b H3 =>
        if b = true then te σ2 H3 fun y H4 => ∃ acc, H4 D = some (.lst acc) ∧ acc.length < sizeLine ∧ Nx (upd H4 D (.lst (acc ++ [y]))) else Nx H3) := by
  refine ⟨fun i m H => m = xs.length - i ∧ i ≤ xs.length ∧ Pv i H, ⟨xs.length, by simp, Nat.zero_le _, h0⟩, ?_⟩
  rintro i m H ⟨rfl, hi, p⟩
  have q := hl i H hi p
  by_cases hlt : i < xs.length
  · refine .inr ⟨⟨xs, xs[i], q, by simp [hlt]⟩, Pv (i + 1), fun H' p' => ⟨xs.length - (i + 1), by omega, rfl, hlt, p'⟩, fun x H' y => ?_⟩
    obtain ⟨e, y⟩ := y
    subst e
    exact hs i x _ (y xs q) p
  · have e : i = xs.length := by omega
    subst e
    exact .inl ⟨⟨xs, q, Nat.le_refl _⟩, hd H p⟩
def blkC (N : List Str) (sc scope : Scope) (own : List (Str × Nat)) : Bool :=
  (match scope.kind with | .function => true | _ => false) && (scope.names.all fun y => decide (scope.names.lookup y.1 = some y.2)) && (own.all fun p => decide (N[p.2]? = some p.1)) &&
    (scope.names.all fun y => match y.2 with
      | .free => (match sc.names.lookup y.1 with | some .cell => true | some .free => true | _ => false)
      | .local => decide (y.1 ∈ own.map (·.1)) || decide (y.1 ∉ N)
      | .cell => decide (y.1 ∈ own.map (·.1)) || decide (y.1 ∉ N)
      | _ => true)
theorem blkOk_by {N : List Str} {sc scope : Scope} {own : List (Str × Nat)} (h : blkC N sc scope own = true) : BlkOk N sc scope own := by
  unfold blkC at h
  simp only [Bool.and_eq_true, List.all_eq_true, decide_eq_true_eq] at h
  obtain ⟨⟨⟨h1, h2⟩, h3⟩, h4⟩ := h
  refine ⟨?_, h2, h3, fun y hy e => ?_, fun y hy e => ?_⟩
  · split at h1
    · assumption
    · cases h1
  · have q := h4 y hy
    simp only [e] at q
    split at q <;> first | exact .inl (by assumption) | exact .inr (by assumption) | cases q
  · have q := h4 y hy
    rcases e with e | e <;> (simp only [e, Bool.or_eq_true, decide_eq_true_eq] at q; exact q)
end L2
namespace L2
open PySem PySem.Spec PyProof.Rows
end L2
namespace L2
open PySem PySem.Spec PyProof.Rows
section
variable {κ : Type} [DecidableEq κ]
def valV (kvs : List (κ × V)) (k : κ) : Option V := (kvs.find? fun kv => decide (kv.1 = k)).map (·.2)
/-- in its place, or at the end -/
def putK (kvs : List (κ × V)) (k : κ) (v : V) : List (κ × V) :=
  if (kvs.any fun kv => decide (kv.1 = k)) = true then kvs.map (fun kv => if kv.1 = k then (kv.1, v) else kv) else kvs ++ [(k, v)]
def dropK (kvs : List (κ × V)) (k : κ) : List (κ × V) := kvs.filter fun kv => decide (kv.1 ≠ k)
theorem valV_pos {p : κ × V} {r : List (κ × V)} {k : κ} (e : p.1 = k) : valV (p :: r) k = some p.2 := by simp [valV, List.find?_cons, e]
theorem valV_neg {p : κ × V} {r : List (κ × V)} {k : κ} (e : ¬ p.1 = k) : valV (p :: r) k = valV r k := by simp [valV, List.find?_cons, e]
theorem valV_any (k : κ) : ∀ kvs : List (κ × V), (kvs.any fun kv => decide (kv.1 = k)) = (valV kvs k).isSome
  | [] => rfl
  | p :: r => by
    rw [List.any_cons]
    by_cases e : p.1 = k
    · simp only [valV_pos e, decide_eq_true e, Bool.true_or, Option.isSome_some]
    · rw [valV_neg e, decide_eq_false e, Bool.false_or]; exact valV_any k r
theorem valV_map (k j : κ) (y : V) : ∀ kvs : List (κ × V), valV (kvs.map fun kv => if kv.1 = k then (kv.1, y) else kv) j = (valV kvs j).map fun x => if j = k then y else x
  | [] => rfl
  | p :: r => by
    have ih := valV_map k j y r
    rw [List.map_cons]
    by_cases h : p.1 = k
    · rw [if_pos h]
      by_cases e : p.1 = j
      · rw [valV_pos (p := (p.1, y)) e, valV_pos e, Option.map_some, if_pos (e.symm.trans h)]
      · rw [valV_neg (p := (p.1, y)) e, valV_neg e, ih]
    · rw [if_neg h]
      by_cases e : p.1 = j
      · rw [valV_pos (p := p) e, valV_pos e, Option.map_some, if_neg (fun z => h (e.trans z))]
      · rw [valV_neg (p := p) e, valV_neg e, ih]
theorem valV_snoc (k j : κ) (y : V) : ∀ kvs : List (κ × V), valV kvs k = none → valV (kvs ++ [(k, y)]) j = if j = k then some y else valV kvs j
  | [], _ => by
    by_cases e : k = j
    · rw [if_pos e.symm]; exact valV_pos (p := (k, y)) e
    · rw [if_neg (fun z => e z.symm)]; exact valV_neg (p := (k, y)) e
  | p :: r, hn => by
    rw [List.cons_append]
    have hk : ¬ p.1 = k := fun z => by rw [valV_pos z] at hn; cases hn
    rw [valV_neg hk] at hn
    have ih := valV_snoc k j y r hn
    by_cases e : p.1 = j
    · rw [valV_pos e, valV_pos e, if_neg (fun z => hk (e.trans z))]
    · rw [valV_neg e, valV_neg e, ih]
theorem valV_put (kvs : List (κ × V)) (k j : κ) (y : V) : valV (putK kvs k y) j = if j = k then some y else valV kvs j := by
  unfold putK
  by_cases a : (kvs.any fun kv => decide (kv.1 = k)) = true
  · rw [if_pos a, valV_map]
    rw [valV_any] at a
    by_cases e : j = k
    · obtain ⟨x, hx⟩ := Option.isSome_iff_exists.mp a
      rw [if_pos e, e, hx, Option.map_some, if_pos rfl]
    · rw [if_neg e]
      cases valV kvs j with
      | none => rfl
      | some x => rw [Option.map_some, if_neg e]
  · rw [if_neg a]
    refine valV_snoc k j y kvs ?_
    rw [valV_any] at a
    cases q : valV kvs k with
    | none => rfl
    | some x => rw [q] at a; exact (a rfl).elim
theorem length_putK (kvs : List (κ × V)) (k : κ) (v : V) : (putK kvs k v).length ≤ kvs.length + 1 := by
  unfold putK
  split
  · rw [List.length_map]; omega
  · rw [List.length_append, List.length_cons, List.length_nil]; omega
theorem RelO.isSome_eq {o : Option V} {u : Option Value} (r : RelO o u) : o.isSome = u.isSome := by
  cases o with
  | none => cases u with
    | none => rfl
    | some _ => exact (show False from r).elim
  | some _ => cases u with
    | none => exact (show False from r).elim
    | some _ => rfl
theorem RelO.getD {o : Option V} {u : Option Value} {d : V} {d' : Value} (r : RelO o u) (rd : RelV d d') : RelV (o.getD d) (u.getD d') := by
  cases o with
  | none => cases u with
    | none => exact rd
    | some _ => exact (show False from r).elim
  | some _ => cases u with
    | none => exact (show False from r).elim
    | some _ => exact r
/-- raw tables of the same keys -/
theorem KV.val {kvs : List (κ × V)} {vs : List (κ × Value)} (r : KV kvs vs) (k : κ) : RelO (valV kvs k) (valueAt vs k) := by
  unfold KV at r
  induction r with
  | nil => exact True.intro
  | @cons p q ps qs h t ih =>
    obtain ⟨h1, h2⟩ := h
    by_cases e : p.1 = k
    · have e' : q.1 = k := h1.symm.trans e
      have b : valueAt (q :: qs) k = some q.2 := by simp [valueAt, List.find?_cons, e']
      rw [valV_pos e, b]; exact h2
    · have e' : ¬ q.1 = k := fun z => e (h1.trans z)
      have b : valueAt (q :: qs) k = valueAt qs k := by simp [valueAt, List.find?_cons, e']
      rw [valV_neg e, b]; exact ih
theorem KV.any {kvs : List (κ × V)} {vs : List (κ × Value)} (r : KV kvs vs) (k : κ) : (kvs.any fun kv => decide (kv.1 = k)) = vs.any fun kv => decide (kv.1 = k) := by
  unfold KV at r
  induction r with
  | nil => rfl
  | cons h t ih => rw [List.any_cons, List.any_cons, ih, h.1]
theorem KV.repl {kvs : List (κ × V)} {vs : List (κ × Value)} (r : KV kvs vs) (k : κ) {y : V} {u : Value} (ry : RelV y u) :
    KV (kvs.map fun kv => if kv.1 = k then (kv.1, y) else kv) (vs.map fun kv => if kv.1 = k then (kv.1, u) else kv) := by
  unfold KV at r ⊢
  induction r with
  | nil => exact .nil
  | @cons p q ps qs h t ih =>
    rw [List.map_cons, List.map_cons]
    refine .cons ?_ ih
    obtain ⟨h1, h2⟩ := h
    by_cases e : p.1 = k
    · rw [if_pos e, if_pos (h1.symm.trans e)]; exact ⟨h1, ry⟩
    · rw [if_neg e, if_neg (fun z => e (h1.trans z))]; exact ⟨h1, h2⟩
theorem KV.put {kvs : List (κ × V)} {vs : List (κ × Value)} (r : KV kvs vs) (k : κ) {y : V} {u : Value} (ry : RelV y u) : KV (putK kvs k y) (stored vs k u) := by
  unfold putK stored
  rw [r.any k]
  by_cases e : (vs.any fun kv => decide (kv.1 = k)) = true
  · rw [if_pos e, if_pos e]; exact r.repl k ry
  · rw [if_neg e, if_neg e]; exact Paired.snoc r ⟨rfl, ry⟩
theorem KV.drop {kvs : List (κ × V)} {vs : List (κ × Value)} (r : KV kvs vs) (k : κ) : KV (dropK kvs k) (without vs k) := by
  unfold KV at r ⊢
  unfold dropK without
  induction r with
  | nil => exact .nil
  | @cons p q ps qs h t ih =>
    obtain ⟨h1, h2⟩ := h
    rw [List.filter_cons, List.filter_cons]
    by_cases e : p.1 = k
    · have a : ¬ decide (p.1 ≠ k) = true := by simp [e]
      have b : ¬ decide (q.1 ≠ k) = true := by simp [h1.symm.trans e]
      rw [if_neg a, if_neg b]; exact ih
    · have e' : ¬ q.1 = k := fun z => e (h1.trans z)
      have a : decide (p.1 ≠ k) = true := by simp [e]
      have b : decide (q.1 ≠ k) = true := by simp [e']
      rw [if_pos a, if_pos b]; exact .cons ⟨h1, h2⟩ ih
theorem KV.keys {kvs : List (κ × V)} {vs : List (κ × Value)} (r : KV kvs vs) : kvs.map (·.1) = vs.map (·.1) := by
  unfold KV at r
  induction r with
  | nil => rfl
  | cons h t ih => rw [List.map_cons, List.map_cons, ih, h.1]
theorem KV.length {kvs : List (κ × V)} {vs : List (κ × Value)} (r : KV kvs vs) : kvs.length = vs.length := Paired.length r
end
/-! ### a tracked dict, its keys ints and texts or tuples of these -/
theorem kV_is {P : Program} {w : World} {k : Key} {u : Value} (r : RelV (kV k) u) : (mixKind P w).is k u = true := by
  cases k with
  | inl i => obtain ⟨t, e⟩ := (show ∃ t, u = Value.int i t from r); subst e; exact mixKind_int P w i t
  | inr x => obtain ⟨t, e⟩ := (show ∃ t, u = Value.str x t from r); subst e; exact mixKind_str P w x t
theorem items_are {P : Program} {w : World} : ∀ {ks : List Key} {us : List Value}, Vals (ks.map kV) us → ItemsAre (mixKind P w) ks us
  | [], _, r => by rw [List.map_nil] at r; cases r; exact .nil
  | k :: ks, _, r => by
    rw [List.map_cons] at r
    cases r with
    | cons h t => exact .cons (kV_is h) (items_are t)
/-- raw entries of a dict with tuple keys -/
abbrev KT (H : Hp) : List (List Key × V) → List (List Key × Addr × Value) → Prop := Paired fun p q => p.1 = q.1 ∧ H q.2.1 = some (.tup (p.1.map kV)) ∧ RelV p.2 q.2.2
theorem KT.val {H : Hp} {kvs : List (List Key × V)} {xs : List (List Key × Addr × Value)} (r : KT H kvs xs) (k : List Key) : RelO (valV kvs k) ((atKey xs k).map (·.2)) := by
  induction r with
  | nil => exact True.intro
  | @cons p q ps qs h t ih =>
    obtain ⟨h1, _, h2⟩ := h
    by_cases e : p.1 = k
    · have e' : q.1 = k := h1.symm.trans e
      have b : atKey (q :: qs) k = some q.2 := by simp [atKey, List.find?_cons, e']
      rw [valV_pos e, b]; exact h2
    · have e' : ¬ q.1 = k := fun z => e (h1.trans z)
      have b : atKey (q :: qs) k = atKey qs k := by simp [atKey, List.find?_cons, e']
      rw [valV_neg e, b]; exact ih
theorem KT.repl {H : Hp} {kvs : List (List Key × V)} {xs : List (List Key × Addr × Value)} (r : KT H kvs xs) (k : List Key) {y : V} {u : Value} (ry : RelV y u) :
    KT H (kvs.map fun kv => if kv.1 = k then (kv.1, y) else kv) (xs.map (putAt k u)) := by
  induction r with
  | nil => exact .nil
  | @cons p q ps qs h t ih =>
    rw [List.map_cons, List.map_cons]
    refine .cons ?_ ih
    obtain ⟨h1, h2, h3⟩ := h
    unfold putAt
    by_cases e : p.1 = k
    · rw [if_pos e, if_pos (h1.symm.trans e)]; exact ⟨h1, h2, ry⟩
    · rw [if_neg e, if_neg (fun z => e (h1.trans z))]; exact ⟨h1, h2, h3⟩
theorem KT.put {H : Hp} {kvs : List (List Key × V)} {xs : List (List Key × Addr × Value)} (r : KT H kvs xs) (k : List Key) {b : Addr} {y : V} {u : Value} (hb : H b = some (.tup (k.map kV))) (ry : RelV y u) :
    KT H (putK kvs k y) (storedH xs k b u) := by
  have e : (kvs.any fun kv => decide (kv.1 = k)) = (atKey xs k).isSome := by
    rw [valV_any, (r.val k).isSome_eq, Option.isSome_map]
  unfold putK storedH
  rw [e]
  by_cases q : (atKey xs k).isSome = true
  · rw [if_pos q, if_pos q]; exact r.repl k ry
  · rw [if_neg q, if_neg q]; exact Paired.snoc r ⟨rfl, hb, ry⟩
theorem KT.keeps {H H' : Hp} {kvs : List (List Key × V)} {xs : List (List Key × Addr × Value)} (r : KT H kvs xs) (ht : ∀ b ys, H b = some (.tup ys) → H' b = some (.tup ys)) : KT H' kvs xs :=
  Paired.mapP r fun _ _ z => ⟨z.1, ht _ _ z.2.1, z.2.2⟩
section
variable {P : Program} {w : World} {H : Hp} {h : Heap} {a : Addr}
theorem rd_of {u : HO} (ok : HOk P w H h) (e : Rd H a u) : ObjOk P w H h a u := e.ok ok
theorem dk_rd {kvs : List (Key × V)} (ok : HOk P w H h) (e : Rd H a (.dK kvs)) : kvs.length ≤ sizeLine ∧ (a == sysModules) = false ∧ ∃ vs, KV kvs vs ∧ h.DictOf (mixKind P w) a vs :=
  show ObjOk P w H h a (.dK kvs) from rd_of ok e
/-- a tracked tuple of ints and texts is a key -/
theorem key_of {ks : List Key} (ok : HOk P w H h) (e : H a = some (.tup (ks.map kV))) : (tupleKind (mixKind P w)).is h ks a := by
  obtain ⟨_, its, r, o, h1, h2, _, n, h3⟩ := (show ObjOk P w H h a (.tup (ks.map kV)) from ok a _ e)
  exact ⟨o, its.toArray, n, h1, h2, h3, by simpa using items_are r⟩
theorem dt_rd {kvs : List (List Key × V)} (ok : HOk P w H h) (e : Rd H a (.dT kvs)) : kvs.length ≤ sizeLine ∧ (a == sysModules) = false ∧
    ∃ xs, KT H kvs xs ∧ h.DictOfH (tupleKind (mixKind P w)) a xs := by
  obtain ⟨z, y, xs, r, o, es, ep, h1, h2, h3, h4, h5⟩ := (show ObjOk P w H h a (.dT kvs) from rd_of ok e)
  refine ⟨z, y, xs, r, o, es, ep, h1, h2, h3, h4, fun x hx => ?_, h5⟩
  have all : ∀ {l : List (List Key × V)} {m : List (List Key × Addr × Value)}, KT H l m → ∀ x ∈ m, (tupleKind (mixKind P w)).is h x.1 x.2.1 := by
    intro l m q
    induction q with
    | nil => intro x hx; exact nomatch hx
    | @cons p q ps qs hq t ih =>
      intro x hx
      rcases List.mem_cons.mp hx with e | hx
      · subst e
        exact key_of ok (by rw [← hq.1]; exact hq.2.1)
      · exact ih x hx
  exact all r x hx
end
/-- what the dict at a holds at the key y -/
def DGet (H : Hp) (a : Addr) (y : V) (r : Option V) : Prop :=
  (∃ kvs k, Rd H a (.dK kvs) ∧ y = kV k ∧ r = valV kvs k) ∨ ∃ kvs k b, Rd H a (.dT kvs) ∧ y = .ref b ∧ H b = some (.tup (k.map kV)) ∧ r = valV kvs k
/-- the heap behind a[y] = v -/
def DPut (H : Hp) (a : Addr) (y v : V) (H' : Hp) : Prop :=
  (∃ kvs k, H a = some (.dK kvs) ∧ y = kV k ∧ kvs.length < sizeLine ∧ H' = upd H a (.dK (putK kvs k v))) ∨
  ∃ kvs k b, H a = some (.dT kvs) ∧ y = .ref b ∧ H b = some (.tup (k.map kV)) ∧ kvs.length < sizeLine ∧ H' = upd H a (.dT (putK kvs k v))
theorem DGet.k {H : Hp} {a : Addr} {kvs : List (Key × V)} {k : Key} (e : H a = some (.dK kvs)) : DGet H a (kV k) (valV kvs k) := .inl ⟨kvs, k, .inl e, rfl, rfl⟩
theorem DGet.t {H : Hp} {a b : Addr} {kvs : List (List Key × V)} {k : List Key} (e : H a = some (.dT kvs)) (eb : H b = some (.tup (k.map kV))) : DGet H a (.ref b) (valV kvs k) := .inr ⟨kvs, k, b, .inl e, rfl, eb, rfl⟩
theorem DPut.k {H : Hp} {a : Addr} {kvs : List (Key × V)} {k : Key} {v : V} (e : H a = some (.dK kvs)) (hl : kvs.length < sizeLine) : DPut H a (kV k) v (upd H a (.dK (putK kvs k v))) := .inl ⟨kvs, k, e, rfl, hl, rfl⟩
theorem DPut.t {H : Hp} {a b : Addr} {kvs : List (List Key × V)} {k : List Key} {v : V} (e : H a = some (.dT kvs)) (eb : H b = some (.tup (k.map kV))) (hl : kvs.length < sizeLine) :
    DPut H a (.ref b) v (upd H a (.dT (putK kvs k v))) := .inr ⟨kvs, k, b, e, rfl, eb, hl, rfl⟩
section
variable {X : Cx} {pins : List (Addr × Obj)} {σ : St} {H : Hp} {s : Shared} {a : Addr} {y v : V} {u r : Value} {o : Option V} {A : Around} {E : Value → Shared → Prop}
theorem Inv.big (I : Inv X pins σ H s) : sysModules < s.heap.objs.size := by
  have h : mainGlobals < s.heap.objs.size := (I.mod.glob.keeps I.bk).lt
  exact Nat.lt_trans (by decide) h
/-- d[y], there -/
theorem d_getItem {Q : Value → Shared → Prop} (hu : A.units + 1 < cLine) (I : Inv X pins σ H s) (g : DGet H a y (some v)) (ry : RelV y u) (h : ∀ w' s', Inv X pins σ H s' → RelV v w' → Q w' s') :
    wpAny (model X.prog X.w) A (getItem (.ref a) u) Q E s := by
  rcases g with ⟨kvs, k, e, ey, l⟩ | ⟨kvs, k, b, e, ey, eb, l⟩
  · subst ey
    obtain ⟨z, hd, vs, rel, dd⟩ := dk_rd I.hok e
    obtain ⟨w', hw, rw'⟩ := RelO.some_of (v := v) (o := valueAt vs k) (by rw [l]; exact rel.val k)
    exact wpAny_getItem_of (kV_is ry) dd.mapOf hw (h w' _ (I.tok _) rw')
  · subst ey
    cases (show u = Value.ref b from ry)
    obtain ⟨z, hd, xs, rel, dd⟩ := dt_rd I.hok e
    obtain ⟨w', hw, rw'⟩ := RelO.some_of (v := v) (o := (atKey xs k).map (·.2)) (by rw [l]; exact rel.val k)
    obtain ⟨p, hp, hp2⟩ := Option.map_eq_some_iff.mp hw
    refine wpAny_getItem_heap (tupleKind_room_in1 hu) (key_of I.hok eb) dd hp ?_
    rw [hp2]
    exact h w' _ (I.tok _) rw'
end
/-- the element of a subscription, not a slice -/
def NoSl (i : Expr) : Prop := ∀ ov iv, subscripted i false ov iv = operate [ov, iv] (getItem ov iv)
theorem subD_of {prog : Program} {w : World} {A : Around} {E : Value → Shared → Prop} {s : Shared} {env : Env} {value slice : Expr} {pos : Pos} {T id : String} {Q : Value → Shared → Prop}
    (hl : typeLookup (.type T) "__getitem__" = pure (some (.builtin id))) (hs : NoSl slice)
    (h : wpAny (model prog w) A (eval value env) (fun o s₁ => wpAny (model prog w) A (eval slice env) (fun i s₂ => s₂.TypeIs o T ∧ wpAny (model prog w) A (getItem o i) Q E s₂) E s₁) E s) :
    wpAny (model prog w) A (eval (.Subscript value slice pos) env) Q E s := by
  refine Subscript_ (wpAny_mono h (fun o s₁ h₁ => wpAny_mono h₁ (fun i s₂ h₂ => ?_) fun _ _ x => x) fun _ _ x => x)
  obtain ⟨hT, h₂⟩ := h₂
  unfold subscriptTail
  refine wpAny_bind ?_
  rw [getitemInPython_of_ne hT.not_modules]
  refine wpAny_bind (wpAny_specialOf hT hl ?_)
  have fin : wpAny (model prog w) A (subscripted slice false o i) (fun r s₃ => wpAny (model prog w) A (letTemporaryGo value o r >>= fun _ => pure r) Q E s₃) E s₂ := by
    rw [hs o i]
    exact wpAny_operating (wpAny_mono h₂ (fun r s₃ h₃ => wpAny_bind (wpAny_letTemporaryGo (wpAny_pure h₃))) fun _ _ x => x)
  first
    | exact wpAny_pure (wpAny_bind fin)
    | exact wpAny_bind (wpAny_pure (wpAny_bind fin))
    | exact wpAny_bind fin
theorem dict_typeIs {X : Cx} {pins : List (Addr × Obj)} {σ : St} {H : Hp} {s : Shared} {a : Addr} {y : V} {o : Option V} (I : Inv X pins σ H s) (g : DGet H a y o) : s.TypeIs (.ref a) "dict" := by
  rcases g with ⟨kvs, k, e, _, _⟩ | ⟨kvs, k, b, e, _, _, _⟩
  · obtain ⟨_, _, vs, _, dd⟩ := dk_rd I.hok e
    exact dd.typeIs
  · obtain ⟨_, _, xs, _, dd⟩ := dt_rd I.hok e
    exact dd.typeIs
/-- d[y] -/
def tDGet (td ty : TE) : TE := fun σ H Q => td σ H fun x H1 => ty σ H1 fun y H2 => ∃ a v, x = .ref a ∧ DGet H2 a y (some v) ∧ Q v H2
section
variable {X : Cx} {o i e value : Expr} {pos pos' tpos : Pos} {td ty tv : TE}
theorem pe_dget (hu : X.A.units + 1 < cLine) (ho : PE X o td) (hi : PE X i ty) (hs : NoSl i) : PE X (.Subscript o i pos) (tDGet td ty) := by
  intro pins s σ H Q I h
  refine subD_of PySem.F.slot_dict_getitem.lookup hs (thn (ho pins s σ H _ I h) fun u s1 ⟨x, H1, I1, rx, q1⟩ => thn (hi pins s1 σ H1 _ I1 q1) fun iv s2 ⟨y, H2, I2, ry, a, v, ex, g, q2⟩ => ?_)
  subst ex
  obtain rfl : u = Value.ref a := rx
  exact ⟨dict_typeIs I2 g, d_getItem hu I2 g ry fun w' s3 I3 rw' => ⟨v, H2, I3, rw', q2⟩⟩
end
def mergeK (kvs more : List (Key × V)) : List (Key × V) := more.foldl (fun acc kv => putK acc kv.1 kv.2) kvs
theorem KV.merge : ∀ {more : List (Key × V)} {rs : List (Key × Value)} {kvs : List (Key × V)} {vs : List (Key × Value)}, KV more rs → KV kvs vs → KV (mergeK kvs more) (merged vs rs) := by
  intro more rs kvs vs r
  unfold KV at r
  induction r generalizing kvs vs with
  | nil => intro q; exact q
  | @cons p q ps qs h t ih =>
    intro r0
    have e : KV (putK kvs p.1 p.2) (stored vs q.1 q.2) := by
      have := r0.put p.1 h.2
      rw [← h.1]; exact this
    exact ih e
theorem length_mergeK : ∀ (more kvs : List (Key × V)), (mergeK kvs more).length ≤ kvs.length + more.length
  | [], kvs => by show kvs.length ≤ kvs.length + 0; omega
  | p :: r, kvs => by
    have h1 := length_mergeK r (putK kvs p.1 p.2)
    have h2 := length_putK kvs p.1 p.2
    show (mergeK (putK kvs p.1 p.2) r).length ≤ _
    rw [List.length_cons]; omega
end L2
namespace L2
open PySem PySem.Spec PyProof.Rows
theorem list_keys_none : typeLookup (.type "list") "keys" = pure none := am_miss_of_fast (by first | decide +kernel | rfl)
theorem ud_entry : entryFor table "dict.update.loop" = some Builtin.«dict.update.loop» := entryFor_of_tree (by kernel_rfl)
theorem ud_plain : plainId "dict.update.loop" = true := by decide +kernel
section
variable {prog : Program} {w : World} {A : Around} {E : Value → Shared → Prop}
/-- a list has no attribute 'keys': an AttributeError is made, and forgotten -/
theorem miss_list {s : Shared} {a : Addr} {o : Obj} {xs : Array Value} {k : Nat} {Q : Option Value → Shared → Prop} (hx : s.heap.get? a = some o) (hc : o.cls = .type "list") (hdat : o.data = .seq xs k) (hd : o.dict = none) (hA : A.handled = none)
    (h : ∀ h' tk, (∀ b ob, s.heap.get? b = some ob → h'.get? b = some ob) → Q none { s with heap := h', toks := tk }) : wpAny (model prog w) A (getAttr? (.ref a) "keys") Q E s := by
  obtain ⟨c, dct, dat, sl⟩ := o
  simp only at hc hdat hd
  subst hc hdat hd
  obtain ⟨hp, g, d, tk, os⟩ := s
  have hT : ∀ tk', (⟨hp, g, d, tk', os⟩ : Shared).TypeIs (.ref a) "list" := fun _ => ⟨_, hx, rfl⟩
  have hmiss := list_keys_none
  have hname : (["__module__", "__name__", "__qualname__", "__doc__", "__annotations__"] : List Str).contains "keys" = false := by decide +kernel
  have hsz : ("keys" : Str).length + 100 ≤ sizeLine := by first | size_fits | decide +kernel
  have f1 := sub_AttributeError
  have f3 := PySem.F.slot_list_getattribute.lookup
  have f4 := PySem.F.slot_list_getattribute.bind (.ref a)
  have f5 := am_list_getattr_none
  unfold getAttr? getAttrBy? getAttrBy
  repeat (any_goals (first | assumption | exact hT _ | ((with_reducible show wpAny _ _ (call (Value.builtin "list.__getattribute__") _ _) _ _ _); refine call_meets PySem.F.slot_list_getattribute (hT _) am_entry_list_getattribute (PySem.F.args_list_getattribute_2 _ _) (meets_getattribute_miss_list a xs k sl "keys" _ hmiss hname hsz) ⟨hx, hA, fun h' tk' e hx' => ?_⟩) | wp_step))
  obtain ⟨t', u', he⟩ := hx'.there
  show wpAny _ _ (getattributeRaised _ _ _ _ _ _ _) _ _ _
  unfold getattributeRaised
  repeat (any_goals (first | assumption | wp_step))
  all_goals first | exact h _ _ hx'.keeps | (dsimp only; repeat (any_goals (first | assumption | exact h _ _ hx'.keeps | wp_step)))
/-- the walk over the pairs -/
theorem upd_loop {R : Result → Shared → Prop} {S I l : Addr} {items : Array Value} {res : Value} (hh : A.handled = none) (hlI : l ≠ I) (hSI : S ≠ I) (hSl : S ≠ l) :
    ∀ (rest : List (Key × Value)) (i : Nat) (acc : List (Key × Value)) (ix : Int) (t : Tok) (s : Shared), items.size = i + rest.length → acc.length + rest.length ≤ sizeLine →
      (∀ (j : Nat) (q : Key × Value), rest[j]? = some q → ∃ (b : Addr) (u : Value), items[i + j]? = some (.ref b) ∧ b ≠ S ∧ b ≠ I ∧ IsTup s.heap b #[u, q.2] ∧ keyIs q.1 u = true) →
      s.heap.IsListIter I l i → s.heap.IsList l items → s.heap.DictOf (mixKind prog w) S acc →
      (∀ h' tk, h'.DictOf (mixKind prog w) S (merged acc rest) → (∀ b o, b ≠ S → b ≠ I → s.heap.get? b = some o → h'.get? b = some o) → R (.ok (.ret res)) { s with heap := h', toks := tk }) →
      codeAny (model prog w) A (.builtin "dict.update.loop" ⟨[.ref S, .ref I, .int ix t, res], []⟩) R s
  | [], i, acc, ix, t, s, hsz, hln, ht, hit, hl, hm, hR => by
    refine codeAny_builtin ud_entry ?_
    rw [Around.under_plainId ud_plain _]
    show wpAny _ A.in1 (pyNext (.ref I) >>= _) _ _ s
    refine wpAny_bind (wpAny_pyNext_list_end (A := A.in1) hh hit hl (by first | exact Array.getElem?_eq_none (Nat.le_of_eq hsz) | (simp at hsz; simp; omega)) fun h' he => ?_)
    show wpAny _ A.in1 (Builtin.Dict.addKeywords S [] >>= _) _ _ _
    refine wpAny_bind (wpAny_pure (wpAny_pure ?_))
    exact hR h' s.toks (hm.extBut he hSI) fun b o _ hb e => he b o hb e
  | q :: rest, i, acc, ix, t, s, hsz, hln, ht, hit, hl, hm, hR => by
    obtain ⟨b, u, hb, hbS, hbI, htup, hk⟩ := ht 0 q rfl
    rw [List.length_cons] at hsz hln
    refine codeAny_builtin ud_entry ?_
    rw [Around.under_plainId ud_plain _]
    show wpAny _ A.in1 (pyNext (.ref I) >>= _) _ _ s
    refine wpAny_bind (wpAny_pyNext_list_item (x := .ref b) hit hl (by simpa using hb) fun h1 hit1 hs1 => ?_)
    have ht1 : IsTup h1 b #[u, q.2] := htup.extBut hs1.extBut hbI
    have hl1 : h1.IsList l items := hl.extBut hs1.extBut hlI
    have hm1 : h1.DictOf (mixKind prog w) S acc := hm.extBut hs1.extBut hSI
    obtain ⟨o, ho, hc, n, hd⟩ := id ht1
    show wpAny _ A.in1 (holding [Value.ref b] _ >>= _) _ _ _
    refine wpAny_bind (wpAny_holding ?_)
    refine wpAny_bind (wpAny_tryCatch ?_)
    unfold Builtin.Dict.pairItems
    refine wpAny_bind (wpAny_typeOf (T := "tuple") ⟨o, ho, hc⟩ ?_)
    rw [if_pos (by first | decide | rfl | simp)]
    refine wpAny_bind (wpAny_seqItems ho hd (wpAny_pure ?_))
    show wpAny _ A.in1 (holding [u, q.2] (dictSet S u q.2)) _ _ _
    refine wpAny_holding (wpAny_dictSet_pairs (knd := mixKind prog w) (k := q.1) hk hm1 (fun h2 hm2 hs2 => ?_) (by omega))
    refine wpAny_pure ⟨plainId_quiet ud_plain _, upd_loop (items := items) hh hlI hSI hSl rest (i + 1) (stored acc q.1 q.2) (ix + 1) 0 _ (show items.size = i + 1 + rest.length by omega) ?_ (fun j q' e => ?_) ?_ ?_ hm2 fun h' tk hd' k => ?_⟩
    · have z := stored_length_le acc q.1 q.2
      omega
    · obtain ⟨b', u', hb', hbS', hbI', htup', hk'⟩ := ht (j + 1) q' (by simpa using e)
      refine ⟨b', u', ?_, hbS', hbI', (htup'.extBut hs1.extBut hbI').extBut hs2.extBut hbS', hk'⟩
      rw [show i + 1 + j = i + (j + 1) by omega]
      exact hb'
    · exact hit1.at fun o' e => hs2.extBut I o' (Ne.symm hSI) e
    · exact hl1.extBut hs2.extBut (Ne.symm hSl)
    · exact hR h' tk hd' fun c oc h3 h4 e => k c oc h3 h4 (hs2.extBut c oc h3 (hs1.extBut c oc h4 e))
/-- dict(l) of a list of pairs -/
theorem call_dict_pairs {s : Shared} {l : Addr} {ol : Obj} {items : Array Value} {n : Nat} {prs : List (Key × Value)} {Q : Value → Shared → Prop} (hh : A.handled = none) (hl : s.heap.get? l = some ol) (hc : ol.cls = .type "list") (hd : ol.dict = none)
    (hdat : ol.data = .seq items n) (hsz : items.size = prs.length) (hln : prs.length ≤ sizeLine)
    (ht : ∀ (j : Nat) (q : Key × Value), prs[j]? = some q → ∃ (b : Addr) (u : Value), items[j]? = some (.ref b) ∧ IsTup s.heap b #[u, q.2] ∧ keyIs q.1 u = true)
    (h : ∀ h' tk, h'.DictOf (mixKind prog w) s.heap.objs.size (merged [] prs) → (∀ b o, s.heap.get? b = some o → h'.get? b = some o) → Q (.ref s.heap.objs.size) { s with heap := h', toks := tk }) :
    wpAny (model prog w) A (call (.type "dict") [.ref l]) Q E s := by
  refine callType_codes (Q₁ := fun obj s₁ => obj = .ref s.heap.objs.size ∧ s₁ = { s with heap := s.heap.push { cls := .type "dict", data := .dict #[] } }) PySem.F.kt_called_dict (PySem.F.kt_typeCall_dict_1 _) PySem.F.entry_dict_init (kt_code_dict_new _ ⟨rfl, rfl⟩) ?_
  rintro obj s₁ ⟨rfl, rfl⟩
  have hnew : (s.heap.push { cls := .type "dict", data := .dict #[] }).DictOf (mixKind prog w) s.heap.objs.size [] := Heap.DictOf.new s.heap
  have k0 : ∀ b o, s.heap.get? b = some o → (s.heap.push { cls := .type "dict", data := .dict #[] }).get? b = some o := fun b o e => Heap.get?_push_of_some _ e
  refine ⟨hnew.typeIs, PySem.F.args_dict_init_2 _ _, ?_⟩
  unfold Builtin.«dict.__init__»
  refine wpAny_bind ?_
  unfold Builtin.Dict.selfAndRest
  refine wpAny_bind (wpAny_notOrdered_dict hnew.typeIs ?_)
  show wpAny _ _ (pure (s.heap.objs.size, [Value.ref l])) _ _ _
  refine wpAny_pure ?_
  show wpAny _ _ (Builtin.Dict.updateFrom "dict.__init__" s.heap.objs.size (.ref l) [] .none) _ _ _
  unfold Builtin.Dict.updateFrom
  refine wpAny_bind (wpAny_typeOf (T := "list") ⟨ol, k0 _ _ hl, hc⟩ ?_)
  rw [if_pos (by first | decide | rfl | simp)]
  refine wpAny_bind (miss_list (k0 _ _ hl) hc hdat hd hh fun h1 tk1 hk1 => ?_)
  rw [if_pos (show (none : Option Value).isNone = true from rfl)]
  refine wpAny_bind (wpAny_rule ?_)
  have hl1 : h1.IsList l items := ⟨ol, hk1 _ _ (k0 _ _ hl), hc, n, hdat⟩
  have hS1 : s.heap.objs.size < h1.objs.size := by
    have e : (s.heap.push { cls := .type "dict", data := .dict #[] }).get? s.heap.objs.size = some { cls := .type "dict", data := .dict #[] } := Heap.get?_push_size _ rfl
    exact Heap.lt_size (hk1 _ _ e)
  refine wpAny_bind (wpAny_pyIter_list hl1 ?_)
  have k2 : ∀ b o, h1.get? b = some o → (h1.push { cls := .type "list_iterator", data := .fields #[.ref l, .int 0 0] }).get? b = some o := fun b o e => Heap.get?_push_of_some _ e
  have hlt : l < s.heap.objs.size := Heap.lt_size hl
  have key := upd_loop (prog := prog) (w := w) (A := A.in1) (R := wants (fun r s₂ => r = .none ∧ Q (.ref s.heap.objs.size) s₂) E) (S := s.heap.objs.size) (I := h1.objs.size) (l := l) (items := items) (res := Value.none) hh
    (Nat.ne_of_lt (Nat.lt_trans hlt hS1)) (Nat.ne_of_lt hS1) (Nat.ne_of_gt hlt) prs 0 [] 0 0
    { s with heap := h1.push { cls := .type "list_iterator", data := .fields #[.ref l, .int 0 0] }, toks := tk1 } (by rw [hsz, Nat.zero_add]) (by rw [List.length_nil, Nat.zero_add]; exact hln)
    (fun j q e => by
      obtain ⟨b, u, e1, e2, e3⟩ := ht j q e
      have hb : b < s.heap.objs.size := e2.lt
      exact ⟨b, u, by rw [Nat.zero_add]; exact e1, Nat.ne_of_lt hb, Nat.ne_of_lt (Nat.lt_trans hb hS1), e2.keeps fun c o z => k2 _ _ (hk1 _ _ (k0 _ _ z)), e3⟩)
    ⟨_, Heap.get?_push_size _ rfl, rfl, rfl⟩ (hl1.at fun o e => k2 _ _ e) ((hnew.at fun o e => hk1 _ _ e).at fun o e => k2 _ _ e)
    (fun h' tk hd' k => ⟨rfl, h h' tk hd' fun b o e => k b o (Nat.ne_of_lt (Heap.lt_size e)) (Nat.ne_of_lt (Nat.lt_trans (Heap.lt_size e) hS1)) (k2 _ _ (hk1 _ _ (k0 _ _ e)))⟩)
  first
    | exact wpAny_pure ⟨plainId_quiet ud_plain _, key⟩
    | exact wpAny_bind (wpAny_pure (wpAny_pure ⟨plainId_quiet ud_plain _, key⟩))
end
section
variable {X : Cx}
theorem pairs_of {pins : List (Addr × Obj)} {σ : St} {H : Hp} {s : Shared} (I : Inv X pins σ H s) : ∀ {ps : List Addr} {kvs : List (Key × V)}, Paired (fun p kv => SqT X.K H p [kV kv.1, kv.2]) ps kvs →
    ∃ prs : List (Key × Value), KV kvs prs ∧ prs.length = ps.length ∧ ∀ (j : Nat) (q : Key × Value), prs[j]? = some q → ∃ (b : Addr) (u : Value), ps[j]? = some b ∧ IsTup s.heap b #[u, q.2] ∧ keyIs q.1 u = true
  | _, _, .nil => ⟨[], .nil, rfl, fun j q e => by simp at e⟩
  | _, _, .cons (a := p) (b := kv) h t => by
    obtain ⟨prs, r, hl, hp⟩ := pairs_of I t
    obtain ⟨its, rv, ht, _⟩ := I.tuple h
    obtain ⟨u, y, ei, ru, ry⟩ := vals2 rv
    subst ei
    refine ⟨(kv.1, y) :: prs, .cons ⟨rfl, ry⟩ r, by rw [List.length_cons, List.length_cons, hl], fun j q e => ?_⟩
    cases j with
    | zero =>
      have e' : (kv.1, y) = q := Option.some.inj e
      subst e'
      exact ⟨p, u, rfl, ht, kV_is (P := X.prog) (w := X.w) ru⟩
    | succ j =>
      obtain ⟨b, u', e1, e2, e3⟩ := hp j q (by simpa using e)
      exact ⟨b, u', by simpa using e1, e2, e3⟩
theorem refs_at : ∀ {ps : List Addr} {us : List Value}, Vals (ps.map V.ref) us → us = ps.map Value.ref
  | [], us, r => by
    rw [List.map_nil] at r
    cases r
    rfl
  | p :: ps, us, r => by
    rw [List.map_cons] at r
    cases r with
    | cons h t =>
      cases h
      rw [List.map_cons, ← refs_at t]
/-- dict(xs) of a list of pairs (key, value): later pairs win, the place is the first one's -/
theorem call_dictP (hcalm : X.calm = true) : CallR X (.type "dict") (fun xs H Q => ∃ (a : Addr) (ps : List Addr) (kvs : List (Key × V)), xs = [.ref a] ∧ SqL X.K H a (ps.map V.ref) ∧ Paired (fun p kv => SqT X.K H p [kV kv.1, kv.2]) ps kvs ∧
    ∀ p, H p = none → Q (.ref p) (upd H p (.dK (mergeK [] kvs)))) := by
  intro pins s σ H xs us Q I r q
  obtain ⟨a, ps, kvs, ex, hq, hp, q⟩ := q
  subst ex
  obtain ⟨u, eu, rx⟩ := vals1 r
  subst eu
  cases rx
  obtain ⟨its, rv, pl, hz⟩ := I.list hq
  have ei := refs_at rv
  subst ei
  rw [List.length_map] at hz
  obtain ⟨prs, rel, hl, hpr⟩ := pairs_of I hp
  obtain ⟨o, n, ho, hc, hd, hdat⟩ := pl
  refine call_dict_pairs (prs := prs) (I.ok.hd hcalm) ho hc hd hdat (by simp [hl]) (by rw [hl]; exact hz) (fun j q' e => ?_) fun h' tk hd' k => ?_
  · obtain ⟨b, u, e1, e2, e3⟩ := hpr j q' e
    exact ⟨b, u, by simp [e1], e2, e3⟩
  · have hm : (s.heap.objs.size == sysModules) = false := beq_eq_false_iff_ne.mpr (Nat.ne_of_gt I.big)
    have hlen : (mergeK [] kvs).length ≤ sizeLine := by
      refine Nat.le_trans (length_mergeK kvs []) ?_
      rw [List.length_nil, Nat.zero_add, rel.length, hl]
      exact hz
    exact ⟨.ref s.heap.objs.size, upd H s.heap.objs.size (.dK (mergeK [] kvs)), I.laid (t' := tk) k (Nat.le_refl _) (show ObjOk X.prog X.w _ _ _ (.dK (mergeK [] kvs)) from ⟨hlen, hm, merged [] prs, KV.merge rel .nil, hd'⟩), rfl, q _ (I.hok.fresh (Nat.le_refl _))⟩
end
end L2
namespace L2
open PySem PySem.Spec PyProof.Rows
section
variable {X : Cx} {pins : List (Addr × Obj)} {σ : St} {H : Hp} {s : Shared} {h' : Heap}
/-- several records of ours have turned -/
theorem Inv.turnedL {t' : Nat} {ch : List Addr} (I : Inv X pins σ H s) (k : ∀ b o, b ∉ ch → s.heap.get? b = some o → h'.get? b = some o) (hf : ∀ b ∈ ch, FpOk X pins H b) : Inv X pins σ H { s with heap := h', toks := t' } := by
  have nit : ∀ b u, H b = some u → b ∉ ch := fun b u e z => by
    have q := (hf b z).1
    rw [q] at e; cases e
  refine I.step (g' := s.gens) (d' := s.drawn) (ch := ch) (fun b hb => ⟨(hf b hb).2.2.2.1, (hf b hb).2.1, (hf b hb).2.2.2.2.1, (hf b hb).2.2.2.2.2⟩) (fun b o _ _ hc e _ => k b o hc e) (fun b o _ _ hc e _ => ⟨o.slots, k b o hc e⟩)
    (fun _ _ _ _ n => n) (fun b o hc e => ⟨o, k b o hc e⟩) (fun _ _ e => e) (fun _ _ _ e => e) (fun b ps e => ⟨#[], by rw [e]; simp⟩) (fun m hm => ?_) (fun b u e => ?_) I.bare
  · obtain ⟨o, es, ep, ho, r⟩ := hm
    exact ⟨o, es, ep, k _ o (fun z => (hf _ z).2.1 rfl) ho, r⟩
  · refine (I.hok b u e).stay (fun c v hc q => k c v ?_ q) (fun _ q => q) fun _ _ q => q
    rcases hc with z | z
    · rw [z]; exact nit b u e
    · exact nit c _ z
/-- .. and one new object is laid -/
theorem Inv.turnedNew {t' : Nat} {ch : List Addr} {T : Addr} {ob : HO} (I : Inv X pins σ H s) (k : ∀ b o, b ∉ ch → s.heap.get? b = some o → h'.get? b = some o) (hf : ∀ b ∈ ch, FpOk X pins H b) (hT : s.heap.objs.size ≤ T)
    (new : ObjOk X.prog X.w (upd H T ob) h' T ob) : Inv X pins σ (upd H T ob) { s with heap := h', toks := t' } := by
  have hn : H T = none := I.hok.fresh hT
  have nit : ∀ b u, H b = some u → b ∉ ch := fun b u e z => by
    have q := (hf b z).1
    rw [q] at e; cases e
  refine I.step (g' := s.gens) (d' := s.drawn) (ch := ch) (fun b hb => ⟨(hf b hb).2.2.2.1, (hf b hb).2.1, (hf b hb).2.2.2.2.1, (hf b hb).2.2.2.2.2⟩) (fun b o _ _ hc e _ => k b o hc e) (fun b o _ _ hc e _ => ⟨o.slots, k b o hc e⟩)
    (fun b o _ e n => ?_) (fun b o hc e => ⟨o, k b o hc e⟩) (fun b xs e => ?_) (fun b o u e => ?_) (fun b ps e => ⟨#[], ?_⟩) (fun m hm => ?_) (fun b u e => ?_) I.bare
  · rw [upd_ne (Nat.ne_of_lt (Nat.lt_of_lt_of_le (Heap.lt_size e) hT))]; exact n
  · rw [upd_ne (ne_of_none e hn)]; exact e
  · rw [upd_ne (ne_of_none e hn)]; exact e
  · rw [upd_ne (ne_of_none e hn), e]; simp
  · obtain ⟨o, es, ep, ho, r⟩ := hm
    exact ⟨o, es, ep, k _ o (fun z => (hf _ z).2.1 rfl) ho, r⟩
  · by_cases hb : b = T
    · subst hb
      rw [upd_same] at e
      cases e
      exact new
    · rw [upd_ne hb] at e
      refine (I.hok b u e).stay (fun c v hc q => k c v ?_ q) (fun c q => by rw [upd_ne (ne_of_none q hn)]; exact q) fun c xs q => by rw [upd_ne (ne_of_none q hn)]; exact q
      rcases hc with z | z
      · rw [z]; exact nit b u e
      · exact nit c _ z
end
/-- range(i, j, c): small bounds, n items -/
def RgC (i j c : Int) (n : Nat) : Prop := c ≠ 0 ∧ c.natAbs < 1073741824 ∧ Builtin.Range.small i j c = true ∧ Builtin.Range.rangeSize i j c = n
theorem RgC.neg {i j : Int} (ha : -(2 ^ 62) ≤ i) (ha' : i < 2 ^ 62) (hb : -(2 ^ 62) ≤ j) (hb' : j < 2 ^ 62) : RgC i j (-1) (i - j).toNat :=
  ⟨by decide, by decide, PySem.W.small_down ha ha' hb hb', PySem.W.rangeSize_downNat i j⟩
/-- the list at a as it stands at each turn, each item in a new pair -/
def Ite (K : PySem.W.Frag) (a : Addr) : It :=
  ⟨fun i H => ∃ (xs : List V) (x : V), SqL K H a xs ∧ xs[i]? = some x, fun i H v H' => ∃ T x, v = .ref T ∧ H T = none ∧ H' = upd H T (.tup [.int (i : Nat), x]) ∧ ∀ xs, SqL K H a xs → xs[i]? = some x, fun i H => ∃ xs : List V, SqL K H a xs ∧ xs.length ≤ i⟩
theorem turn_enum {P : Program} {w : World} {K : PySem.W.Frag} {elts : List Expr} {kk : Nat} {tpos : Pos} (a e it : Addr) :
    Turn P w K (.Tuple elts kk tpos) (Ite K a) [e, it] e (fun i h => (∃ old, IsEnum h e it ((i : Nat) : Int) old) ∧ h.IsListIter it a i ∧ e ≠ it) where
  mem := by simp
  obj := fun i h st b hb => by
    obtain ⟨⟨old, he⟩, ⟨o, ho, hc, hd⟩, _⟩ := st
    have e' : b = e ∨ b = it := by simpa using hb
    rcases e' with z | z
    · rw [z]; exact ⟨_, he, fun v q => nomatch q⟩
    · rw [z]; exact ⟨o, ho, fun v q => by rw [hd] at q; cases q⟩
  keep := fun i h h' st k => let ⟨⟨old, he⟩, hi, hne⟩ := st; ⟨⟨old, k e (by simp) _ he⟩, hi.at fun o q => k it (by simp) o q, hne⟩
  item := by
    intro X hP hw hK hc i pins s σ H E I hf st hg
    subst hP hw hK
    obtain ⟨⟨old, he⟩, hit, hne⟩ := st
    obtain ⟨xs, x, hq, hx⟩ := hg
    obtain ⟨its, rv, p, hz⟩ := I.list hq
    obtain ⟨u, hu, ru⟩ := rv.get hx
    have hel : e < s.heap.objs.size := Heap.lt_size he
    have hil : it < s.heap.objs.size := by obtain ⟨_, q, _⟩ := hit; exact Heap.lt_size q
    refine wpAny_pyNext_enum_item he hit p.isList (x := u) (by simpa using hu) hne fun h' ho hit' hT hsz hk => ?_
    refine ⟨_, rfl, wpAny_letOwnedTupleGo_enum (s := { s with heap := h', toks := s.toks + 1 }) ho fun h'' he' sb => ?_⟩
    have hT2 : h''.get? s.heap.objs.size = some { cls := .type "tuple", data := .seq #[.int i s.toks, u] } := (sb.2 _ (Nat.ne_of_gt hel)).trans hT
    have new : ObjOk X.prog X.w (upd H s.heap.objs.size (.tup [.int (i : Nat), x])) h'' s.heap.objs.size (.tup [.int (i : Nat), x]) :=
      ⟨by show 2 ≤ sizeLine; decide, [.int i s.toks, u], .cons ⟨_, rfl⟩ (.cons ru .nil), ⟨_, hT2, rfl, rfl, _, rfl⟩⟩
    have I1 : Inv X pins σ (upd H s.heap.objs.size (.tup [.int (i : Nat), x])) { s with heap := h'', toks := s.toks + 1 } :=
      I.turnedNew (ch := [e, it]) (fun b ob hb q => (sb.2 b (fun z => hb (by simp [z]))).trans (hk b ob (fun z => hb (by simp [z])) (fun z => hb (by simp [z])) q)) hf (Nat.le_refl _) new
    refine ⟨.ref s.heap.objs.size, _, I1, rfl, ⟨_, x, rfl, I.hok.fresh (Nat.le_refl _), rfl, fun ys hy => by rw [I.list_inj hy hq]; exact hx⟩, ⟨⟨u, ?_⟩, hit'.at fun o q => (sb.2 it (Ne.symm hne)).trans q, hne⟩, fun b hb => ?_⟩
    · have e1 : ((i + 1 : Nat) : Int) = (i : Int) + 1 := by omega
      rw [e1]; exact he'
    · have hb' : b < s.heap.objs.size := by
        have e' : b = e ∨ b = it := by simpa using hb
        rcases e' with z | z
        · rw [z]; exact hel
        · rw [z]; exact hil
      rw [upd_ne (Nat.ne_of_lt hb')]
      exact (hf b hb).1
  done := by
    intro X hP hw hK hc i pins s σ H E I hf st hg
    subst hP hw hK
    obtain ⟨⟨old, he⟩, hit, hne⟩ := st
    obtain ⟨xs, hq, hx⟩ := hg
    obtain ⟨its, rv, p, hz⟩ := I.list hq
    obtain ⟨f0, f1, f2, f3, f4, f5⟩ := hf it (by simp)
    have hl := rv.length
    exact wpAny_pyNext_enum_end (I.ok.hd hc) he hit p.isList (by simp; omega) fun h' eb => ⟨rfl, I.turned (t' := s.toks) (fun b o hb q => eb b o hb q) f0 f1 f3 f4 f5⟩
  self := fun A i s Q E st h => let ⟨⟨_, he⟩, _⟩ := st; wpAny_pyIter_enum he h
def iEnum (K : PySem.W.Frag) (ta : TA) : TI := fun σ H R => ta σ H fun vs H1 => ∃ a xs, vs = [.ref a] ∧ SqL K H1 a xs ∧ R (Ite K a) H1
theorem pi_enum {X : Cx} {e : Expr} {ta : TA} {p pos tpos : Pos} {elts : List Expr} {kk : Nat} (hg : Gl X "enumerate") (hm : X.mg "enumerate" = none) (ha : PA X [e] ta) (hs : starEach [e] X.env = [(false, eval e X.env)] := by rfl) :
    PI X (.Tuple elts kk tpos) (.Call (.Name "enumerate" p) [e] [] pos) (iEnum X.K ta) := by
  intro pins s σ H R I h
  refine Call_ (ld_blt I hg hm boot_enumerate (PyProof.Rows.callWith_type1 (thn (ha pos pins s σ H _ I h) fun us s1 ⟨vs, H1, I1, r1, q1⟩ => ?_) hs rfl))
  obtain ⟨a, xs, ex, hq, q⟩ := q1
  subst ex
  cases r1 with
  | cons r rr =>
    cases rr
    cases r
    obtain ⟨its, rv, p', hz⟩ := I1.list hq
    refine call_enumerate_list p'.isList fun h' he hit hsz hk => wpAny_pyIter_enum he ?_
    have I2 : Inv X pins σ H1 { s1 with heap := h' } := I1.kept (t' := s1.toks) hk
    refine ⟨s1.heap.objs.size + 1, [s1.heap.objs.size + 1, s1.heap.objs.size], _, _, H1, rfl, I2, turn_enum a (s1.heap.objs.size + 1) s1.heap.objs.size, ⟨⟨.none, he⟩, hit, Nat.succ_ne_self _⟩, fun b hb => ?_, q⟩
    have e' : b = s1.heap.objs.size + 1 ∨ b = s1.heap.objs.size := by simpa using hb
    have hle : s1.heap.objs.size ≤ b := by
      rcases e' with z | z
      · rw [z]; exact Nat.le_add_right _ _
      · rw [z]; exact Nat.le_refl _
    exact I1.fpOk hle (I1.hok.fresh hle)
/-! ### zip(list, list) -/
theorem boot_zip5 : bootBuiltins "zip" = some (.type "zip") := by decide +kernel
end L2
section 
namespace Bits
open PySem PyProof.Rows
end Bits
end 
section 
namespace TL
open PySem PySem.Builtin PySem.Builtin.Str PySem.StrLaws
abbrev tl (x : Str) : List Nat := x.cps.toList
/-- S stands at the head of l -/
def pre (S l : List Nat) : Bool := l.take S.length == S
/-- what stands before the first S, and behind it -/
def par (S : List Nat) : List Nat → List Nat → Option (List Nat × List Nat)
  | _, [] => none
  | acc, c :: r => if pre S (c :: r) = true then some (acc, (c :: r).drop S.length) else par S (acc ++ [c]) r
end TL
end 
namespace L2
open PySem PySem.Spec PyProof.Rows
end L2
namespace L2
open PySem PySem.Spec PyProof.Rows
/-! ### slices of a text -/
theorem IsPart.raw {v : Value} {o : Option Int} (p : IsPart v o) : ∃ l : Option (Int × Tok), v = partValue l ∧ l.map (·.1) = o := by
  cases p with
  | none => exact ⟨none, rfl, rfl⟩
  | int i t => exact ⟨some (i, t), rfl, rfl⟩
end L2
namespace Att
open PySem PySem.W PySem.Calls PyProof.Rows
/-! ### the script -/
theorem ints_of_wellAll {P : Params} {h : Heap} : ∀ (ns : List Int) (vs : List Value), WellAll P h vs (ns.map WData.int) → IntsAre vs ns := by
  intro ns
  induction ns with
  | nil =>
    intro vs w
    rw [List.map_nil] at w
    cases w
    exact .nil
  | cons n ns ih =>
    intro vs w
    rw [List.map_cons] at w
    cases w with
    | cons a b =>
      cases a
      exact .cons _ _ (ih _ b)
theorem script_of {l : OpenLaw} {n : Nat} (hn : l.most = some n) {P : Params} {h : Heap} {args : List WData} {vals : List Value}
    (hpre : l.row.toRowW.claim.pre args = true) (hwl : WellAll P h vals args) :
    ∃ a vs ns, vals = [Value.ref a] ∧ args = [WData.list (ns.map WData.int)] ∧ h.get? a = some { cls := .type "list", data := .seq vs.toArray } ∧ IntsAre vs ns ∧ ns.length ≤ n := by
  have hsh : WShape.hasAll [] args [.list .int] = true := (pre_splitW hpre).1
  have hc : l.pre.holds [] { args := args } = true := (pre_splitW hpre).2
  obtain ⟨d, r, rfl, h1, h2⟩ := hasAllW_cons hsh
  obtain rfl := hasAllW_nil h2
  obtain ⟨xs, rfl, h3⟩ := hasW_list h1
  obtain ⟨ns, rfl⟩ := items_int h3
  have hlen : ns.length ≤ n := by
    unfold OpenLaw.pre at hc
    have h4 : (WTm.not (.lt (.lit (.int (n : Int))) (.len (.arg 0)))).holds [] { args := [.list (ns.map .int)] } = true := by
      have h4 := (holds_andW hc).1
      rw [hn] at h4
      exact h4
    have h5 := condW_of h4 (w_not (w_lt w_lit (w_len_list (w_arg rfl))))
    rw [List.length_map] at h5
    refine Nat.le_of_not_lt fun q => ?_
    have q' : (n : Int) < ((ns.length : Nat) : Int) := by omega
    first
      | (rw [decide_eq_true q'] at h5; exact absurd h5 (by decide))
      | (simp at h5; omega)
  cases hwl with
  | cons w1 w2 =>
    cases w2
    cases w1 with
    | list ho hall => exact ⟨_, _, ns, rfl, rfl, ho, ints_of_wellAll ns _ hall, hlen⟩
theorem post_true (l : OpenLaw) (args : List WData) : l.row.toRowW.claim.post args (.bool true) args = true :=
  postW_of (r := l.row.toRowW) (X := (true == true))
    (show WShape.has [] (.bool true) .bool = true by first | rfl | decide | simp [WShape.has, WShape.arms, WShape.armsAll])
    (show (WTm.eq .res (.lit (.bool true))).value [] { args := args, res := some (.bool true), after := args } = some (.bool (true == true)) from w_eq_bool (w_res rfl) w_lit) rfl
/-- the same from a codeAny of the CALL (for a layer whose function contracts speak of calls) -/
theorem attach_call {l : OpenLaw} {n : Nat} {q : Program} {loose : List Str} {XP : (Str → Option Value) → Heap → Prop} {YP : World → Heap → Prop} {d : DefRec}
    (hn : l.most = some n) (hdf : d.params.defaults = [])
    (call : ∀ (w : World) (s₀ s₁ : Shared) (mg mb : Str → Option Value) (fa : Addr) (o : Obj) (pm cd doc : Value) (a : Addr) (vs : List Value) (ns : List Int),
      Ground q loose [] XP w s₀ mg mb s₁.heap → YP w s₁.heap →
      s₁.heap.get? fa = some o → o.data = .func (docDef d.name d.params d.body d.scope pm cd doc) → s₁.heap.CodeRec cd d.name → mg d.name = some (.ref fa) →
      s₁.heap.get? a = some { cls := .type "list", data := .seq vs.toArray } → IntsAre vs ns → ns.length ≤ n → s₁.gens = #[] →
      codeAny (model l.prog w) callerA (.call (.ref fa) ⟨[.ref a], []⟩) (fun r s' => r = .ok (.ret (.bool true)) ∧ OldK s₁.heap s'.heap ∧ s'.os = s₁.os ∧ AllBare s'.gens) s₁) :
    WalkO q loose XP YP l.row.toRowW d [] (fun f vs => PySem.call f vs) := by
  intro w s₀ s₁ mg mb G Y fa o pm cd doc dV kV ho hd hcd hD hmg hg args vals as hpre hlay hrd hwl hlo
  obtain rfl : dV = .none := Dflts.none hD hdf
  obtain rfl : kV = .none := Dflts.noKw hD
  obtain ⟨a, vs, ns, rfl, rfl, hobj, hints, hlen⟩ := script_of hn hpre hwl
  refine enter_call (codeAny_mono (call w s₀ s₁ mg mb fa o pm cd doc a vs ns G Y ho (fd_plain hd) hcd hmg hobj hints hlen hg) fun r s' hq => ?_)
  obtain ⟨rfl, h2, h3, h4⟩ := hq
  exact ⟨.inl ⟨.bool true, .bool true, [], rfl, fun _ => rfl, .bool true, post_true l _, fun _ => ⟨List.Pairwise.nil, fun _ hm => (nomatch hm)⟩⟩, h2, h3, h4⟩
section
variable {prog : Program} {w : World} {A : Around} {E : Value → Shared → Prop} {s : Shared} {K : Frag}
def ledger (h : Heap) (L d : Addr) : List (Addr × Obj) := (List.range h.objs.size).filterMap fun a => if a = L ∨ a = d then none else (h.get? a).map fun o => (a, o)
end
end Att
namespace L2
open PySem PySem.Spec PyProof.Rows
theorem vals_ints : ∀ {vs : List Value} {ns : List Int}, IntsAre vs ns → Vals (ns.map V.int) vs
  | _, _, .nil => .nil
  | _, _, .cons n t h => .cons ⟨t, rfl⟩ (vals_ints h)
end L2
namespace L2
open PySem PySem.Spec PyProof.Rows
end L2
namespace L2
open PySem PySem.Spec PyProof.Rows
def defArgs (s : Stmt) : Arguments := match s with
  | .FunctionDef _ a _ _ _ _ _ _ _ _ => a
  | _ => { posonlyargs := [], args := [], vararg := none, kwonlyargs := [], kw_defaults := [], kwarg := none, defaults := [] }
def defBody (s : Stmt) : List Stmt := match s with
  | .FunctionDef _ _ b _ _ _ _ _ _ _ => b
  | _ => []
def defScope (s : Stmt) : Scope := match s with
  | .FunctionDef _ _ _ _ _ _ sc _ _ _ => sc
  | _ => { kind := .function, names := [], isGenerator := false, isCoroutine := false }
/-! ### no exception leaves a def -/
abbrev CX0 : CXT := fun _ _ _ _ _ _ => False
abbrev E0 : XK := fun _ _ _ => False
theorem pass0 {X : Cx} : Passes CX0 X E0 := fun _ _ _ _ _ _ _ h => h.elim
/-! ### a def (or method) of the text as it stands behind the top -/
structure Fun (K : PySem.W.Frag) (x qual : Str) (st : Stmt) (f : Addr) (fd : FuncData) : Prop where
  ex : ∃ (oc : Value) (od : Option Addr) (kV doc pm : Value) (an : Option Addr) (cdv ct : Value) (osl : Array (Option Value)),
    fd = PySem.W.fnOf x qual (defArgs st) (defBody st) (defScope st) .none kV doc pm an cdv ct ∧ K.lookup f = some ⟨oc, od, .func fd, osl⟩ ∧ PySem.W.codeIn K cdv qual = true
  kp : PySem.W.keepIn K (.ref f) = true
section
variable {P : Program} {w : World} {K : PySem.W.Frag} {mg : Str → Option Value} {base : Heap}
/-- THE RULE for a def: its body as a term of rules, and the reading of that term -/
theorem Fun.ok {x qual : Str} {st : Stmt} {f : Addr} {fd : FuncData} {N ps : List Str} {k : Nat} {sp : Sp} (F : Fun K x qual st f fd) (S : FnScope N ps (defScope st)) (len : ∀ vs H Q E, sp vs H Q E → vs.length = ps.length)
    (hbody : ∀ (cdv : Value) (A : Around) (outer : List Env) (s : Shared) (H : Hp) (vs : List V) (Q : VK) (E : XK), Room k (A.deeper (envOfC qual (defScope st) s.heap.objs.size f cdv)) → sp vs H Q E →
      ∃ t, PSs (cxOf CX0 P w K mg base N qual (defScope st) f cdv A outer s H E).nox (defBody st) t ∧ t { nx := fun _ H' => Q .non H', rt := Q } (start N vs) H) : FnOk P w K mg base CX0 (k + 1) f fd ps sp := by
  obtain ⟨oc, od, kV, doc, pm, an, cdv, ct, osl, rfl, lk, hcd⟩ := F.ex
  refine fn_of lk hcd S len fun A outer s H vs Q E hr hsp => ?_
  obtain ⟨t, h, q⟩ := hbody cdv A outer s H vs Q E hr hsp
  exact ⟨t, h.nox, q⟩
/-- how its arguments bind (no defaults): h is «fun _ _ _ _ _ _ us hl => match us, hl with | [_, _], _ => rfl», one _ a parameter -/
theorem Fun.binds {x qual : Str} {st : Stmt} {f : Addr} {fd : FuncData} {ps : List Str} (F : Fun K x qual st f fd)
    (h : ∀ (kV doc pm : Value) (an : Option Addr) (cdv ct : Value) (us : List Value), us.length = ps.length → bindArgs (PySem.W.fnOf x qual (defArgs st) (defBody st) (defScope st) .none kV doc pm an cdv ct) ⟨us, []⟩ = pure (ps.zip us)) : Binds K fd ps [] := by
  obtain ⟨oc, od, kV, doc, pm, an, cdv, ct, osl, rfl, lk, hcd⟩ := F.ex
  exact .all (h kV doc pm an cdv ct)
theorem fun_mk {x qual : Str} {st : Stmt} {f : Addr} {oc : Value} {od an : Option Addr} {osl : Array (Option Value)} {kV doc pm cdv ct : Value} (l : K.lookup f = some ⟨oc, od, .func (PySem.W.fnOf x qual (defArgs st) (defBody st) (defScope st) .none kV doc pm an cdv ct), osl⟩)
    (c : PySem.W.codeIn K cdv qual = true) (k : PySem.W.keepIn K (.ref f) = true) : Fun K x qual st f (PySem.W.fnOf x qual (defArgs st) (defBody st) (defScope st) .none kV doc pm an cdv ct) := ⟨⟨oc, od, kV, doc, pm, an, cdv, ct, osl, rfl, l, c⟩, k⟩
end
theorem hu_of {A : Around} {k : Nat} (hr : Room k A) : A.units + 1 < cLine := Nat.lt_of_le_of_lt (Nat.add_le_add_left (by decide : 1 ≤ 64) _) hr.units
theorem small1000 {n : Nat} (h : n ≤ 1000) : n < sizeLine := Nat.lt_of_le_of_lt h (by decide)
section
variable {X : Cx}
theorem pv (i : Nat) {x : Str} {pos : Pos} (hN : X.N[i]? = some x := by rfl) (hv : Vis X.env.scope x := by first | exact Or.inl rfl | exact Or.inr (Or.inl rfl) | exact Or.inr (Or.inr rfl)) (hd : (x == ("__debug__" : Str)) = false := by decide)
    (hcd : (x == ("__classdict__" : Str)) = false := by decide) : PE X (.Name x pos) (tVar i) := pe_var hN hv hd hcd
end
/-! ### tests -/
theorem iteF {A B : Prop} (h : B) : if false = true then A else B := by
  rw [if_neg Bool.false_ne_true]
  exact h
theorem iteT {A B : Prop} (h : A) : if true = true then A else B := by
  rw [if_pos rfl]
  exact h
theorem ite2 {c A B : Prop} [Decidable c] (h1 : c → A) (h2 : ¬ c → B) : if c then A else B := by
  by_cases h : c
  · rw [if_pos h]
    exact h1 h
  · rw [if_neg h]
    exact h2 h
theorem iteNS {c A B : Prop} [Decidable c] (hc : c) (h : B) : if (!decide c) = true then A else B := by
  rw [decide_eq_true hc]
  exact iteF h
/-- all that was tracked is as it was -/
def Same (H H' : Hp) : Prop := ∀ b o, H b = some o → H' b = some o
theorem Same.refl (H : Hp) : Same H H := fun _ _ h => h
theorem Same.trans {H H1 H2 : Hp} (a : Same H H1) (b : Same H1 H2) : Same H H2 := fun c o h => b c o (a c o h)
theorem Same.free {H H' : Hp} (e : Same H H') {l : Addr} (h : H' l = Option.none) : H l = Option.none := by
  cases q : H l with
  | none => rfl
  | some o =>
    rw [e l o q] at h
    cases h
theorem Same.seq {K : PySem.W.Frag} {H H' : Hp} {a : Addr} {xs : List V} (e : Same H H') (h : SqL K H a xs) : SqL K H' a xs := by
  rcases h with (h | ⟨o, h⟩) | h
  · exact .inl (.inl (e _ _ h))
  · exact .inl (.inr ⟨o, e _ _ h⟩)
  · exact .inr h
/-! ### lists -/
theorem at_of {xs : List V} {z : Int} {j : Nat} {v : V} (e : z = (j : Int)) (h : xs[j]? = some v) : atI xs z = some v := by
  rw [e]
  exact atI_nat h
theorem nd_ix {α : Type} {l : List α} (hN : l.Nodup) {i j : Nat} {x : α} (a : l[i]? = some x) (b : l[j]? = some x) : i = j := by
  obtain ⟨h1, e1⟩ := List.getElem?_eq_some_iff.mp a
  obtain ⟨h2, e2⟩ := List.getElem?_eq_some_iff.mp b
  exact (List.getElem_inj hN).mp (e1.trans e2.symm)
/-- a new instance and its __init__ leave all that was tracked as it was -/
theorem Same.made {H H1 : Hp} {x dx C : Addr} (nx : H x = Option.none) (nd : H dx = Option.none) (k : ∀ b o, (upd (upd H dx (.own x)) x (.ins C dx [])) b = some o → b ≠ x → H1 b = some o) : Same H H1 := fun b o e =>
  k b o (by rw [upd_ne (ne_of_none e nx), upd_ne (ne_of_none e nd)]; exact e) (ne_of_none e nx)
end L2

section
set_option Elab.async false
set_option linter.all false
set_option maxRecDepth 100000
namespace L2
open PySem PySem.Spec PyProof.Rows

/-! ### sizes -/
def Sz (k : Nat) (x : Int) : Prop := x.natAbs < 2 ^ k
theorem Sz.mono {k l : Nat} {x : Int} (h : Sz k x) (hl : k ≤ l := by decide) : Sz l x := Nat.lt_of_lt_of_le h (Nat.pow_le_pow_right (by decide) hl)
theorem Sz.mul {k l : Nat} {x y : Int} (h : Sz k x) (h' : Sz l y) : Sz (k + l) (x * y) := by
  unfold Sz at *
  rw [Int.natAbs_mul, Nat.pow_add]
  exact Nat.mul_lt_mul'' h h'
theorem Sz.neg {k : Nat} {x : Int} (h : Sz k x) : Sz k (-x) := by
  unfold Sz at *
  rw [Int.natAbs_neg]; exact h
theorem Sz.add {k l : Nat} {x y : Int} (h : Sz k x) (h' : Sz l y) : Sz (max k l + 1) (x + y) := by
  have h1 : Sz (max k l) x := h.mono (Nat.le_max_left _ _)
  have h2 : Sz (max k l) y := h'.mono (Nat.le_max_right _ _)
  unfold Sz at *
  have h3 := Int.natAbs_add_le x y
  rw [Nat.pow_succ]
  omega
theorem Sz.sub {k l : Nat} {x y : Int} (h : Sz k x) (h' : Sz l y) : Sz (max k l + 1) (x - y) := by
  rw [Int.sub_eq_add_neg]; exact h.add h'.neg
theorem Sz.of_le {k : Nat} {x y : Int} (h : Sz k y) (hx : x.natAbs ≤ y.natAbs) : Sz k x := Nat.lt_of_le_of_lt hx h
theorem Sz.sm {k : Nat} {x : Int} (n : Nat) (h : x.natAbs ≤ n) (hn : n < 2 ^ k := by decide) : Sz k x := Nat.lt_of_le_of_lt h hn
theorem Sz.of_nat {k : Nat} {x : Int} (n : Nat) (h : x.natAbs ≤ n) (hn : n < 2 ^ 100 := by decide) (hk : 100 ≤ k := by decide) : Sz k x := (Sz.sm (k := 100) n h hn).mono hk
theorem Sz.zero {k : Nat} : Sz k 0 := Nat.two_pow_pos k
theorem Sz.fdiv {k : Nat} {x y : Int} (h : Sz k x) : Sz (k + 1) (x.fdiv y) := by
  have h1 : (x.fdiv y).natAbs ≤ x.natAbs + 1 := by
    rcases Int.lt_trichotomy y 0 with hy | hy | hy
    · have hsg := Int.sign_eq_neg_one_of_neg hy
      rw [Int.fdiv_eq_tdiv]
      split
      · have := Int.natAbs_tdiv_le_natAbs x y; omega
      · split
        · have := Int.natAbs_tdiv_le_natAbs x y; omega
        · split
          · have := Int.natAbs_tdiv_le_natAbs x y; omega
          · have := Int.natAbs_tdiv_le_natAbs x y; omega
    · subst hy; simp
    · have hsg := Int.sign_eq_one_of_pos hy
      rw [Int.fdiv_eq_tdiv]
      split
      · have := Int.natAbs_tdiv_le_natAbs x y; omega
      · split
        · have := Int.natAbs_tdiv_le_natAbs x y; omega
        · split
          · have := Int.natAbs_tdiv_le_natAbs x y; omega
          · have := Int.natAbs_tdiv_le_natAbs x y; omega
  unfold Sz at *
  rw [Nat.pow_succ]
  have := Nat.two_pow_pos k
  omega
theorem Sz.bits {k : Nat} {x : Int} (h : Sz k x) : Builtin.Int.intBits x ≤ k := by
  unfold Builtin.Int.intBits
  split
  · exact Nat.zero_le _
  · rename_i h0
    have h1 : x.natAbs ≠ 0 := by
      intro e; apply h0; simp; omega
    have := (Nat.log2_lt h1).mpr h
    omega
theorem Sz.log {k : Nat} {x : Int} (hk : 0 < k) (h : Sz k x) : x.natAbs.log2 < k := by
  by_cases h1 : x.natAbs = 0
  · rw [h1]; simpa using hk
  · exact (Nat.log2_lt h1).mpr h
theorem Sz.mulOk {k l : Nat} {x y : Int} (h : Sz k x) (h' : Sz l y) (hk : k + l ≤ 134217728) : IntMulOk x y := PyProof.Rows.mulOk_of_bits h.bits h'.bits hk

/-! ### more operators -/
section
variable {X : Cx}
def CMulB (i j : Int) : Prop := Sz 60000 i ∧ Sz 60000 j
def CDivB (_i j : Int) : Prop := j ≠ 0 ∧ Sz 8900 j
def CDivP (_i j : Int) : Prop := 0 < j ∧ Sz 8900 j
theorem op_mulB : OpR X (binaryOp .Mult) (rI CMulB fun i j => .int (i * j)) := opI fun _ _ _ _ _ _ _ hc q => mul_int q (hc.1.mulOk hc.2 (by decide))
/-- one factor small: any other -/
def CMulS (i j : Int) : Prop := Sz 64 i ∨ Sz 64 j
theorem op_mulS : OpR X (binaryOp .Mult) (rI CMulS fun i j => .int (i * j)) := opI fun _ _ _ _ _ _ _ hc q => mul_int q (by
  rcases hc with h | h
  · exact .of_left h.bits
  · exact .of_right h.bits)
theorem op_fdivB : OpR X (binaryOp .FloorDiv) (rI CDivB fun i j => .int (i.fdiv j)) := opI fun _ _ _ _ _ _ _ hc q =>
  floordiv_int hc.1 q (.inl (PyProof.noPylong_of_log2 (Nat.lt_of_lt_of_le (hc.2.log (by decide)) (by decide))))
theorem op_fdivP : OpR X (binaryOp .FloorDiv) (rI CDivP fun i j => .int (i / j)) := opI fun i j _ _ _ _ _ hc q => by
  have h1 : (0 : Int) < j := hc.1
  exact floordiv_int (by omega) (by rw [Int.fdiv_eq_ediv_of_nonneg i (by omega)]; exact q) (.inl (PyProof.noPylong_of_log2 (Nat.lt_of_lt_of_le (hc.2.log (by decide)) (by decide))))
theorem mt_bitlen : MtR X "int.bit_length" (fun x xs H Q => ∃ i, x = .int i ∧ xs = [] ∧ Q (.int (Builtin.Int.intBits i : Nat)) H) := by
  intro pins s σ H x xs v us Q I rx rs h
  obtain ⟨i, rfl, rfl, h⟩ := h
  obtain ⟨t, rfl⟩ := rx
  cases rs
  exact call_int_bit_length ⟨.int (Builtin.Int.intBits i : Nat), H, I.tok _, ⟨_, rfl⟩, h⟩
/-- isinstance(x, T) for a built-in class -/
theorem call_isinst : CallR X (.builtin "isinstance") (fun xs H Q => ∃ (x : V) (n : String) (t : Value) (b : Bool), xs = [x, .ty n] ∧ TyOf X.K H x t ∧ PySem.W.kitOne X.K t (.type n) = some b ∧ Q (.bl b) H) := by
  intro pins s σ H xs us Q I r h
  obtain ⟨x, n, t, b, rfl, ty, e, q⟩ := h
  obtain ⟨u, w', rfl, r1, r2⟩ := vals2 r
  cases (show w' = Value.type n from r2)
  exact isinst_ok I r1 ty e fun tk => ⟨.bl b, H, I.tok _, rfl, q⟩
theorem kit_same {K : PySem.W.Frag} {n : String} : PySem.W.kitOne K (.type n) (.type n) = some true := by
  unfold PySem.W.kitOne
  rw [if_pos (by simp)]
example {K : PySem.W.Frag} : PySem.W.kitOne K (.type "int") (.type "bool") = some false := by rfl
example {K : PySem.W.Frag} : PySem.W.kitOne K (.type "bool") (.type "int") = some true := by rfl
end

/-! ### heaps, calls -/
/-- all that was tracked is as it was, but what stands at p -/
def SameX (p : Addr) (H H' : Hp) : Prop := ∀ b o, H b = some o → b ≠ p → H' b = some o
theorem Same.tup {K : PySem.W.Frag} {H H' : Hp} {a : Addr} {xs : List V} (e : Same H H') (h : SqT K H a xs) : SqT K H' a xs := by
  rcases h with (h | ⟨o, h⟩) | h
  · exact .inl (.inl (e _ _ h))
  · exact .inl (.inr ⟨o, e _ _ h⟩)
  · exact .inr h
theorem Same.new {H : Hp} {p : Addr} (h : H p = none) (o : HO) : Same H (upd H p o) := fun b u q => by rw [upd_ne (ne_of_none q h)]; exact q
/-- a def of the text that may be called -/
structure Cal (P : Program) (w : World) (K : PySem.W.Frag) (mg : Str → Option Value) (base : Heap) (n : Nat) (x : Str) (ps : List Str) (sp : Sp) : Prop where
  ex : ∃ (f : Addr) (fd : FuncData), FnOk P w K mg base CX0 n f fd ps sp ∧ Binds K fd ps [] ∧ PySem.W.keepIn K (.ref f) = true ∧ mg x = some (.ref f)
theorem Cal.mono {P : Program} {w : World} {K : PySem.W.Frag} {mg : Str → Option Value} {base : Heap} {n m : Nat} {x : Str} {ps : List Str} {sp : Sp} (C : Cal P w K mg base n x ps sp) (h : n ≤ m := by decide) : Cal P w K mg base m x ps sp := by
  obtain ⟨f, fd, G, b, k, e⟩ := C.ex
  exact ⟨f, fd, G.mono h, b, k, e⟩
theorem Same.x {H H' : Hp} (e : Same H H') (p : Addr) : SameX p H H' := fun b o h _ => e b o h
theorem SameX.refl (p : Addr) (H : Hp) : SameX p H H := fun _ _ h _ => h
theorem SameX.trans {p : Addr} {H H1 H2 : Hp} (a : SameX p H H1) (b : SameX p H1 H2) : SameX p H H2 := fun c o h n => b c o (a c o h n) n
theorem SameX.upd {p : Addr} {H : Hp} (o : HO) : SameX p H (upd H p o) := fun b u h n => by rw [upd_ne n]; exact h
theorem SameX.tup {K : PySem.W.Frag} {p q : Addr} {H H' : Hp} {xs ys : List V} (e : SameX p H H') (hp : H p = some (.lst ys)) (h : SqT K H q xs) : SqT K H' q xs := by
  rcases h with (h | ⟨o, h⟩) | h
  · exact .inl (.inl (e _ _ h (ne_of h hp (by intro z; cases z))))
  · exact .inl (.inr ⟨o, e _ _ h (ne_of h hp (by intro z; cases z))⟩)
  · exact .inr h
theorem SameX.same {p : Addr} {H H0 H' : Hp} (hn : H p = none) (a : Same H H0) (e : SameX p H0 H') : Same H H' := fun b o h => e b o (a b o h) (ne_of_none h hn)
theorem at0 {x : V} {r : List V} : atI (x :: r) 0 = some x := atI_nat (j := 0) rfl
theorem at1 {x y : V} {r : List V} : atI (x :: y :: r) 1 = some y := atI_nat (j := 1) rfl
theorem at2 {x y z : V} {r : List V} : atI (x :: y :: z :: r) 2 = some z := atI_nat (j := 2) rfl
theorem nat_if (a : Int) : (if a < 0 then -a else a).natAbs = a.natAbs := by split <;> omega
theorem if_nn (a : Int) : 0 ≤ (if a < 0 then -a else a) := by split <;> omega
theorem Sz.abs {k : Nat} {a : Int} (h : Sz k a) : Sz k (if a < 0 then -a else a) := by unfold Sz; rw [nat_if]; exact h
theorem smallB {n : Nat} (h : Nat.ble n 1000 = true) : n ≤ sizeLine := Nat.le_of_lt (small1000 (Nat.le_of_ble_eq_true h))
theorem smallN {n : Nat} (h : n ≤ 1000) : n ≤ sizeLine := Nat.le_of_lt (small1000 h)
end L2

end
section
set_option Elab.async false
set_option linter.all false
set_option maxRecDepth 100000
namespace L2
open PySem PySem.SeqAt
open PySem.AutoSeq1 (wpAny_loadPart')
theorem tuple_index_loop {items : Array Value} {x : Value} {e : Value → Bool} {j : Nat} (hj : j < items.size) (hit : e items[j] = true) {M : Program} {w : World} {A : Around} {E : Value → Shared → Prop} {s : Shared}
    (he : ∀ y, y ∈ items → EqAt A s y x (e y)) {Q : Option PySem.Fin × PUnit → Shared → Prop} {f : Nat → Option PySem.Fin × PUnit → Sem (ForInStep (Option PySem.Fin × PUnit))}
    (hf : ∀ i r, f i r = (match items[i]? with
            | some y => do
              let b ← eqBool y x
              if b = true then do
                  let z ← retInt ((i : Nat) : Int)
                  pure (ForInStep.done (some z, ()))
                else pure (ForInStep.yield (none, ()))
            | _ => pure (ForInStep.yield (none, ()))))
    (hQ : Q (some (PySem.Fin.done (.ret (.int j s.toks))), ()) { s with toks := s.toks + 1 }) :
    ∀ (m k : Nat), k + m = items.size → k ≤ j → (∀ i (hi : i < items.size), k ≤ i → i < j → e items[i] = false) →
      wpAny (model M w) A (forIn (List.range' k m) ((none : Option PySem.Fin), PUnit.unit) f) Q E s
  | 0, k, hk, hkj, _ => absurd hkj (by omega)
  | m + 1, k, hk, hkj, hno => by
    rw [List.range'_succ, List.forIn_cons, hf]
    have hlt : k < items.size := by omega
    rw [Array.getElem?_eq_getElem hlt]
    refine wpAny_bind ?_
    refine wpAny_bind (he _ (Array.getElem_mem hlt) M w _ _ ?_)
    by_cases hkj' : k = j
    · subst hkj'
      rw [hit, if_pos rfl]
      refine wpAny_bind ?_
      unfold retInt
      refine wpAny_bind (wpAny_mkInt ?_)
      exact wpAny_pure (wpAny_pure (wpAny_pure hQ))
    · rw [hno k hlt (Nat.le_refl _) (by omega), if_neg (by decide)]
      refine wpAny_pure ?_
      exact tuple_index_loop hj hit he hf hQ m (k + 1) (by omega) (by omega) (fun i hi h1 h2 => hno i hi (by omega) h2)
theorem tuple_indexAt (t : Addr) (items : Array Value) (n : Nat) (dd : Option Addr) (sl : Array (Option Value)) (x : Value) (e : Value → Bool) (j : Nat) (hj : j < items.size) 
    (hit : e items[j] = true) (hno : ∀ m (hm : m < items.size), m < j → e items[m] = false) :
    Meets (Builtin.«tuple.index» ⟨[.ref t, x], []⟩)
      (fun A R s => s.heap.get? t = some { cls := .type "tuple", dict := dd, data := .seq items n, slots := sl } ∧ (∀ y, y ∈ items → EqAt A.in1 s y x (e y)) ∧ R (.ok (.ret (.int j s.toks))) { s with toks := s.toks + 1 }) := by
  intro prog w A R s h
  obtain ⟨hl, he, h⟩ := h
  unfold Builtin.«tuple.index»
  simp only [Std.Legacy.Range.forIn_eq_forIn_range']
  wp_walk using wpAny_loadPart' hl
  have hsz : (Std.Legacy.Range.mk 0 (min items.size items.size) 1 (by decide)).size = items.size := by simp [Std.Legacy.Range.size]
  rw [hsz]
  exact tuple_index_loop (f := fun i _ => match items[i]? with
            | some y => do
              let b ← eqBool y x
              if b = true then do
                  let z ← retInt ((i : Nat) : Int)
                  pure (ForInStep.done (some z, ()))
                else pure (ForInStep.yield (none, ()))
            | _ => pure (ForInStep.yield (none, ()))) hj hit (A := A.in1) he (fun _ _ => rfl) (wpAny_pure (A := A.in1) (M := model prog w) (E := fun e s' => R (.error e) s') (show R (Except.ok (Flow.ret (Value.int j s.toks))) _ from h)) items.size 0 (by omega) (Nat.zero_le _) (fun i hi _ h2 => hno i hi h2)
/-- t.index(x), a tuple of flat things -/
def rIndexT (K : PySem.W.Frag) : V → List V → Hp → VK → Prop := fun x xs H Q => ∃ (a : Addr) (ys : List V) (y : V) (j : Nat) (z : V), x = V.ref a ∧ xs = [y] ∧ SqT K H a ys ∧ flatV y = true ∧ ys.all flatV = true ∧ ys[j]? = some z ∧ eqV z y = true ∧
  (∀ (m : Nat) (z' : V), m < j → ys[m]? = some z' → eqV z' y = false) ∧ Q (.int (j : Nat)) H
theorem mt_indexT {X : Cx} : MtR X "tuple.index" (rIndexT X.K) := by
  intro pins s σ H x xs v us Q I rx rxs h
  obtain ⟨a, ys, y, j, z, rfl, rfl, hs, fy, fys, hz, hzj, hno, q⟩ := h
  cases rx
  cases rxs with
  | cons ry rt =>
    rename_i uy ut
    cases rt
    obtain ⟨its, rv, ⟨⟨cls, dd, data, sl⟩, ho, hc, n, hd⟩, hlen⟩ := I.tuple hs
    simp only at hc hd
    subst hc hd
    obtain ⟨u, hu, ru⟩ := rv.get hz
    obtain ⟨hjl, hje⟩ := List.getElem?_eq_some_iff.mp hu
    have hvl := rv.length
    have hj : j < its.toArray.size := by simpa using hjl
    refine call_meets PySem.F.slot_tuple_index ⟨_, ho, rfl⟩ PySem.F.entry_tuple_index (PySem.F.args_tuple_index_2 _ _)
      (tuple_indexAt a its.toArray n dd sl uy (eqU y) j hj ?_ ?_) ⟨ho, fun u' hu' => mem_eqAt ry fy rv fys u' (by simpa using hu'), ?_⟩
    · have e1 : its.toArray[j] = u := by simpa using hje
      rw [e1, eqU_of ru (flat_at fys hz)]
      exact hzj
    · intro m hm hmj
      have hml : m < its.length := by simpa using hm
      have hmy : m < ys.length := by omega
      have hy' : ys[m]? = some ys[m] := List.getElem?_eq_getElem hmy
      obtain ⟨u2, hu2, ru2⟩ := rv.get hy'
      obtain ⟨_, hme⟩ := List.getElem?_eq_some_iff.mp hu2
      have e1 : its.toArray[m] = u2 := by simpa using hme
      rw [e1, eqU_of ru2 (flat_at fys hy')]
      exact hno m _ hmj hy'
    · exact ⟨.int (j : Nat), H, I.tok _, ⟨_, rfl⟩, q⟩
end L2
namespace L2
open PySem PySem.Spec PyProof.Rows
/-! ### methods of a tracked tuple -/
theorem tupD_is {X : Cx} {pins : List (Addr × Obj)} {σ : St} {H : Hp} {s : Shared} {a : Addr} {ys : List V} (I : Inv X pins σ H s) (h : H a = some (.tup ys)) :
    s.TypeIs (.ref a) "tuple" ∧ ∀ b, (Value.ref a) = .ref b → ∃ ob, s.heap.get? b = some ob ∧ ob.dict = none := by
  obtain ⟨_, its, r, o, ho, hc, hd, _⟩ := (show ObjOk X.prog X.w H s.heap a (.tup ys) from I.hok a _ h)
  exact ⟨⟨o, ho, hc⟩, fun b e => by cases e; exact ⟨o, ho, hd⟩⟩
def tBMT (r : V → List V → Hp → VK → Prop) (to : TE) (t : TA) : TE := fun σ H Q => to σ H fun x H1 => (∃ a ys, x = .ref a ∧ H1 a = some (.tup ys)) ∧ t σ H1 fun xs H2 => r x xs H2 Q
theorem pe_bmT {X : Cx} {o e : Expr} {es : List Expr} {to : TE} {t : TA} {name : Str} {apos cpos : Pos} {id : String} {r : V → List V → Hp → VK → Prop} (slot : Slot "tuple" name id) (hty : typeOf (.builtin id) = pure (.type "method_descriptor")) (hm : MtR X id r) (ho : PE X o to) (ha : PA X (e :: es) t)
    (hbase : attributeBase o name X.env (eval o X.env) = eval o X.env := by rfl)
    (hfew : ((backTo cpos (starEach (e :: es) X.env)).all (fun x => !x.1) && (backToKw cpos (keywordEach [] X.env)).all (fun x => x.1.isSome) && decide ((e :: es).length + ([] : List Keyword).length + (if ([] : List Keyword).isEmpty then 0 else 1) < 30)) = true := by rfl)
    (hline : (apos.endLine == cpos.line) = true := by rfl) (hs : starEach (e :: es) X.env = (false, eval e X.env) :: starEach es X.env := by rfl) (hplain : (backTo cpos (starEach es X.env)).any (·.1) = false := by rfl) :
    PE X (.Call (.Attribute o name apos) (e :: es) [] cpos) (tBMT r to t) := by
  intro pins s σ H Q I h
  refine wpAny_Call_method_late hbase hfew hline rfl (thn (ho pins s σ H _ I h) fun v s1 ⟨x, H1, I1, r1, ⟨a, ys, ex, hx⟩, q1⟩ => ?_)
  subst ex
  cases r1
  obtain ⟨h1, h2⟩ := tupD_is I1 hx
  refine ⟨"tuple", id, PySem.F.plainAttrs_tuple, slot, hty, h1, h2, ?_⟩
  have hA := ha cpos pins s1 σ H1 _ I1 q1
  rw [hs] at hA ⊢
  refine Calls.callWith_builtin (by show (false || (backTo cpos (starEach es X.env)).any (·.1)) = false; rw [hplain] <;> rfl) (Calls.evalArgs_plain ?_)
  exact thn hA fun us s2 ⟨vs, H2, I2, r2, q2⟩ => hm pins s2 σ H2 (.ref a) vs (.ref a) us Q I2 rfl r2 q2
/-! ### range as a value, list(range) -/
theorem call_rng1 {X : Cx} : CallR X (.type "range") (fun xs H Q => ∃ j : Int, xs = [.int j] ∧ ∀ r, H r = none → Q (.ref r) (upd H r (.rng 0 j))) := by
  intro pins s σ H xs us Q I rr h
  obtain ⟨j, rfl, q⟩ := h
  obtain ⟨u, rfl, t, rfl⟩ := vals1 rr
  refine call_range_1 ?_
  refine ⟨.ref s.heap.objs.size, _, I.laid (t' := s.toks + 1 + 1) (o := .rng 0 j) (fun b o e => Heap.get?_push_of_some _ e) (Nat.le_refl _) ?_, rfl, q _ (I.hok.fresh (Nat.le_refl _))⟩
  exact ⟨_, _, _, Heap.get?_push_size _ rfl⟩
theorem vals_items {g : Nat → V} {P : Nat → Value → Prop} (hP : ∀ j v, P j v → RelV (g j) v) : ∀ (l : List Value) (k : Nat), (∀ j v, l[j]? = some v → P (k + j) v) → Vals ((List.range' k l.length).map g) l
  | [], _, _ => .nil
  | a :: r, k, h => by
    refine .cons (hP _ _ (h 0 a rfl)) (vals_items hP r (k + 1) fun j v e => ?_)
    have := h (j + 1) v (by simpa using e)
    rw [show k + 1 + j = k + (j + 1) by omega]
    exact this
theorem call_list_rng {X : Cx} (hc : X.calm = true) : CallR X (.type "list") (fun xs H Q => ∃ (r : Addr) (n : Nat), xs = [.ref r] ∧ H r = some (.rng 0 (n : Int)) ∧ n ≤ 100000 ∧ ∀ l, H l = none → Q (.ref l) (upd H l (.lst ((List.range' 0 n).map fun i => .int (i : Nat))))) := by
  intro pins s σ H xs us Q I rr h
  obtain ⟨r, n, rfl, hr, hn, q⟩ := h
  obtain ⟨u, rfl, ru⟩ := vals1 rr
  cases ru
  obtain ⟨t, u, v, e⟩ := (show ObjOk X.prog X.w H s.heap r (.rng 0 n) from I.hok r _ hr)
  refine call_list_range (n := n) (I.ok.hd hc) e (small_one (by decide) (by decide) (by omega) (by omega)) (by rw [rangeSize_one]; split <;> omega) (by omega) fun h' tk acc c' kp el it => ?_
  have hl : acc.toList.length = n := by rw [Array.length_toList]; exact it.1
  have vv : Vals ((List.range' 0 n).map fun i => V.int (i : Nat)) acc.toList := by
    have := vals_items (g := fun i => V.int (i : Nat)) (P := fun i v => ∃ t, v = .int (0 + i * 1) t) (fun j v ⟨t, e⟩ => ⟨t, by rw [e]; simp⟩) acc.toList 0 (fun j v e => by
      have := it.2 j v (by simpa using e)
      simpa using this)
    rw [hl] at this
    exact this
  refine ⟨.ref s.heap.objs.size, _, I.laid (t' := tk) (o := .lst ((List.range' 0 n).map fun i => V.int (i : Nat))) kp (Nat.le_refl _) ?_, rfl, q _ (I.hok.fresh (Nat.le_refl _))⟩
  refine ⟨?_, acc.toList, c', vv, by simpa using el⟩
  rw [List.length_map, List.length_range']
  exact Nat.le_trans hn (by decide)
/-! ### a tuple's iterator -/
section
variable {prog : Program} {w : World} {A : Around} {E : Value → Shared → Prop} {s : Shared}
theorem nextOf_tup {it t : Addr} {i : Nat} {items : Array Value} {x : Value} {Q : Value → Shared → Prop} (hi : IsTupIter s.heap it t i) (ht : IsTup s.heap t items) (hx : items[i]? = some x)
    (k : ∀ h', IsTupIter h' it t (i + 1) → Heap.SameBut it s.heap h' → Q x { s with heap := h' }) : wpAny (model prog w) A (Builtin.SmallTypes.nextOf (.ref it)) Q E s := by
  have tI := hi.typeIs
  obtain ⟨a, ha, hac, had⟩ := hi
  obtain ⟨b, hb, _, n, hbd⟩ := ht
  unfold Builtin.SmallTypes.nextOf
  refine wpAny_bind (wpAny_callSpecial?_slot (name := Str.ofString "__next__") tI PySem.F.slot_tuple_iterator_next (wpAny_call_entry PySem.F.slot_tuple_iterator_next tI PySem.F.entry_tuple_iterator_next ?_ (PySem.F.args_tuple_iterator_next_1 _)))
  show wpAny _ _ (field (.ref it) 0 >>= _) _ _ s
  refine wpAny_bind (wpAny_field ha had (x := .ref t) rfl ?_)
  show wpAny _ _ (if (Value.ref t == Value.none) = true then _ else _) _ _ s
  rw [if_neg (by simp)]
  show wpAny _ _ (field (.ref it) 1 >>= _) _ _ s
  refine wpAny_bind (wpAny_field ha had (x := .int i 0) rfl ?_)
  show wpAny _ _ (seqItems? (.ref t) >>= _) _ _ s
  refine wpAny_bind (wpAny_seqItems hb hbd ?_)
  simp only [Int.toNat_natCast, hx]
  refine wpAny_bind (wpAny_setField ha had (by simp) (wpAny_pure ⟨x, rfl, wpAny_pure (k _ ⟨_, Heap.get?_update_self _ ha (Obj.isFreed_of_fields (Obj.data_mapFields had _)), (Obj.cls_mapFields ..).trans hac, ?_⟩ (Heap.SameBut.update ..))⟩))
  rw [Obj.data_mapFields had]; simp [rawInt]
theorem nextOf_tup_end {it t : Addr} {i : Nat} {items : Array Value} {Q : Value → Shared → Prop} (hh : A.handled = none) (hi : IsTupIter s.heap it t i) (ht : IsTup s.heap t items) (hx : items[i]? = none)
    (k : ∀ h' e, Heap.ExtBut it s.heap h' → (∃ o, h'.get? e = some o ∧ o.cls = .type "StopIteration") → E (.ref e) { s with heap := h' }) : wpAny (model prog w) A (Builtin.SmallTypes.nextOf (.ref it)) Q E s := by
  have tI := hi.typeIs
  obtain ⟨a, ha, hac, had⟩ := hi
  obtain ⟨b, hb, _, n, hbd⟩ := ht
  unfold Builtin.SmallTypes.nextOf
  refine wpAny_bind (wpAny_callSpecial?_slot (name := Str.ofString "__next__") tI PySem.F.slot_tuple_iterator_next (wpAny_call_entry PySem.F.slot_tuple_iterator_next tI PySem.F.entry_tuple_iterator_next ?_ (PySem.F.args_tuple_iterator_next_1 _)))
  show wpAny _ _ (field (.ref it) 0 >>= _) _ _ s
  refine wpAny_bind (wpAny_field ha had (x := .ref t) rfl ?_)
  show wpAny _ _ (if (Value.ref t == Value.none) = true then _ else _) _ _ s
  rw [if_neg (by simp)]
  show wpAny _ _ (field (.ref it) 1 >>= _) _ _ s
  refine wpAny_bind (wpAny_field ha had (x := .int i 0) rfl ?_)
  show wpAny _ _ (seqItems? (.ref t) >>= _) _ _ s
  refine wpAny_bind (wpAny_seqItems hb hbd ?_)
  simp only [Int.toNat_natCast, hx]
  refine wpAny_bind (wpAny_rule (wpAny_bind (wpAny_setField ha had (by simp) ?_)))
  show wpAny _ _ (newExc (.type "StopIteration") [] >>= _) _ _ _
  refine wpAny_bind ?_
  simp only [newExc, newTuple]
  refine wpAny_bind (wpAny_newObj_type ?_ (by size_fits))
  refine wpAny_bind (m := firstArgMember _ _) (wpAny_of_eq (a := Value.none) (by first | rfl | (simp only [firstArgMember]; rfl)) ?_)
  refine wpAny_newObj_type ?_ (by size_fits)
  simp only [raiseNew]
  refine wpAny_bind (wpAny_handled ?_)
  first | rw [show A.in1.handled = none from hh] | rw [hh]
  exact wpAny_bind (wpAny_pure (wpAny_throw (k _ _ (((Heap.SameBut.update ..).extBut.push _).push _) ⟨_, Heap.get?_push_size _ rfl, rfl⟩)))
theorem draws_tup (hh : A.handled = none) (it t : Addr) (hne : t ≠ it) (items : Array Value) :
    Draws prog w A it [it, t] items.size (fun i v => items[i]? = some v) (fun i h => IsTupIter h it t i ∧ IsTup h t items) where
  live := fun _ _ st => let ⟨o, ho, _⟩ := st.1; ⟨o, ho⟩
  frame := fun i h h' st hk => by
    obtain ⟨⟨o, ho, r⟩, ⟨ot, hot, rt⟩⟩ := st
    exact ⟨⟨o, hk it (by simp) o ho, r⟩, ⟨ot, hk t (by simp) ot hot, rt⟩⟩
  item := fun i s Q E hi st hQ => by
    refine nextOf_tup st.1 st.2 (x := items[i]) (by simp [hi]) fun h' hit' hs' => ?_
    obtain ⟨ot, hot, rt⟩ := st.2
    exact hQ _ h' s.toks (by simp [hi]) ⟨hit', ⟨ot, hs'.extBut _ _ hne hot, rt⟩⟩ hs'
  done := fun s Q E st hE => nextOf_tup_end hh st.1 st.2 (by simp) hE
theorem iter_tup {t : Addr} {items : Array Value} {Q : Value → Shared → Prop} (ht : IsTup s.heap t items) (k : Q (.ref s.heap.objs.size) { s with heap := s.heap.push { cls := .type "tuple_iterator", data := .fields #[.ref t, .int 0 0] } }) :
    wpAny (model prog w) A (pyIter (.ref t)) Q E s := by
  obtain ⟨o, ho, hc, n, hd⟩ := ht
  exact wpAny_pyIter_tuple ⟨o, ho, hc, n, hd⟩ k
end
theorem meets_enum_tup (t : Addr) (items : Array Value) :
    Meets (Builtin.«enumerate.__new__» ⟨[.type "enumerate", .ref t], []⟩) (fun _ R s => IsTup s.heap t items ∧
      R (.ok (.ret (.ref (s.heap.push { cls := .type "tuple_iterator", data := .fields #[.ref t, .int 0 0] }).objs.size)))
        { s with heap := (s.heap.push { cls := .type "tuple_iterator", data := .fields #[.ref t, .int 0 0] }).push { cls := .type "enumerate", data := .fields #[.none, .bool false, .ref s.heap.objs.size, rawInt 0, .none, .none] } }) :=
  .of_wp fun prog w A R s h => by
    obtain ⟨hp, g, d, tk, os⟩ := s; obtain ⟨ht, h⟩ := h
    have hsub := sub_enumerate
    have hT : IsTup (Shared.heap ⟨hp, g, d, tk, os⟩) t items := ht
    obtain ⟨o, ho, hc, n, hd⟩ := id ht
    wp_walk using AutoSeq1.wpAny_loadPart' ho
    refine wpAny_stack_any fun st => wpAny_pure ?_
    split
    case h_1 c _ _ _ _ _ => cases (c == Value.type "enumerate") <;> (wp_walk using AutoSeq1.wpAny_loadPart' ho, iter_tup hT; exact ⟨_, rfl, h⟩)
    case h_2 => (wp_walk using AutoSeq1.wpAny_loadPart' ho, iter_tup hT; exact ⟨_, rfl, h⟩)
section
variable {prog : Program} {w : World} {A : Around} {E : Value → Shared → Prop} {s : Shared}
theorem call_enum_tup {t : Addr} {items : Array Value} {Q : Value → Shared → Prop} (ht : IsTup s.heap t items)
    (k : ∀ h', IsEnum h' (s.heap.objs.size + 1) s.heap.objs.size 0 .none → IsTupIter h' s.heap.objs.size t 0 → h'.objs.size = s.heap.objs.size + 2 → (∀ b o, s.heap.get? b = some o → h'.get? b = some o) → Q (.ref (s.heap.objs.size + 1)) { s with heap := h' }) :
    wpAny (model prog w) A (call (.type "enumerate") [.ref t]) Q E s := by
  refine callType_new PySem.F.called_enumerate (by decide) (PySem.F.typeCall_enumerate_1 _) (PySem.F.newCall_enumerate_1 _) (fun obj => PySem.F.args_object_init_2 obj _) PySem.F.entry_enumerate_new (meets_enum_tup t items) ⟨ht, ?_⟩
  have z : (s.heap.push { cls := .type "tuple_iterator", data := .fields #[.ref t, .int 0 0] }).objs.size = s.heap.objs.size + 1 := Heap.size_push ..
  have g := Heap.get?_push_size (s.heap.push { cls := .type "tuple_iterator", data := .fields #[.ref t, .int 0 0] }) (o := { cls := .type "enumerate", data := .fields #[.none, .bool false, .ref s.heap.objs.size, rawInt 0, .none, .none] }) rfl
  show _ ∧ _
  rw [z] at g ⊢
  exact ⟨⟨_, g, rfl⟩, k _ g ⟨_, Heap.get?_push_of_some _ (Heap.get?_push_size _ rfl), rfl, rfl⟩ (by rw [Heap.size_push, z]) fun b o x => Heap.get?_push_of_some _ (Heap.get?_push_of_some _ x)⟩
end
/-! ### enumerate(tuple), in a for or a comprehension -/
def IteT (K : PySem.W.Frag) (a : Addr) : It :=
  ⟨fun i H => ∃ (xs : List V) (x : V), SqT K H a xs ∧ xs[i]? = some x, fun i H v H' => ∃ T x, v = .ref T ∧ H T = none ∧ H' = upd H T (.tup [.int (i : Nat), x]) ∧ ∀ xs, SqT K H a xs → xs[i]? = some x, fun i H => ∃ xs : List V, SqT K H a xs ∧ xs.length = i⟩
theorem turn_enumT {P : Program} {w : World} {K : PySem.W.Frag} {elts : List Expr} {kk : Nat} {tpos : Pos} (a e it : Addr) (hai : a ≠ it) (hae : a ≠ e) :
    Turn P w K (.Tuple elts kk tpos) (IteT K a) [e, it] e (fun i h => (∃ old, IsEnum h e it ((i : Nat) : Int) old) ∧ IsTupIter h it a i ∧ e ≠ it) where
  mem := by simp
  obj := fun i h st b hb => by
    obtain ⟨⟨old, he⟩, ⟨o, ho, hc, hd⟩, _⟩ := st
    have e' : b = e ∨ b = it := by simpa using hb
    rcases e' with rfl | rfl
    · exact ⟨_, he, fun v q => nomatch q⟩
    · exact ⟨o, ho, fun v q => by rw [hd] at q; cases q⟩
  keep := fun i h h' st k => by
    obtain ⟨⟨old, he⟩, ⟨o, ho, r⟩, hne⟩ := st
    exact ⟨⟨old, k e (by simp) _ he⟩, ⟨o, k it (by simp) o ho, r⟩, hne⟩
  item := by
    intro X hP hw hK hc i pins s σ H E I hf st hg
    subst hP hw hK
    obtain ⟨⟨old, he⟩, hit, hne⟩ := st
    obtain ⟨xs, x, hq, hx⟩ := hg
    obtain ⟨its, rv, p, hz⟩ := I.tuple hq
    obtain ⟨u, hu, ru⟩ := rv.get hx
    have hil : i < its.toArray.size := by simpa using (List.getElem?_eq_some_iff.mp hu).1
    refine wpAny_pyNext_enum_itemD (draws_tup (A := X.A.in1) (I.ok.hd hc) it a hai its.toArray) he ⟨hit, p⟩ hil hne (by simp; exact ⟨hne, Ne.symm hae⟩) fun y h' tk hy ho st' hT hsz hk => ?_
    have hyu : y = u := by
      have : its.toArray[i]? = some u := by simpa using hu
      rw [this] at hy; exact (Option.some.inj hy).symm
    subst hyu
    have hel : e < s.heap.objs.size := Heap.lt_size he
    have hilt : it < s.heap.objs.size := by obtain ⟨_, q, _⟩ := hit; exact Heap.lt_size q
    refine ⟨_, rfl, wpAny_letOwnedTupleGo_enum (s := { s with heap := h', toks := tk + 1 }) ho fun h'' he' sb => ?_⟩
    have hT2 : h''.get? s.heap.objs.size = some { cls := .type "tuple", data := .seq #[.int i tk, y] } := (sb.2 _ (Nat.ne_of_gt hel)).trans hT
    have new : ObjOk X.prog X.w (upd H s.heap.objs.size (.tup [.int (i : Nat), x])) h'' s.heap.objs.size (.tup [.int (i : Nat), x]) :=
      ⟨(by show 2 ≤ sizeLine; decide), [.int i tk, y], .cons ⟨_, rfl⟩ (.cons ru .nil), ⟨_, hT2, rfl, rfl, _, rfl⟩⟩
    have I1 : Inv X pins σ (upd H s.heap.objs.size (.tup [.int (i : Nat), x])) { s with heap := h'', toks := tk + 1 } :=
      I.turnedNew (ch := [e, it]) (fun b ob hb q => (sb.2 b (fun z => hb (by simp [z]))).trans (hk b ob (fun z => hb (by simp [z])) (fun z => hb (by simp [z])) q)) hf (Nat.le_refl _) new
    refine ⟨.ref s.heap.objs.size, _, I1, rfl, ⟨_, x, rfl, I.hok.fresh (Nat.le_refl _), rfl, fun ys hy => ?_⟩, ⟨⟨y, ?_⟩, ?_, hne⟩, fun b hb => ?_⟩
    · rw [I.tuple_inj hy hq]; exact hx
    · have e1 : ((i + 1 : Nat) : Int) = (i : Int) + 1 := by omega
      rw [e1]; exact he'
    · obtain ⟨⟨o, ho', r⟩, _⟩ := st'
      exact ⟨o, (sb.2 it (Ne.symm hne)).trans ho', r⟩
    · have hb' : b < s.heap.objs.size := by
        have e' : b = e ∨ b = it := by simpa using hb
        rcases e' with rfl | rfl
        · exact hel
        · exact hilt
      rw [upd_ne (Nat.ne_of_lt hb')]
      exact (hf b hb).1
  done := by
    intro X hP hw hK hc i pins s σ H E I hf st hg
    subst hP hw hK
    obtain ⟨⟨old, he⟩, hit, hne⟩ := st
    obtain ⟨xs, hq, hx⟩ := hg
    obtain ⟨its, rv, p, hz⟩ := I.tuple hq
    obtain ⟨f0, f1, f2, f3, f4, f5⟩ := hf it (by simp)
    have hl := rv.length
    have hn : its.toArray.size = i := by simp; omega
    refine wpAny_pyNext_enum_endD (n := its.toArray.size) (draws_tup (A := X.A.in1) (I.ok.hd hc) it a hai its.toArray) he ⟨by rw [hn]; exact hit, p⟩ fun h' eb => ⟨rfl, ?_⟩
    exact I.turned (t' := s.toks) (fun b o hb q => eb b o hb q) f0 f1 f3 f4 f5
  self := fun A i s Q E st h => let ⟨⟨_, he⟩, _⟩ := st; wpAny_pyIter_enum he h
def iEnumT (K : PySem.W.Frag) (ta : TA) : TI := fun σ H R => ta σ H fun vs H1 => ∃ a xs, vs = [.ref a] ∧ SqT K H1 a xs ∧ R (IteT K a) H1
theorem pi_enumT {X : Cx} {e : Expr} {ta : TA} {p pos tpos : Pos} {elts : List Expr} {kk : Nat} (hg : Gl X "enumerate") (hm : X.mg "enumerate" = none) (ha : PA X [e] ta) (hs : starEach [e] X.env = [(false, eval e X.env)] := by rfl) :
    PI X (.Tuple elts kk tpos) (.Call (.Name "enumerate" p) [e] [] pos) (iEnumT X.K ta) := by
  intro pins s σ H R I h
  refine Call_ (ld_blt I hg hm boot_enumerate (PyProof.Rows.callWith_type1 (thn (ha pos pins s σ H _ I h) fun us s1 ⟨vs, H1, I1, r1, q1⟩ => ?_) hs rfl))
  obtain ⟨a, xs, ex, hq, q⟩ := q1
  subst ex
  obtain ⟨u, rfl, ru⟩ := vals1 r1
  cases ru
  obtain ⟨its, rv, p', hz⟩ := I1.tuple hq
  have la : a < s1.heap.objs.size := p'.lt
  refine call_enum_tup p' fun h' he hit hsz hk => wpAny_pyIter_enum he ?_
  have I2 : Inv X pins σ H1 { s1 with heap := h' } := I1.kept (t' := s1.toks) hk
  refine ⟨s1.heap.objs.size + 1, [s1.heap.objs.size + 1, s1.heap.objs.size], _, _, H1, rfl, I2, turn_enumT a (s1.heap.objs.size + 1) s1.heap.objs.size (Nat.ne_of_lt la) (Nat.ne_of_lt (Nat.lt_succ_of_lt la)), ⟨⟨.none, he⟩, hit, Nat.succ_ne_self _⟩, fun b hb => ?_, q⟩
  have hle : s1.heap.objs.size ≤ b := by
    have e' : b = s1.heap.objs.size + 1 ∨ b = s1.heap.objs.size := by simpa using hb
    rcases e' with z | z
    · rw [z]; exact Nat.le_succ _
    · rw [z]; exact Nat.le_refl _
  exact I1.fpOk hle (I1.hok.fresh hle)
theorem lc_enumT {K : PySem.W.Frag} {a : Addr} {xs : List V} {g : TG} {tt : TT} {te : TE} {vs : List Nat} {σ : St} {H1 : Hp} {D : Addr} {Qd : Hp → Prop} (Pv : Nat → Hp → Prop) (h0 : Pv 0 (upd H1 D (.lst []))) (hl : ∀ i H, i ≤ xs.length → Pv i H → SqT K H a xs)
    (hs : ∀ i x H T, xs[i]? = some x → Pv i H → H T = none → g (.ref T) (wipe σ vs) (upd H T (.tup [.int (i : Nat), x])) fun σ2 H2 => wipe σ2 vs = wipe σ vs ∧ tt σ2 H2 fun b H3 =>
      if b = true then te σ2 H3 fun y H4 => ∃ acc, H4 D = some (.lst acc) ∧ acc.length < sizeLine ∧ Pv (i + 1) (upd H4 D (.lst (acc ++ [y]))) else Pv (i + 1) H3) (hd : ∀ H, Pv xs.length H → Qd H) :
    ∃ W : Nat → Nat → Hp → Prop, (∃ m, W 0 m (upd H1 D (.lst []))) ∧ ∀ i m H, W i m H →
      ((IteT K a).stop i H ∧ Qd H) ∨ ((IteT K a).go i H ∧ ∃ Nx : Hp → Prop, (∀ H', Nx H' → ∃ m', m' < m ∧ W (i + 1) m' H') ∧ ∀ x H', (IteT K a).yld i H x H' → g x (wipe σ vs) H' fun σ2 H2 => wipe σ2 vs = wipe σ vs ∧ tt σ2 H2 fun b H3 =>
        if b = true then te σ2 H3 fun y H4 => ∃ acc, H4 D = some (.lst acc) ∧ acc.length < sizeLine ∧ Nx (upd H4 D (.lst (acc ++ [y]))) else Nx H3) := by
  refine ⟨fun i m H => m = xs.length - i ∧ i ≤ xs.length ∧ Pv i H, ⟨xs.length, by simp, Nat.zero_le _, h0⟩, ?_⟩
  rintro i m H ⟨rfl, hi, p⟩
  have q := hl i H hi p
  by_cases hlt : i < xs.length
  · refine .inr ⟨⟨xs, xs[i], q, by simp [hlt]⟩, Pv (i + 1), fun H' p' => ⟨xs.length - (i + 1), by omega, rfl, hlt, p'⟩, fun x H' y => ?_⟩
    obtain ⟨T, z, rfl, hT, rfl, hz⟩ := y
    exact hs i z _ T (hz xs q) p hT
  · have e : i = xs.length := by omega
    exact .inl ⟨⟨xs, q, e.symm⟩, hd H (by rw [← e]; exact p)⟩
/-! ### zip of two things that are drawn from, as list() takes it -/
abbrev ZipF (h : Heap) (z TI TO : Addr) (f0 : Value) (f1 : Bool) : Prop :=
  h.get? z = some { cls := .type "zip", dict := none, data := .fields #[f0, .bool f1, .bool false, .ref TI, .ref TO], slots := #[] }
structure ZAp (z TI TO i1 i2 : Addr) (fp1 fp2 : List Addr) : Prop where
  TIz : TI ≠ z
  TOz : TO ≠ z
  i1z : i1 ≠ z
  i2z : i2 ≠ z
  TITO : TI ≠ TO
  TIi1 : TI ≠ i1
  TIi2 : TI ≠ i2
  TOi1 : TO ≠ i1
  TOi2 : TO ≠ i2
  i12 : i1 ≠ i2
  z1 : z ∉ fp1
  z2 : z ∉ fp2
  t1 : TO ∉ fp1
  t2 : TO ∉ fp2
  n21 : i2 ∉ fp1
  n12 : i1 ∉ fp2
section
variable {prog : Program} {w : World} {A : Around} {E : Value → Shared → Prop} {s : Shared} {z TI TO i1 i2 : Addr} {fp1 fp2 : List Addr} {n1 n2 k1 k2 : Nat} {P1 P2 : Nat → Value → Prop} {S1 S2 : Nat → Heap → Prop} {a b : Value}
theorem zip_item_first {Q : Value → Shared → Prop} (D1 : Draws prog w A i1 fp1 n1 P1 S1) (D2 : Draws prog w A i2 fp2 n2 P2 S2) (D : ZAp z TI TO i1 i2 fp1 fp2) (hz : ZipF s.heap z TI TO .none false) (hTI : IsPair s.heap TI (.ref i1) (.ref i2)) (hTO : IsPair s.heap TO a b)
    (hs1 : S1 k1 s.heap) (l1 : k1 < n1) (hs2 : S2 k2 s.heap) (l2 : k2 < n2)
    (k : ∀ x y h' tk, P1 k1 x → P2 k2 y → ZipF h' z TI TO (rawInt s.heap.objs.size) false → IsPair h' TO x y → S1 (k1 + 1) h' → S2 (k2 + 1) h' → IsPair h' s.heap.objs.size x y → h'.objs.size = s.heap.objs.size + 1 →
      (∀ c o, c ≠ z → c ≠ TO → c ≠ i1 → c ≠ i2 → s.heap.get? c = some o → h'.get? c = some o) → Q (.ref s.heap.objs.size) { s with heap := h', toks := tk }) :
    wpAny (model prog w) A (Builtin.«zip.__next__» ⟨[.ref z], []⟩) (fun fin s' => ∃ v, fin = .done (.ret v) ∧ Q v s') E s := by
  have hi1 : i1 < s.heap.objs.size := by obtain ⟨o, e⟩ := D1.live _ _ hs1; exact Heap.lt_size e
  have hi2 : i2 < s.heap.objs.size := by obtain ⟨o, e⟩ := D2.live _ _ hs2; exact Heap.lt_size e
  show wpAny _ _ (field (.ref z) 2 >>= _) _ _ _
  refine wpAny_bind (wpAny_field hz rfl (x := .bool false) rfl ?_)
  show wpAny _ _ (field (.ref z) 3 >>= _) _ _ _
  refine wpAny_bind (wpAny_field hz rfl (x := .ref TI) rfl ?_)
  refine wpAny_bind (wpAny_seqItems hTI rfl ?_)
  show wpAny _ _ (Builtin.SmallTypes.ownedTupleIsFree (.ref z) >>= _) _ _ _
  refine wpAny_bind ?_
  unfold Builtin.SmallTypes.ownedTupleIsFree
  refine wpAny_bind (wpAny_field hz rfl (x := .none) rfl (wpAny_pure ?_))
  simp only [if_true]
  refine wpAny_bind (wpAny_rule (wpAny_bind (wpAny_field hz rfl (x := .ref TO) rfl (wpAny_bind (wpAny_setField_rec hz (by simp) fun h1 hz1 e1 => ?_)))))
  have hz1' : ZipF h1 z TI TO .ellipsis false := hz1
  refine wpAny_bind ?_
  simp only [List.zipIdx_cons, List.zipIdx_nil, List.forIn_cons, List.forIn_nil]
  refine wpAny_bind (wpAny_bind (wpAny_onRaise ?_))
  show wpAny _ _ (Builtin.SmallTypes.nextOf (.ref i1) >>= _) _ _ _
  refine wpAny_bind (D1.item k1 _ _ _ l1 (D1.frame _ _ _ hs1 fun c hc o e => e1.extBut c o (fun q => D.z1 (q ▸ hc)) e) fun x h2 tk2 px s1' e2 => wpAny_pure ?_)
  have hTO2 : IsPair h2 TO a b := e2.extBut _ _ D.TOi1 (e1.extBut _ _ D.TOz hTO)
  refine wpAny_bind (wpAny_seqItems hTO2 rfl (wpAny_bind (wpAny_updateSeq_pair hTO2 fun h3 hTO3 e3 => wpAny_bind (wpAny_letGo (wpAny_pure ?_)))))
  have hTO3' : IsPair h3 TO x b := hTO3
  refine wpAny_bind (wpAny_bind (wpAny_onRaise ?_))
  show wpAny _ _ (Builtin.SmallTypes.nextOf (.ref i2) >>= _) _ _ _
  have hs2' : S2 k2 h3 := D2.frame _ _ _ hs2 fun c hc o e => e3.extBut c o (fun q => D.t2 (q ▸ hc)) (e2.extBut c o (fun q => D.n12 (q ▸ hc)) (e1.extBut c o (fun q => D.z2 (q ▸ hc)) e))
  refine wpAny_bind (D2.item k2 _ _ _ l2 hs2' fun y h4 tk4 py s2' e4 => wpAny_pure ?_)
  have hTO4 : IsPair h4 TO x b := e4.extBut _ _ D.TOi2 hTO3'
  refine wpAny_bind (wpAny_seqItems hTO4 rfl (wpAny_bind (wpAny_updateSeq_pair hTO4 fun h5 hTO5 e5 => wpAny_bind (wpAny_letGo (wpAny_pure (wpAny_pure ?_))))))
  have hTO5' : IsPair h5 TO x y := hTO5
  refine wpAny_bind (wpAny_seqItems hTO5' rfl (wpAny_bind (wpAny_newTuple ?_)))
  have hsz : h5.objs.size = s.heap.objs.size := by rw [e5.1, e4.1, e3.1, e2.1, e1.1]
  have hz5 : ZipF h5 z TI TO .ellipsis false := e5.extBut _ _ D.TOz.symm (e4.extBut _ _ D.i2z.symm (e3.extBut _ _ D.TOz.symm (e2.extBut _ _ D.i1z.symm hz1')))
  have keep5 : ∀ c o, c ≠ z → c ≠ TO → c ≠ i1 → c ≠ i2 → s.heap.get? c = some o → h5.get? c = some o := fun c o c1 c2 c3 c4 e =>
    e5.extBut _ _ c2 (e4.extBut _ _ c4 (e3.extBut _ _ c2 (e2.extBut _ _ c3 (e1.extBut _ _ c1 e))))
  have hzlt : z < h5.objs.size := Heap.lt_size hz5
  show wpAny _ _ (Builtin.SmallTypes.ownedTupleHandOut (.ref z) (.ref h5.objs.size) >>= _) _ _ _
  refine wpAny_bind ?_
  unfold Builtin.SmallTypes.ownedTupleHandOut
  have hz6 : ZipF (h5.push { cls := .type "tuple", data := .seq #[x, y] }) z TI TO .ellipsis false := Heap.get?_push_of_some _ hz5
  refine wpAny_bind (wpAny_setField_rec hz6 (by simp) fun h7 hz7 e7 => ?_)
  have hz7' : ZipF h7 z TI TO (rawInt h5.objs.size) false := hz7
  refine wpAny_setField_rec hz7' (by simp) fun h8 hz8 e8 => ?_
  have hz8' : ZipF h8 z TI TO (rawInt h5.objs.size) false := hz8
  have up : ∀ c o, c ≠ z → h5.get? c = some o → h8.get? c = some o := fun c o c1 e => e8.extBut _ _ c1 (e7.extBut _ _ c1 (Heap.get?_push_of_some _ e))
  have hT8 : IsPair h8 h5.objs.size x y := e8.extBut _ _ (Nat.ne_of_gt hzlt) (e7.extBut _ _ (Nat.ne_of_gt hzlt) (Heap.get?_push_size _ rfl))
  have sz8 : h8.objs.size = h5.objs.size + 1 := by rw [e8.1, e7.1, Heap.size_push]
  rw [hsz] at hz8' hT8 sz8
  refine wpAny_pure ⟨_, rfl, ?_⟩
  show Q (.ref h5.objs.size) _
  rw [hsz]
  refine k x y h8 tk4 px py hz8' (up _ _ D.TOz hTO5') (D1.frame _ _ _ s1' fun c hc o e => up c o (fun q => D.z1 (q ▸ hc)) (e5.extBut _ _ (fun q => D.t1 (q ▸ hc)) (e4.extBut _ _ (fun q => D.n21 (q ▸ hc)) (e3.extBut _ _ (fun q => D.t1 (q ▸ hc)) e))))
    (D2.frame _ _ _ s2' fun c hc o e => up c o (fun q => D.z2 (q ▸ hc)) (e5.extBut _ _ (fun q => D.t2 (q ▸ hc)) e)) hT8 sz8 fun c o c1 c2 c3 c4 e => up c o c1 (keep5 c o c1 c2 c3 c4 e)
theorem loadAlive {M : Model} {x : Addr} {Q : Option Obj → Shared → Prop} (h : Q (s.heap.get? x) s) : wpAny M A (loadIfAlive x) Q E s :=
  fun Γ p hΓ => by unfold loadIfAlive; rw [Sem.wp_loadIfAlive]; exact wpAny_pure (A := A) (E := E) h Γ p hΓ
/-- the owned tuple is out: the zip says so, and is else as it was -/
theorem zip_not_free {T : Addr} {oT : Obj} {f1 : Bool} {Q : Bool → Shared → Prop} (hz : ZipF s.heap z TI TO (rawInt T) f1) (hT : s.heap.get? T = some oT) (k : ∀ h1, ZipF h1 z TI TO (rawInt T) true → Heap.SameBut z s.heap h1 → Q false { s with heap := h1 }) :
    wpAny (model prog w) A (Builtin.SmallTypes.ownedTupleIsFree (.ref z)) Q E s := by
  unfold Builtin.SmallTypes.ownedTupleIsFree
  refine wpAny_bind (wpAny_field hz rfl (x := rawInt T) rfl ?_)
  show wpAny _ _ (loadIfAlive ((T : Int).toNat) >>= _) _ _ _
  rw [Int.toNat_natCast]
  refine wpAny_bind (loadAlive ?_)
  rw [hT]
  show wpAny _ _ (field (.ref z) 1 >>= _) _ _ _
  refine wpAny_bind (wpAny_field hz rfl (x := .bool f1) rfl ?_)
  cases f1 with
  | true => exact wpAny_pure (k _ hz ⟨rfl, fun _ _ => rfl⟩)
  | false =>
    show wpAny _ _ (setField (.ref z) 1 (.bool true) >>= _) _ _ _
    exact wpAny_bind (wpAny_setField_rec hz (by simp) fun h1 hz1 e1 => wpAny_pure (k h1 hz1 e1))
/-- the owned tuple is out: a further one is made -/
theorem zip_item_more {Q : Value → Shared → Prop} {T : Addr} {oT : Obj} {f1 : Bool} (D1 : Draws prog w A i1 fp1 n1 P1 S1) (D2 : Draws prog w A i2 fp2 n2 P2 S2) (D : ZAp z TI TO i1 i2 fp1 fp2) (hz : ZipF s.heap z TI TO (rawInt T) f1) (hT : s.heap.get? T = some oT) (hTI : IsPair s.heap TI (.ref i1) (.ref i2)) (hTO : IsPair s.heap TO a b)
    (hs1 : S1 k1 s.heap) (l1 : k1 < n1) (hs2 : S2 k2 s.heap) (l2 : k2 < n2)
    (k : ∀ x y h' tk, P1 k1 x → P2 k2 y → ZipF h' z TI TO (rawInt T) true → S1 (k1 + 1) h' → S2 (k2 + 1) h' → IsPair h' s.heap.objs.size x y → h'.objs.size = s.heap.objs.size + 1 →
      (∀ c o, c ≠ z → c ≠ i1 → c ≠ i2 → s.heap.get? c = some o → h'.get? c = some o) → Q (.ref s.heap.objs.size) { s with heap := h', toks := tk }) :
    wpAny (model prog w) A (Builtin.«zip.__next__» ⟨[.ref z], []⟩) (fun fin s' => ∃ v, fin = .done (.ret v) ∧ Q v s') E s := by
  show wpAny _ _ (field (.ref z) 2 >>= _) _ _ _
  refine wpAny_bind (wpAny_field hz rfl (x := .bool false) rfl ?_)
  show wpAny _ _ (field (.ref z) 3 >>= _) _ _ _
  refine wpAny_bind (wpAny_field hz rfl (x := .ref TI) rfl ?_)
  refine wpAny_bind (wpAny_seqItems hTI rfl ?_)
  show wpAny _ _ (Builtin.SmallTypes.ownedTupleIsFree (.ref z) >>= _) _ _ _
  refine wpAny_bind (zip_not_free hz hT fun h1 hz1 e1 => ?_)
  simp only [Bool.false_eq_true, if_false]
  refine wpAny_bind ?_
  rw [← Array.forIn_toList]
  simp only [List.forIn_cons, List.forIn_nil]
  refine wpAny_bind (wpAny_bind (wpAny_holding ?_))
  show wpAny _ _ (Builtin.SmallTypes.nextOf (.ref i1) >>= _) _ _ _
  refine wpAny_bind (D1.item k1 _ _ _ l1 (D1.frame _ _ _ hs1 fun c hc o e => e1.extBut c o (fun q => D.z1 (q ▸ hc)) e) fun x h2 tk2 px s1' e2 => wpAny_pure (wpAny_pure ?_))
  refine wpAny_bind (wpAny_bind (wpAny_holding ?_))
  show wpAny _ _ (Builtin.SmallTypes.nextOf (.ref i2) >>= _) _ _ _
  have hs2' : S2 k2 h2 := D2.frame _ _ _ hs2 fun c hc o e => e2.extBut c o (fun q => D.n12 (q ▸ hc)) (e1.extBut c o (fun q => D.z2 (q ▸ hc)) e)
  refine wpAny_bind (D2.item k2 _ _ _ l2 hs2' fun y h4 tk4 py s2' e4 => wpAny_pure (wpAny_pure (wpAny_pure ?_)))
  refine wpAny_bind (wpAny_newTuple (hsz := by show 2 ≤ sizeLine; decide) (wpAny_pure ⟨_, rfl, ?_⟩))
  have hsz : h4.objs.size = s.heap.objs.size := by rw [e4.1, e2.1, e1.1]
  show Q (.ref h4.objs.size) _
  rw [hsz]
  have hz4 : ZipF h4 z TI TO (rawInt T) true := e4.extBut _ _ D.i2z.symm (e2.extBut _ _ D.i1z.symm hz1)
  have hnew : IsPair (h4.push { cls := .type "tuple", data := .seq #[x, y] }) s.heap.objs.size x y := by rw [← hsz]; exact Heap.get?_push_size _ rfl
  refine k x y _ tk4 px py (Heap.get?_push_of_some _ hz4) (D1.frame _ _ _ s1' fun c hc o e => Heap.get?_push_of_some _ (e4.extBut _ _ (fun q => D.n21 (q ▸ hc)) e)) (D2.frame _ _ _ s2' fun c hc o e => Heap.get?_push_of_some _ e) hnew
    (by rw [Heap.size_push, hsz]) fun c o c1 c3 c4 e => Heap.get?_push_of_some _ (e4.extBut _ _ c4 (e2.extBut _ _ c3 (e1.extBut _ _ c1 e)))
/-- the first one has ended, the owned tuple is out -/
theorem zip_end_more {Q : PySem.Fin → Shared → Prop} {T : Addr} {oT : Obj} {f1 : Bool} (D1 : Draws prog w A i1 fp1 n1 P1 S1) (D : ZAp z TI TO i1 i2 fp1 fp2) (hz : ZipF s.heap z TI TO (rawInt T) f1) (hT : s.heap.get? T = some oT) (hTI : IsPair s.heap TI (.ref i1) (.ref i2))
    (hs1 : S1 n1 s.heap)
    (k : ∀ h' e, (∀ c o, c ≠ z → c ≠ i1 → s.heap.get? c = some o → h'.get? c = some o) → (∃ o, h'.get? e = some o ∧ o.cls = .type "StopIteration") → E (.ref e) { s with heap := h' }) :
    wpAny (model prog w) A (Builtin.«zip.__next__» ⟨[.ref z], []⟩) Q E s := by
  show wpAny _ _ (field (.ref z) 2 >>= _) _ _ _
  refine wpAny_bind (wpAny_field hz rfl (x := .bool false) rfl ?_)
  show wpAny _ _ (field (.ref z) 3 >>= _) _ _ _
  refine wpAny_bind (wpAny_field hz rfl (x := .ref TI) rfl ?_)
  refine wpAny_bind (wpAny_seqItems hTI rfl ?_)
  show wpAny _ _ (Builtin.SmallTypes.ownedTupleIsFree (.ref z) >>= _) _ _ _
  refine wpAny_bind (zip_not_free hz hT fun h1 hz1 e1 => ?_)
  simp only [Bool.false_eq_true, if_false]
  refine wpAny_bind ?_
  rw [← Array.forIn_toList]
  simp only [List.forIn_cons, List.forIn_nil]
  refine wpAny_bind (wpAny_bind (wpAny_holding ?_))
  show wpAny _ _ (Builtin.SmallTypes.nextOf (.ref i1) >>= _) _ _ _
  refine wpAny_bind (D1.done _ _ _ (D1.frame _ _ _ hs1 fun c hc o e => e1.extBut c o (fun q => D.z1 (q ▸ hc)) e) fun h2 e e2 he => ?_)
  exact k h2 e (fun c o c1 c3 x => e2 _ _ c3 (e1.extBut _ _ c1 x)) he
theorem next_zip {Q : Option Value → Shared → Prop} {f0 : Value} {f1 : Bool} (hz : ZipF s.heap z TI TO f0 f1)
    (h : wpAny (model prog w) A.in1 (Builtin.«zip.__next__» ⟨[.ref z], []⟩) (fun fin s' => ∃ v, fin = .done (.ret v) ∧ Q (some v) s') (fun e s' => ∃ x o, e = .ref x ∧ s'.heap.get? x = some o ∧ o.cls = .type "StopIteration" ∧ Q none s') s) :
    wpAny (model prog w) A (pyNext (.ref z)) Q E s := by
  have hT : s.TypeIs (.ref z) "zip" := ⟨_, hz, rfl⟩
  unfold pyNext
  refine wpAny_bind (wpAny_attempt (wpAny_callSpecial?_slot (name := Str.ofString "__next__") hT PySem.F.slot_zip_next (wpAny_call_entry PySem.F.slot_zip_next hT PySem.F.entry_zip_next ?_ (PySem.F.args_zip_next_1 _))))
  refine wpAny_mono h (fun fin s' ⟨v, e, q⟩ => ⟨v, e, wpAny_pure q⟩) fun e s' ⟨x, o, ex, ho, hc, q⟩ => ?_
  subst ex
  exact wpAny_bind (wpAny_isInstance (T := "StopIteration") (b := true) ⟨o, ho, hc⟩ isSubtype_stop (wpAny_pure q))
end
/-! ### list() of such a zip: n pairs, n from 1 on -/
section
variable {prog : Program} {w : World} {A : Around} {R : Result → Shared → Prop} {z TI TO i1 i2 : Addr} {fp1 fp2 : List Addr} {n : Nat} {P1 P2 : Nat → Value → Prop} {S1 S2 : Nat → Heap → Prop}
/-- what the list holds so far: new pairs, apart from the zip's own things -/
def ZItems (P1 P2 : Nat → Value → Prop) (B : Nat) (acc : Array Value) (i : Nat) (h : Heap) : Prop :=
  acc.size = i ∧ (∀ j v, acc[j]? = some v → ∃ T x y, v = .ref T ∧ B ≤ T ∧ IsPair h T x y ∧ P1 j x ∧ P2 j y) ∧ ∀ (j j' : Nat) (v : Value), acc[j]? = some v → acc[j']? = some v → j = j'
theorem ZItems.mono {B : Nat} {acc : Array Value} {i : Nat} {h h' : Heap} (x : ZItems P1 P2 B acc i h) (k : ∀ c o, B ≤ c → h.get? c = some o → h'.get? c = some o) : ZItems P1 P2 B acc i h' :=
  ⟨x.1, fun j v e => let ⟨T, a, b, e1, hB, e2, p, q⟩ := x.2.1 j v e; ⟨T, a, b, e1, hB, k T _ hB e2, p, q⟩, x.2.2⟩
theorem ZItems.push {B : Nat} {acc : Array Value} {i : Nat} {h : Heap} {T : Addr} {x y : Value} (g : ZItems P1 P2 B acc i h) (hB : B ≤ T) (e : IsPair h T x y) (p : P1 i x) (q : P2 i y) (new : ∀ (j : Nat) (v : Value), acc[j]? = some v → v ≠ Value.ref T) : ZItems P1 P2 B (acc.push (.ref T)) (i + 1) h := by
  refine ⟨by rw [Array.size_push, g.1], fun j v hj => ?_, fun j j' v hj hj' => ?_⟩
  · rw [Array.getElem?_push] at hj
    split at hj
    · rename_i ej
      rw [g.1] at ej
      cases hj
      exact ⟨T, x, y, rfl, hB, e, by rw [ej]; exact p, by rw [ej]; exact q⟩
    · exact g.2.1 j v hj
  · rw [Array.getElem?_push] at hj hj'
    split at hj
    · cases hj
      split at hj'
      · omega
      · exact absurd rfl (new _ _ hj')
    · split at hj'
      · cases hj'
        exact absurd rfl (new _ _ hj)
      · exact g.2.2 j j' v hj hj'
theorem zip_loop (D1 : Draws prog w A.in1.in1 i1 fp1 n P1 S1) (D2 : Draws prog w A.in1.in1 i2 fp2 n P2 S2) (D : ZAp z TI TO i1 i2 fp1 fp2) (hn : n ≤ sizeLine) (S B : Addr) (hS1 : S ∉ fp1) (hS2 : S ∉ fp2) (hSz : S ≠ z) (hSI : S ≠ TI) (hSO : S ≠ TO) (hSi1 : S ≠ i1) (hSi2 : S ≠ i2) (res : Value)
    (hB : z < B ∧ TO < B ∧ i1 < B ∧ i2 < B ∧ S < B) :
    ∀ (k i : Nat) (s : Shared) (acc : Array Value) (c : Nat) (T : Addr) (f1 : Bool), n - i = k → i ≤ n → ZipF s.heap z TI TO (rawInt T) f1 → (∃ oT, s.heap.get? T = some oT) → B ≤ T → IsPair s.heap TI (.ref i1) (.ref i2) → (∃ a b, IsPair s.heap TO a b) → S1 i s.heap → S2 i s.heap → B ≤ s.heap.objs.size →
      s.heap.get? S = some { cls := .type "list", dict := none, data := .seq acc c, slots := #[] } → ZItems P1 P2 B acc i s.heap →
      (∀ h' tk acc' c', (∀ b o, b ≠ S → b ≠ z → b ≠ TO → b ≠ i1 → b ≠ i2 → s.heap.get? b = some o → h'.get? b = some o) → h'.get? S = some { cls := .type "list", dict := none, data := .seq acc' c', slots := #[] } → ZItems P1 P2 B acc' n h' → R (.ok (.ret res)) { s with heap := h', toks := tk }) →
      codeAny (model prog w) A (.builtin "list.extend.loop" ⟨[.ref S, .ref z, res], []⟩) R s := by
  intro k
  induction k with
  | zero =>
    intro i s acc c T f1 hk hi hz hT hBT hTI hTO s1 s2 hsz hS hacc hR
    have hin : i = n := by omega
    subst hin
    obtain ⟨oT, hT⟩ := hT
    refine codeAny_builtin PySem.F.entry_extend_loop ?_
    rw [Around.under_plainId PySem.F.plain_extend_loop _]
    show wpAny _ A.in1 (pyNext (.ref z) >>= _) _ _ s
    refine wpAny_bind (next_zip hz (zip_end_more D1 D hz hT hTI s1 fun h' e kp he => ?_))
    obtain ⟨o, ho, hc⟩ := he
    refine ⟨e, o, rfl, ho, hc, wpAny_pure (hR h' s.toks acc c (fun b o _ b2 _ b4 _ q => kp b o b2 b4 q) (kp S _ hSz hSi1 hS) (hacc.mono fun c o hc q => kp c o (fun e => ?_) (fun e => ?_) q))⟩
    · rw [e] at hc; exact absurd hB.1 (Nat.not_lt.mpr hc)
    · rw [e] at hc; exact absurd hB.2.2.1 (Nat.not_lt.mpr hc)
  | succ k ih =>
    intro i s acc c T f1 hk hi hz hT hBT hTI hTO s1 s2 hsz hS hacc hR
    have hlt : i < n := by omega
    obtain ⟨oT, hT⟩ := hT
    obtain ⟨ta, tb, hTO⟩ := hTO
    refine codeAny_builtin PySem.F.entry_extend_loop ?_
    rw [Around.under_plainId PySem.F.plain_extend_loop _]
    show wpAny _ A.in1 (pyNext (.ref z) >>= _) _ _ s
    refine wpAny_bind (next_zip hz (wpAny_mono (zip_item_more D1 D2 D hz hT hTI hTO s1 hlt s2 hlt fun x y h' tk px py hz' s1' s2' hp hsz' kp => ?_) (fun _ _ q => q) fun _ _ q => q))
    have hS' := kp S _ hSz hSi1 hSi2 hS
    show wpAny _ A.in1 (updateSeq S (·.push (.ref s.heap.objs.size)) >>= _) _ _ _
    refine wpAny_bind ?_
    have oth : ∀ b o, b ≠ S → h'.get? b = some o → (h'.update S (Obj.mapSeq (·.push (Value.ref s.heap.objs.size)))).get? b = some o := fun b o hb e => (Heap.get?_update_other _ _ (Ne.symm hb)).trans e
    have ltS : ∀ b, B ≤ b → b ≠ S := fun b hb e => by rw [e] at hb; exact absurd hB.2.2.2.2 (Nat.not_lt.mpr hb)
    refine wpAny_updateSeq (s := { s with heap := h', toks := tk }) hS' rfl (wpAny_pure ⟨plainId_quiet PySem.F.plain_extend_loop _, ih (i + 1) _ (acc.push (.ref s.heap.objs.size)) _ T true (by omega) hlt (oth _ _ (Ne.symm hSz) hz') ⟨oT, oth _ _ (ltS T hBT) (kp T _ (fun e => ?_) (fun e => ?_) (fun e => ?_) hT)⟩ hBT
      (oth _ _ (Ne.symm hSI) (kp TI _ D.TIz D.TIi1 D.TIi2 hTI)) ⟨ta, tb, oth _ _ (Ne.symm hSO) (kp TO _ D.TOz D.TOi1 D.TOi2 hTO)⟩ (D1.frame _ _ _ s1' fun b hb o e => oth b o (fun q => hS1 (q ▸ hb)) e) (D2.frame _ _ _ s2' fun b hb o e => oth b o (fun q => hS2 (q ▸ hb)) e) ?_ (Heap.get?_update_self _ hS' rfl) ?_ ?_⟩)
      (by rw [hacc.1]; omega) (by show (acc.push (Value.ref s.heap.objs.size)).size ≤ sizeLine + 1; rw [Array.size_push, hacc.1]; omega)
    · rw [e] at hBT; exact absurd hB.1 (Nat.not_lt.mpr hBT)
    · rw [e] at hBT; exact absurd hB.2.2.1 (Nat.not_lt.mpr hBT)
    · rw [e] at hBT; exact absurd hB.2.2.2.1 (Nat.not_lt.mpr hBT)
    · show B ≤ (h'.update S (Obj.mapSeq (·.push (Value.ref s.heap.objs.size)))).objs.size
      rw [show (h'.update S (Obj.mapSeq (·.push (Value.ref s.heap.objs.size)))).objs.size = h'.objs.size from (Heap.SameBut.update ..).1, hsz']
      exact Nat.le_succ_of_le hsz
    · have g1 : ZItems P1 P2 B acc i h' := hacc.mono fun c o hc q => kp c o (fun e => by rw [e] at hc; exact absurd hB.1 (Nat.not_lt.mpr hc)) (fun e => by rw [e] at hc; exact absurd hB.2.2.1 (Nat.not_lt.mpr hc)) (fun e => by rw [e] at hc; exact absurd hB.2.2.2.1 (Nat.not_lt.mpr hc)) q
      exact (g1.push hsz hp px py fun j v e ev => by
        obtain ⟨T', _, _, e1, _, e2, _⟩ := hacc.2.1 j v e
        rw [ev] at e1
        injection e1 with e1
        exact absurd (Heap.lt_size e2) (by rw [← e1]; exact Nat.lt_irrefl _)).mono fun c o hc q => oth c o (ltS c hc) q
    · exact fun h2 tk2 acc' c' kp2 hS2' it2 => hR h2 tk2 acc' c' (fun b o b1 b2 b3 b4 b5 q => kp2 b o b1 b2 b3 b4 b5 (oth b o b1 (kp b o b2 b4 b5 q))) hS2' it2
/-- the first turn: the owned tuple goes out -/
theorem zip_loop0 (D1 : Draws prog w A.in1.in1 i1 fp1 n P1 S1) (D2 : Draws prog w A.in1.in1 i2 fp2 n P2 S2) (D : ZAp z TI TO i1 i2 fp1 fp2) (hn : n ≤ sizeLine) (h1n : 0 < n) (S : Addr) (hS1 : S ∉ fp1) (hS2 : S ∉ fp2) (hSz : S ≠ z) (hSI : S ≠ TI) (hSO : S ≠ TO) (hSi1 : S ≠ i1) (hSi2 : S ≠ i2) (res : Value) {s : Shared} {c : Nat} {ta tb : Value}
    (hz : ZipF s.heap z TI TO .none false) (hTI : IsPair s.heap TI (.ref i1) (.ref i2)) (hTO : IsPair s.heap TO ta tb) (s1 : S1 0 s.heap) (s2 : S2 0 s.heap) (hS : s.heap.get? S = some { cls := .type "list", dict := none, data := .seq #[] c, slots := #[] })
    (hR : ∀ h' tk acc' c', (∀ b o, b ≠ S → b ≠ z → b ≠ TO → b ≠ i1 → b ≠ i2 → s.heap.get? b = some o → h'.get? b = some o) → h'.get? S = some { cls := .type "list", dict := none, data := .seq acc' c', slots := #[] } → ZItems P1 P2 s.heap.objs.size acc' n h' → R (.ok (.ret res)) { s with heap := h', toks := tk }) :
    codeAny (model prog w) A (.builtin "list.extend.loop" ⟨[.ref S, .ref z, res], []⟩) R s := by
  have lz := Heap.lt_size hz
  have lO := Heap.lt_size hTO
  have lS := Heap.lt_size hS
  have l1 : i1 < s.heap.objs.size := by obtain ⟨o, e⟩ := D1.live _ _ s1; exact Heap.lt_size e
  have l2 : i2 < s.heap.objs.size := by obtain ⟨o, e⟩ := D2.live _ _ s2; exact Heap.lt_size e
  refine codeAny_builtin PySem.F.entry_extend_loop ?_
  rw [Around.under_plainId PySem.F.plain_extend_loop _]
  show wpAny _ A.in1 (pyNext (.ref z) >>= _) _ _ s
  refine wpAny_bind (next_zip hz (wpAny_mono (zip_item_first D1 D2 D hz hTI hTO s1 h1n s2 h1n fun x y h' tk px py hz' hTO' s1' s2' hp hsz' kp => ?_) (fun _ _ q => q) fun _ _ q => q))
  have hS' := kp S _ hSz hSO hSi1 hSi2 hS
  show wpAny _ A.in1 (updateSeq S (·.push (.ref s.heap.objs.size)) >>= _) _ _ _
  refine wpAny_bind ?_
  have oth : ∀ b o, b ≠ S → h'.get? b = some o → (h'.update S (Obj.mapSeq (·.push (Value.ref s.heap.objs.size)))).get? b = some o := fun b o hb e => (Heap.get?_update_other _ _ (Ne.symm hb)).trans e
  have neS : s.heap.objs.size ≠ S := Nat.ne_of_gt lS
  have szU : (h'.update S (Obj.mapSeq (·.push (Value.ref s.heap.objs.size)))).objs.size = s.heap.objs.size + 1 := by
    rw [show (h'.update S (Obj.mapSeq (·.push (Value.ref s.heap.objs.size)))).objs.size = h'.objs.size from (Heap.SameBut.update ..).1, hsz']
  have it1 : ZItems P1 P2 s.heap.objs.size (#[].push (Value.ref s.heap.objs.size)) 1 (h'.update S (Obj.mapSeq (·.push (Value.ref s.heap.objs.size)))) := by
    have g0 : ZItems P1 P2 s.heap.objs.size #[] 0 h' := ⟨rfl, fun j v e => by simp at e, fun j j' v e => by simp at e⟩
    exact (g0.push (Nat.le_refl _) hp px py fun j v e => by simp at e).mono fun c o hc q => oth c o (fun e => by rw [e] at hc; exact absurd lS (Nat.not_lt.mpr hc)) q
  refine wpAny_updateSeq (s := { s with heap := h', toks := tk }) hS' rfl (wpAny_pure ⟨plainId_quiet PySem.F.plain_extend_loop _, zip_loop D1 D2 D hn S s.heap.objs.size hS1 hS2 hSz hSI hSO hSi1 hSi2 res ⟨lz, lO, l1, l2, lS⟩ (n - 1) 1 _ (#[].push (.ref s.heap.objs.size)) _ s.heap.objs.size false (by omega) h1n (oth _ _ (Ne.symm hSz) hz') ⟨_, oth _ _ neS hp⟩ (Nat.le_refl _)
      (oth _ _ (Ne.symm hSI) (kp TI _ D.TIz D.TITO D.TIi1 D.TIi2 hTI)) ⟨x, y, oth _ _ (Ne.symm hSO) hTO'⟩ (D1.frame _ _ _ s1' fun b hb o e => oth b o (fun q => hS1 (q ▸ hb)) e) (D2.frame _ _ _ s2' fun b hb o e => oth b o (fun q => hS2 (q ▸ hb)) e) (by rw [szU]; exact Nat.le_succ _) (Heap.get?_update_self _ hS' rfl) it1 ?_⟩)
      (by show (#[] : Array Value).size ≤ _; exact Nat.zero_le _) (by show 1 ≤ sizeLine + 1; exact Nat.le_add_left _ _)
  exact fun h2 tk2 acc' c' kp2 hS2' it2 => hR h2 tk2 acc' c' (fun b o b1 b2 b3 b4 b5 q => kp2 b o b1 b2 b3 b4 b5 (oth b o b1 (kp b o b2 b3 b4 b5 q))) hS2' it2
end
theorem zip_no_len : typeLookup (.type "zip") "__len__" = pure none := by rw [typeLookup_type, builtinLookup_eq_fast]; kernel_rfl
theorem zip_no_hint : typeLookup (.type "zip") "__length_hint__" = pure none := by rw [typeLookup_type, builtinLookup_eq_fast]; kernel_rfl
section
variable {prog : Program} {w : World} {A : Around} {E : Value → Shared → Prop} {s : Shared} {z TI TO i1 i2 : Addr} {fp1 fp2 : List Addr} {n : Nat} {P1 P2 : Nat → Value → Prop} {S1 S2 : Nat → Heap → Prop}
theorem iter_zip {Q : Value → Shared → Prop} {f0 : Value} {f1 : Bool} (hz : ZipF s.heap z TI TO f0 f1) (h : Q (.ref z) s) : wpAny (model prog w) A (pyIter (.ref z)) Q E s := by
  have hT : s.TypeIs (.ref z) "zip" := ⟨_, hz, rfl⟩
  refine wpAny_pyIter_slot hT PySem.F.slot_zip_iter (wpAny_call_entry PySem.F.slot_zip_iter hT PySem.F.entry_zip_iter ?_ (PySem.F.args_zip_iter_1 _))
  show wpAny _ _ (ret (.ref z)) _ _ s
  exact wpAny_pure ⟨_, rfl, "zip", _, hT, PySem.F.slot_zip_next.lookup, h⟩
theorem call_list_zip {Q : Value → Shared → Prop} {ta tb : Value} (D1 : Draws prog w A.in1.in1.in1 i1 fp1 n P1 S1) (D2 : Draws prog w A.in1.in1.in1 i2 fp2 n P2 S2) (D : ZAp z TI TO i1 i2 fp1 fp2) (hn : n ≤ sizeLine) (h1n : 0 < n)
    (lf1 : ∀ b ∈ fp1, b < s.heap.objs.size) (lf2 : ∀ b ∈ fp2, b < s.heap.objs.size) (hz : ZipF s.heap z TI TO .none false) (hTI : IsPair s.heap TI (.ref i1) (.ref i2)) (hTO : IsPair s.heap TO ta tb) (s1 : S1 0 s.heap) (s2 : S2 0 s.heap)
    (k : ∀ h' tk acc' c', (∀ b o, b ≠ z → b ≠ TO → b ≠ i1 → b ≠ i2 → s.heap.get? b = some o → h'.get? b = some o) → h'.get? s.heap.objs.size = some { cls := .type "list", dict := none, data := .seq acc' c', slots := #[] } → ZItems P1 P2 (s.heap.objs.size + 1) acc' n h' → Q (.ref s.heap.objs.size) { s with heap := h', toks := tk }) :
    wpAny (model prog w) A (call (.type "list") [.ref z]) Q E s := by
  have lz := Heap.lt_size hz
  have lI := Heap.lt_size hTI
  have lO := Heap.lt_size hTO
  have l1 : i1 < s.heap.objs.size := by obtain ⟨o, e⟩ := D1.live _ _ s1; exact Heap.lt_size e
  have l2 : i2 < s.heap.objs.size := by obtain ⟨o, e⟩ := D2.live _ _ s2; exact Heap.lt_size e
  refine callType_codes (Q₁ := fun obj t => obj = .ref s.heap.objs.size ∧ t = { s with heap := s.heap.push { cls := .type "list", data := .seq #[] } }) PySem.F.called_list (PySem.F.typeCall_list_1 _) PySem.F.entry_list_init (code_list_new _ ⟨rfl, rfl⟩) fun obj t ht => ?_
  obtain ⟨rfl, rfl⟩ := ht
  have hS : (s.heap.push { cls := .type "list", data := .seq #[] }).get? s.heap.objs.size = some { cls := .type "list", data := .seq #[] } := Heap.get?_push_size _ rfl
  have up : ∀ b o, s.heap.get? b = some o → (s.heap.push { cls := .type "list", data := .seq #[] }).get? b = some o := fun b o e => Heap.get?_push_of_some _ e
  refine ⟨⟨_, hS, rfl⟩, PySem.F.args_list_init_2 _ _, ?_⟩
  have szP : (s.heap.push { cls := .type "list", data := .seq #[] }).objs.size = s.heap.objs.size + 1 := Heap.size_push ..
  have hSz : s.heap.objs.size ≠ z := Nat.ne_of_gt lz
  generalize hg : s.heap.push { cls := .type "list", data := .seq #[] } = g at *
  generalize hS0 : s.heap.objs.size = S at *
  show wpAny _ A.in1.in1 (do let old ← Builtin.List.listItems (.ref S); Builtin.List.listUpdate (.ref S) (fun _ => #[]); letGo old.toList.reverse; Builtin.List.listExtendWith (.ref S) (.ref z) .none) _ _ _
  refine wpAny_bind ?_
  unfold Builtin.List.listItems
  refine wpAny_bind (wpAny_seqItems (s := { s with heap := g }) hS rfl (wpAny_pure ?_))
  show wpAny _ A.in1.in1 (updateSeq S (fun _ => #[]) >>= fun _ => letGo (#[] : Array Value).toList.reverse >>= fun _ => Builtin.List.listExtendWith (.ref S) (.ref z) .none) _ _ _
  refine wpAny_bind (wpAny_updateSeq (s := { s with heap := g }) hS rfl (wpAny_bind (wpAny_letGo ?_)))
  have hS2 := Heap.get?_update_self (Obj.mapSeq (fun _ => (#[] : Array Value))) hS rfl
  have o2 : ∀ b o, b ≠ S → g.get? b = some o → (g.update S (Obj.mapSeq (fun _ => (#[] : Array Value)))).get? b = some o := fun b o hb e => (Heap.get?_update_other _ _ (Ne.symm hb)).trans e
  have sz2 : (g.update S (Obj.mapSeq (fun _ => (#[] : Array Value)))).objs.size = S + 1 := by rw [show (g.update S (Obj.mapSeq (fun _ => (#[] : Array Value)))).objs.size = g.objs.size from (Heap.SameBut.update ..).1, szP]
  generalize g.update S (Obj.mapSeq (fun _ => (#[] : Array Value))) = g2 at *
  have hz2 : ZipF g2 z TI TO .none false := o2 _ _ (Ne.symm hSz) (up _ _ hz)
  have hTy : Shared.TypeIs { s with heap := g2 } (.ref z) "zip" := ⟨_, hz2, rfl⟩
  unfold Builtin.List.listExtendWith
  refine wpAny_bind (wpAny_typeOf hTy ?_)
  have q1 : Builtin.List.listSameRef (.ref S) (.ref z) = false := by simp [Builtin.List.listSameRef, hSz]
  have q2 : (Value.type "zip" == Value.type "list") = false := by decide
  have q3 : (Value.type "zip" == Value.type "tuple") = false := by decide
  simp only [q1, q2, q3, Bool.or_false, Bool.false_eq_true, if_false]
  refine wpAny_bind (iter_zip (s := { s with heap := g2 }) hz2 (wpAny_bind (wpAny_holding ?_)))
  unfold Builtin.List.listLengthHint
  refine wpAny_bind (wpAny_specialOf hTy zip_no_len ?_)
  show wpAny _ A.in1.in1 (specialOf (Value.ref z) (Str.ofString "__length_hint__") >>= _) _ _ _
  refine wpAny_bind (wpAny_specialOf hTy zip_no_hint (wpAny_pure ?_))
  show wpAny _ A.in1.in1 (rule "list.extend.makes-room" >>= fun _ => Builtin.List.listTouch (.ref S) >>= fun _ => again (.builtin "list.extend.loop" ⟨[.ref S, .ref z, .none], []⟩)) _ _ _
  refine wpAny_bind (wpAny_rule (wpAny_bind ?_))
  show wpAny _ A.in1.in1 (updateSeq S (·.push .none) >>= fun _ => updateSeq S (·.pop)) _ _ _
  refine wpAny_bind (wpAny_updateSeq (s := { s with heap := g2 }) hS2 rfl ?_)
  have hS3 := Heap.get?_update_self (Obj.mapSeq (·.push Value.none)) hS2 rfl
  refine wpAny_updateSeq (hz := by seq_fits) hS3 rfl ?_
  have hS4 := Heap.get?_update_self (Obj.mapSeq (·.pop)) hS3 rfl
  have o4 : ∀ b o, b ≠ S → g2.get? b = some o → ((g2.update S (Obj.mapSeq (·.push Value.none))).update S (Obj.mapSeq (·.pop))).get? b = some o := fun b o hb e => (Heap.get?_update_other _ _ (Ne.symm hb)).trans ((Heap.get?_update_other _ _ (Ne.symm hb)).trans e)
  have sz4 : ((g2.update S (Obj.mapSeq (·.push Value.none))).update S (Obj.mapSeq (·.pop))).objs.size = S + 1 := by
    rw [show ((g2.update S (Obj.mapSeq (·.push Value.none))).update S (Obj.mapSeq (·.pop))).objs.size = (g2.update S (Obj.mapSeq (·.push Value.none))).objs.size from (Heap.SameBut.update ..).1, show (g2.update S (Obj.mapSeq (·.push Value.none))).objs.size = g2.objs.size from (Heap.SameBut.update ..).1, sz2]
  have all : ∀ b o, b ≠ S → s.heap.get? b = some o → ((g2.update S (Obj.mapSeq (·.push Value.none))).update S (Obj.mapSeq (·.pop))).get? b = some o := fun b o hb e => o4 b o hb (o2 b o hb (up b o e))
  refine wpAny_pure ⟨plainId_quiet PySem.F.plain_extend_loop _, zip_loop0 (A := A.in1) D1 D2 D hn h1n S (fun m => Nat.lt_irrefl _ (lf1 _ m)) (fun m => Nat.lt_irrefl _ (lf2 _ m)) hSz (Nat.ne_of_gt lI) (Nat.ne_of_gt lO) (Nat.ne_of_gt l1) (Nat.ne_of_gt l2) .none
    (all _ _ (Ne.symm hSz) hz) (all _ _ (Nat.ne_of_lt lI) hTI) (all _ _ (Nat.ne_of_lt lO) hTO) (D1.frame _ _ _ s1 fun b hb o e => all b o (Nat.ne_of_lt (lf1 b hb)) e) (D2.frame _ _ _ s2 fun b hb o e => all b o (Nat.ne_of_lt (lf2 b hb)) e) hS4 fun h' tk acc' c' kp e it => ?_⟩
  refine ⟨rfl, k h' tk acc' c' (fun b o b1 b2 b3 b4 q => ?_) e (by rw [← sz4]; exact it)⟩
  have hb : b ≠ S := fun e => by rw [e, ← hS0] at q; exact Nat.lt_irrefl _ (Heap.lt_size q)
  exact kp b o hb b1 b2 b3 b4 (all b o hb q)
end
/-! ### zip(tuple, list) -/
abbrev zA (h : Heap) (t : Addr) : Heap := h.push { cls := .type "tuple_iterator", data := .fields #[.ref t, .int 0 0] }
abbrev zB (h : Heap) (t l : Addr) : Heap := (zA h t).push { cls := .type "list_iterator", data := .fields #[.ref l, .int 0 0] }
abbrev zC (h : Heap) (t l : Addr) : Heap := (zB h t l).push { cls := .type "tuple", data := .seq #[.ref h.objs.size, .ref (zA h t).objs.size] }
abbrev zD (h : Heap) (t l : Addr) : Heap := (zC h t l).push { cls := .type "tuple", data := .seq #[.none, .none] }
abbrev zE (h : Heap) (t l : Addr) : Heap := (zD h t l).push { cls := .type "zip", data := .fields #[.none, .bool false, .bool false, .ref (zB h t l).objs.size, .ref (zC h t l).objs.size] }
theorem meets_zip_tl (t l : Addr) (xs ys : Array Value) :
    Meets (Builtin.«zip.__new__» ⟨[.type "zip", .ref t, .ref l], []⟩) (fun _ R s => IsTup s.heap t xs ∧ s.heap.IsList l ys ∧ R (.ok (.ret (.ref (zD s.heap t l).objs.size))) { s with heap := zE s.heap t l }) :=
  .of_wp fun prog w A R s h => by
    obtain ⟨hp, g, d, tk, os⟩ := s; obtain ⟨ht, hl, h⟩ := h
    have hsub := sub_zip
    have hT : IsTup (Shared.heap ⟨hp, g, d, tk, os⟩) t xs := ht
    have hL : Heap.IsList (Shared.heap ⟨hp.push { cls := .type "tuple_iterator", data := .fields #[.ref t, .int 0 0] }, g, d, tk, os⟩) l ys := Heap.IsList.push hl _
    wp_walk using iter_tup hT, wpAny_pyIter_list hL
    exact ⟨_, rfl, h⟩
section
variable {prog : Program} {w : World} {A : Around} {E : Value → Shared → Prop} {s : Shared}
theorem call_zip_tl {t l : Addr} {xs ys : Array Value} {Q : Value → Shared → Prop} (ht : IsTup s.heap t xs) (hl : s.heap.IsList l ys)
    (k : ∀ h', ZipF h' (s.heap.objs.size + 4) (s.heap.objs.size + 2) (s.heap.objs.size + 3) .none false → IsPair h' (s.heap.objs.size + 2) (.ref s.heap.objs.size) (.ref (s.heap.objs.size + 1)) → IsPair h' (s.heap.objs.size + 3) .none .none →
      IsTupIter h' s.heap.objs.size t 0 → h'.IsListIter (s.heap.objs.size + 1) l 0 → h'.objs.size = s.heap.objs.size + 5 → (∀ c o, s.heap.get? c = some o → h'.get? c = some o) → Q (.ref (s.heap.objs.size + 4)) { s with heap := h' }) :
    wpAny (model prog w) A (call (.type "zip") [.ref t, .ref l]) Q E s := by
  refine callType_new PySem.F.called_zip (by decide) (PySem.F.typeCall_zip_2 _ _) (PySem.F.newCall_zip_2 _ _) (fun obj => PySem.F.args_object_init_3 obj _ _) PySem.F.entry_zip_new (meets_zip_tl t l xs ys) ⟨ht, hl, ?_⟩
  have y1 : (zA s.heap t).objs.size = s.heap.objs.size + 1 := Heap.size_push ..
  have y2 : (zB s.heap t l).objs.size = s.heap.objs.size + 2 := by rw [Heap.size_push, y1]
  have y3 : (zC s.heap t l).objs.size = s.heap.objs.size + 3 := by rw [Heap.size_push, y2]
  have y4 : (zD s.heap t l).objs.size = s.heap.objs.size + 4 := by rw [Heap.size_push, y3]
  have y5 : (zE s.heap t l).objs.size = s.heap.objs.size + 5 := by rw [Heap.size_push, y4]
  have g5 : (zE s.heap t l).get? (zD s.heap t l).objs.size = some _ := Heap.get?_push_size _ rfl
  have g4 : (zE s.heap t l).get? (zC s.heap t l).objs.size = some _ := Heap.get?_push_of_some _ (Heap.get?_push_size _ rfl)
  have g3 : (zE s.heap t l).get? (zB s.heap t l).objs.size = some _ := Heap.get?_push_of_some _ (Heap.get?_push_of_some _ (Heap.get?_push_size _ rfl))
  have g2 : (zE s.heap t l).get? (zA s.heap t).objs.size = some _ := Heap.get?_push_of_some _ (Heap.get?_push_of_some _ (Heap.get?_push_of_some _ (Heap.get?_push_size _ rfl)))
  have g1 : (zE s.heap t l).get? s.heap.objs.size = some _ := Heap.get?_push_of_some _ (Heap.get?_push_of_some _ (Heap.get?_push_of_some _ (Heap.get?_push_of_some _ (Heap.get?_push_size _ rfl))))
  show _ ∧ _
  rw [y2, y3, y4] at g5
  rw [y1, y2] at g3
  rw [y3] at g4
  rw [y1] at g2
  rw [y4]
  exact ⟨⟨_, g5, rfl⟩, k _ g5 g3 g4 ⟨_, g1, rfl, rfl⟩ ⟨_, g2, rfl, rfl⟩ y5 fun c o x => Heap.get?_push_of_some _ (Heap.get?_push_of_some _ (Heap.get?_push_of_some _ (Heap.get?_push_of_some _ (Heap.get?_push_of_some _ x))))⟩
end
/-- many new tuples are laid and tracked at once -/
def updT (H : Hp) : List (Addr × List V) → Hp
  | [] => H
  | (T, vs) :: r => upd (updT H r) T (.tup vs)
theorem updT_at {H : Hp} : ∀ {ts : List (Addr × List V)} {T : Addr} {vs : List V}, (ts.map (·.1)).Nodup → (T, vs) ∈ ts → updT H ts T = some (.tup vs)
  | [], _, _, _, m => by simp at m
  | (U, us) :: r, T, vs, nd, m => by
    have nd' : U ∉ r.map (·.1) ∧ (r.map (·.1)).Nodup := List.nodup_cons.mp nd
    rcases List.mem_cons.mp m with e | m
    · cases e; exact upd_same
    · have : T ≠ U := fun e => nd'.1 (e ▸ List.mem_map.mpr ⟨_, m, rfl⟩)
      show upd (updT H r) U (.tup us) T = _
      rw [upd_ne this]; exact updT_at nd'.2 m
theorem updT_old {H : Hp} : ∀ {ts : List (Addr × List V)} {b : Addr}, b ∉ ts.map (·.1) → updT H ts b = H b
  | [], _, _ => rfl
  | (U, us) :: r, b, m => by
    have m' : b ≠ U ∧ b ∉ r.map (·.1) := by simpa using m
    show upd (updT H r) U (.tup us) b = _
    rw [upd_ne m'.1]; exact updT_old m'.2
theorem refs_of : ∀ l : List Value, (∀ v ∈ l, ∃ T, v = Value.ref T) → ∃ ts : List Addr, l = ts.map Value.ref
  | [], _ => ⟨[], rfl⟩
  | v :: r, h => by
    obtain ⟨T, rfl⟩ := h v (List.mem_cons_self ..)
    obtain ⟨ts, e⟩ := refs_of r fun v m => h v (List.mem_cons_of_mem _ m)
    exact ⟨T :: ts, by rw [e]; rfl⟩
theorem vals_refs : ∀ ts : List Addr, Vals (ts.map V.ref) (ts.map Value.ref)
  | [] => .nil
  | _ :: r => .cons rfl (vals_refs r)
theorem nodup_of_ix {α : Type} : ∀ {l : List α}, (∀ (i j : Nat) (x : α), l[i]? = some x → l[j]? = some x → i = j) → l.Nodup
  | [], _ => List.nodup_nil
  | a :: r, h => by
    refine List.nodup_cons.mpr ⟨fun m => ?_, nodup_of_ix fun i j x hi hj => by have := h (i + 1) (j + 1) x (by simpa using hi) (by simpa using hj); omega⟩
    obtain ⟨i, hi⟩ := List.mem_iff_getElem?.mp m
    have := h 0 (i + 1) a rfl (by simpa using hi)
    omega
/-- new tuples and a new list of them, tracked at once -/
theorem Inv.laidTs {X : Cx} {pins : List (Addr × Obj)} {σ : St} {H : Hp} {s : Shared} {h' : Heap} {t' : Nat} {ps : List (Addr × List V)} {l : Addr} (I : Inv X pins σ H s) (k : ∀ b u, s.heap.get? b = some u → h'.get? b = some u) (nd : (ps.map (·.1)).Nodup)
    (hp : ∀ p ∈ ps, s.heap.objs.size ≤ p.1 ∧ p.2.length ≤ sizeLine ∧ ∃ its, Vals p.2 its ∧ IsTupD h' p.1 its.toArray) (hl : s.heap.objs.size ≤ l) (hlp : l ∉ ps.map (·.1)) {ys : List V} (hy : ys.length ≤ sizeLine) {its : List Value} {c : Nat} (vy : Vals ys its)
    (el : h'.get? l = some { cls := .type "list", data := .seq its.toArray c }) : Inv X pins σ (upd (updT H ps) l (.lst ys)) { s with heap := h', toks := t' } := by
  have old : ∀ b, b < s.heap.objs.size → (upd (updT H ps) l (.lst ys)) b = H b := fun b hb => by
    rw [upd_ne (Nat.ne_of_lt (Nat.lt_of_lt_of_le hb hl)), updT_old fun m => ?_]
    obtain ⟨p, mp, e⟩ := List.mem_map.mp m
    exact absurd hb (Nat.not_lt.mpr (e ▸ (hp p mp).1))
  have oldH : ∀ b o, H b = some o → (upd (updT H ps) l (.lst ys)) b = some o := fun b o e => (old b (I.hok.lt e)).trans e
  refine I.un ⟨fun b o q _ _ _ => k b o q, fun b o q _ _ _ => ⟨o.slots, k b o q⟩, fun b o q n _ => (old b (Heap.lt_size q)).trans n, fun b o q _ => ⟨o, k b o q⟩, fun b xs q => oldH b _ q, fun b o u q => oldH b _ q, fun b ts q => ⟨#[], by rw [oldH b _ q]; simp⟩⟩ ?_
  intro b o e
  by_cases hb : b = l
  · subst hb
    rw [upd_same] at e
    cases e
    exact ⟨hy, its, c, vy, el⟩
  rw [upd_ne hb] at e
  by_cases hm : b ∈ ps.map (·.1)
  · obtain ⟨⟨T, vs⟩, mp, rfl⟩ := List.mem_map.mp hm
    rw [updT_at nd mp] at e
    cases e
    obtain ⟨_, z, it, r, p⟩ := hp _ mp
    exact ⟨z, it, r, p⟩
  · rw [updT_old hm] at e
    exact (I.hok b o e).stay (fun c v _ q => k c v q) (fun c q => oldH c _ q) fun c xs q => oldH c _ q
/-- list(zip(t, l)), a tuple and a list of one length, one or more -/
def tLZip (K : PySem.W.Frag) (t : TA) : TE := fun σ H Q => t σ H fun vs H1 => ∃ (a b : Addr) (xs ys : List V), vs = [.ref a, .ref b] ∧ SqT K H1 a xs ∧ SqL K H1 b ys ∧ xs.length = ys.length ∧ 0 < xs.length ∧
  ∀ (l : Addr) (ts : List Addr) (H2 : Hp), H1 l = none → ts.length = xs.length → (∀ T ∈ ts, H1 T = none) → H2 l = some (.lst (ts.map V.ref)) → (∀ (i : Nat) (T : Addr) (x y : V), ts[i]? = some T → xs[i]? = some x → ys[i]? = some y → H2 T = some (.tup [x, y])) → Same H1 H2 → Q (.ref l) H2
theorem boot_list9 : bootBuiltins "list" = some (.type "list") := by decide +kernel
theorem pe_lzip {X : Cx} {e1 e2 : Expr} {t : TA} {p p2 pos pos2 : Pos} (hc : X.calm = true) (hgL : Gl X "list") (hmL : X.mg "list" = none) (hgZ : Gl X "zip") (hmZ : X.mg "zip" = none) (ha : PA X [e1, e2] t)
    (hs : starEach [e1, e2] X.env = (false, eval e1 X.env) :: starEach [e2] X.env := by rfl) (hpl : (backTo pos2 (starEach [e2] X.env)).any (·.1) = false := by rfl)
    (hs0 : starEach [.Call (.Name "zip" p2) [e1, e2] [] pos2] X.env = [(false, eval (.Call (.Name "zip" p2) [e1, e2] [] pos2) X.env)] := by rfl) :
    PE X (.Call (.Name "list" p) [.Call (.Name "zip" p2) [e1, e2] [] pos2] [] pos) (tLZip X.K t) := by
  intro pins s σ H Q I h
  refine wpAny_Call_Name_kw (ld_blt I hgL hmL boot_list9 (PyProof.Rows.callWith_type1 ?_ hs0 rfl))
  rw [hs0]
  refine Calls.spliced_cons (wpAny_Call_Name_kw (ld_blt I hgZ hmZ boot_zip5 (PyProof.Rows.callWith_type1 (thn (ha pos2 pins s σ H _ I h) fun us s1 ⟨vs, H1, I1, r1, q1⟩ => ?_) hs hpl)))
  obtain ⟨a, b, xs, ys, ex, hx, hy, hlen, hpos, q⟩ := q1
  subst ex
  obtain ⟨u, u', rfl, ra, rb⟩ := vals2 r1
  cases ra
  cases rb
  obtain ⟨its, rv, pa, hz⟩ := I1.tuple hx
  obtain ⟨its2, rv2, pb, hz2⟩ := I1.list hy
  have la : a < s1.heap.objs.size := pa.lt
  have lb : b < s1.heap.objs.size := pb.lt
  have e1 := rv.length
  have e2 := rv2.length
  refine call_zip_tl pa pb.isList fun h' hz' hTI hTO it1 it2 hsz kp => Calls.spliced_nil ?_
  have hh := I1.ok.hd hc
  have nA : ∀ k : Nat, a ≠ s1.heap.objs.size + k := fun k => Nat.ne_of_lt (Nat.lt_of_lt_of_le la (Nat.le_add_right _ _))
  have nB : ∀ k : Nat, b ≠ s1.heap.objs.size + k := fun k => Nat.ne_of_lt (Nat.lt_of_lt_of_le lb (Nat.le_add_right _ _))
  have nn : ∀ j k : Nat, j ≠ k → s1.heap.objs.size + j ≠ s1.heap.objs.size + k := fun j k h e => h (Nat.add_left_cancel e)
  have n0 : ∀ k : Nat, 0 < k → s1.heap.objs.size ≠ s1.heap.objs.size + k := fun k hk => Nat.ne_of_lt (Nat.lt_add_of_pos_right hk)
  have mA : ∀ k : Nat, 0 < k → s1.heap.objs.size + k ∉ [s1.heap.objs.size, a] := fun k hk m => by
    rcases List.mem_cons.mp m with e | m
    · exact n0 k hk e.symm
    · rcases List.mem_cons.mp m with e | m
      · exact nA k e.symm
      · cases m
  have mB : ∀ k : Nat, k ≠ 1 → s1.heap.objs.size + k ∉ [s1.heap.objs.size + 1, b] := fun k hk m => by
    rcases List.mem_cons.mp m with e | m
    · exact nn k 1 hk e
    · rcases List.mem_cons.mp m with e | m
      · exact nB k e.symm
      · cases m
  have D : ZAp (s1.heap.objs.size + 4) (s1.heap.objs.size + 2) (s1.heap.objs.size + 3) s1.heap.objs.size (s1.heap.objs.size + 1) [s1.heap.objs.size, a] [s1.heap.objs.size + 1, b] :=
    ⟨nn 2 4 (by decide), nn 3 4 (by decide), n0 4 (by decide), nn 1 4 (by decide), nn 2 3 (by decide), (n0 2 (by decide)).symm, nn 2 1 (by decide), (n0 3 (by decide)).symm, nn 3 1 (by decide), n0 1 (by decide),
      mA 4 (by decide), mB 4 (by decide), mA 3 (by decide), mB 3 (by decide), mA 1 (by decide), mB 0 (by decide)⟩
  have hnn : its.toArray.size = xs.length := by simp; omega
  have hnn2 : its2.toArray.size = xs.length := by simp; omega
  have d1 := draws_tup (prog := X.prog) (w := X.w) (A := X.A.in1.in1.in1) hh s1.heap.objs.size a (nA 0) its.toArray
  have d2 := Draws.list (prog := X.prog) (w := X.w) (A := X.A.in1.in1.in1) hh (s1.heap.objs.size + 1) b (nB 1) its2.toArray
  rw [hnn] at d1
  rw [hnn2] at d2
  have I2 : Inv X pins σ H1 { s1 with heap := h' } := I1.kept (t' := s1.toks) kp
  refine call_list_zip d1 d2 D hz hpos ?_ ?_ hz' hTI hTO ⟨it1, pa.keeps kp⟩ ⟨it2, pb.isList.at fun o e => kp _ o e⟩ fun h2 tk acc c' kp2 el it => ?_
  · intro c m
    show c < h'.objs.size
    rw [hsz]
    rcases List.mem_cons.mp m with e | m
    · rw [e]; exact Nat.lt_add_of_pos_right (by decide)
    · rcases List.mem_cons.mp m with e | m
      · rw [e]; exact Nat.lt_of_lt_of_le la (Nat.le_add_right _ _)
      · cases m
  · intro c m
    show c < h'.objs.size
    rw [hsz]
    rcases List.mem_cons.mp m with e | m
    · rw [e]; exact Nat.add_lt_add_left (by decide) _
    · rcases List.mem_cons.mp m with e | m
      · rw [e]; exact Nat.lt_of_lt_of_le lb (Nat.le_add_right _ _)
      · cases m
  obtain ⟨it0, it1', it2'⟩ := it
  obtain ⟨ts, hts⟩ := refs_of acc.toList fun v m => by
    obtain ⟨j, hj⟩ := List.mem_iff_getElem?.mp m
    obtain ⟨T, _, _, e, _⟩ := it1' j v (by simpa using hj)
    exact ⟨T, e⟩
  have hlt : ts.length = xs.length := by
    have := congrArg List.length hts
    rw [List.length_map, Array.length_toList, it0] at this
    exact this.symm
  have at_ts : ∀ (j : Nat) (T : Addr), ts[j]? = some T → acc[j]? = some (Value.ref T) := fun j T e => by
    have : acc.toList[j]? = some (Value.ref T) := by rw [hts, List.getElem?_map, e]; rfl
    simpa using this
  have ndt : ts.Nodup := nodup_of_ix fun i j x hi hj => it2' i j _ (at_ts i x hi) (at_ts j x hj)
  have big : ∀ T ∈ ts, h'.objs.size + 1 ≤ T := fun T m => by
    obtain ⟨j, hj⟩ := List.mem_iff_getElem?.mp m
    obtain ⟨T', _, _, e, hB, _⟩ := it1' j _ (at_ts j T hj)
    injection e with e
    rw [e]; exact hB
  have fst : ((ts.zip ((xs.zip ys).map fun p => [p.1, p.2])).map (·.1)) = ts := List.map_fst_zip (by rw [List.length_map, List.length_zip]; omega)
  have kp3 : ∀ b u, s1.heap.get? b = some u → h2.get? b = some u := fun b u e => by
    have hb := Heap.lt_size e
    exact kp2 b u (Nat.ne_of_lt (Nat.lt_of_lt_of_le hb (Nat.le_add_right _ _))) (Nat.ne_of_lt (Nat.lt_of_lt_of_le hb (Nat.le_add_right _ _))) (Nat.ne_of_lt hb) (Nat.ne_of_lt (Nat.lt_of_lt_of_le hb (Nat.le_add_right _ _))) (kp b u e)
  have leN : s1.heap.objs.size ≤ h'.objs.size := by rw [hsz]; exact Nat.le_add_right _ _
  have pr : ∀ p ∈ ts.zip ((xs.zip ys).map fun p => [p.1, p.2]), s1.heap.objs.size ≤ p.1 ∧ p.2.length ≤ sizeLine ∧ ∃ its, Vals p.2 its ∧ IsTupD h2 p.1 its.toArray := fun p m => by
    obtain ⟨j, hj⟩ := List.mem_iff_getElem?.mp m
    rw [List.getElem?_zip_eq_some] at hj
    obtain ⟨h1, h3⟩ := hj
    rw [List.getElem?_map] at h3
    obtain ⟨⟨x, y⟩, h4, h5⟩ := Option.map_eq_some_iff.mp h3
    rw [List.getElem?_zip_eq_some] at h4
    obtain ⟨hx', hy'⟩ := h4
    obtain ⟨T, x', y', e, hB, hP, p1, p2⟩ := it1' j _ (at_ts j _ h1)
    injection e with e
    obtain ⟨u, hu, ru⟩ := rv.get hx'
    obtain ⟨u2, hu2, ru2⟩ := rv2.get hy'
    have ex : x' = u := by
      have q1 : its.toArray[j]? = some x' := p1
      have q2 : its.toArray[j]? = some u := by simpa using hu
      rw [q1] at q2; exact Option.some.inj q2
    have ey : y' = u2 := by
      have q1 : its2.toArray[j]? = some y' := p2
      have q2 : its2.toArray[j]? = some u2 := by simpa using hu2
      rw [q1] at q2; exact Option.some.inj q2
    subst ex ey
    rw [← h5]
    refine ⟨?_, (by show 2 ≤ sizeLine; decide), [x', y'], .cons ru (.cons ru2 .nil), ⟨_, by rw [e]; exact hP, rfl, rfl, _, rfl⟩⟩
    rw [e]; exact Nat.le_trans leN (Nat.le_of_succ_le hB)
  have nl : h'.objs.size ∉ ts := fun m => Nat.lt_irrefl _ (big _ m)
  have I3 := I1.laidTs (t' := tk) (l := h'.objs.size) (ys := ts.map V.ref) (its := ts.map Value.ref) (c := c') kp3 (by rw [fst]; exact ndt) pr leN (by rw [fst]; exact nl) (by rw [List.length_map, hlt]; exact hz) (vals_refs ts) (by
    have : acc = (ts.map Value.ref).toArray := by rw [← hts]
    rw [← this]; exact el)
  refine ⟨.ref h'.objs.size, _, I3, rfl, q h'.objs.size ts _ (I1.hok.fresh leN) hlt (fun T m => I1.hok.fresh (Nat.le_trans leN (Nat.le_of_succ_le (big T m)))) upd_same (fun i T x y hT hx' hy' => ?_) fun b o e => ?_⟩
  · have mT : T ∈ ts := List.mem_of_getElem? hT
    have ne : T ≠ h'.objs.size := fun e => nl (by rw [← e]; exact mT)
    rw [upd_ne ne]
    refine updT_at (by rw [fst]; exact ndt) (List.mem_of_getElem? (i := i) ?_)
    rw [List.getElem?_zip_eq_some]
    refine ⟨hT, ?_⟩
    rw [List.getElem?_map]
    have : (xs.zip ys)[i]? = some (x, y) := by rw [List.getElem?_zip_eq_some]; exact ⟨hx', hy'⟩
    rw [this]; rfl
  · have hb := I1.hok.lt e
    rw [upd_ne (Nat.ne_of_lt (Nat.lt_of_lt_of_le hb leN)), updT_old (by rw [fst]; exact fun m => Nat.lt_irrefl _ (Nat.lt_of_lt_of_le hb (Nat.le_trans leN (Nat.le_of_succ_le (big _ m)))))]
    exact e
end L2
namespace L2
open PySem PySem.Spec PyProof.Rows
/-! ### the same rules with the written part named (for a comprehension's block) -/
section
variable {X : Cx} {K : PySem.W.Frag}
theorem ix_tupK (h : X.K = K) : IxR X (rIxT K) := h ▸ ix_tup
theorem ix_listK (h : X.K = K) : IxR X (rIxL K) := h ▸ ix_list
theorem call_len_seqK (h : X.K = K) : CallR X (.builtin "len") (fun xs H Q => ∃ p ys, xs = [.ref p] ∧ (SqL K H p ys ∨ SqT K H p ys) ∧ Q (.int ys.length) H) := h ▸ call_len_seq
theorem call_isinstK (h : X.K = K) : CallR X (.builtin "isinstance") (fun xs H Q => ∃ (x : V) (n : String) (t : Value) (b : Bool), xs = [x, .ty n] ∧ TyOf K H x t ∧ PySem.W.kitOne K t (.type n) = some b ∧ Q (.bl b) H) := h ▸ call_isinst
theorem mt_indexTK (h : X.K = K) : MtR X "tuple.index" (rIndexT K) := h ▸ mt_indexT
theorem op_eqDK (h : X.K = K) (hu : X.A.units + 64 < cLine) : OpR X (compareOp .Eq) (rEqD K) := h ▸ op_eqD hu
theorem op_neDK (h : X.K = K) (hu : X.A.units + 64 < cLine) : OpR X (compareOp .NotEq) (rNeD K) := h ▸ op_neD hu
theorem pg_tupK {es : List Expr} {k : Nat} {pos : Pos} {t : TGs} {n : Nat} (h : X.K = K) (hc : X.calm = true) (hp : PGs X es t) (hn : (assignEach es X.env).length = n := by rfl) (hst : (assignEach es X.env).findIdx? (·.1) = none := by rfl) : PG X (.Tuple es k pos) (gTup K n t) := h ▸ pg_tup hc hp hn hst
theorem pe_bmK {o e : Expr} {es : List Expr} {to : TE} {t : TA} {name : Str} {apos cpos : Pos} {T id : String} {r : V → List V → Hp → VK → Prop} (h : X.K = K) (pa : PlainAttrs T) (slot : Slot T name id) (hty : typeOf (.builtin id) = pure (.type "method_descriptor")) (hm : MtR X id r) (ho : PE X o to) (ha : PA X (e :: es) t)
    (hbase : attributeBase o name X.env (eval o X.env) = eval o X.env := by rfl)
    (hfew : ((backTo cpos (starEach (e :: es) X.env)).all (fun x => !x.1) && (backToKw cpos (keywordEach [] X.env)).all (fun x => x.1.isSome) && decide ((e :: es).length + ([] : List Keyword).length + (if ([] : List Keyword).isEmpty then 0 else 1) < 30)) = true := by rfl)
    (hline : (apos.endLine == cpos.line) = true := by rfl) (hs : starEach (e :: es) X.env = (false, eval e X.env) :: starEach es X.env := by rfl) (hplain : (backTo cpos (starEach es X.env)).any (·.1) = false := by rfl) :
    PE X (.Call (.Attribute o name apos) (e :: es) [] cpos) (tBM K T r to t) := h ▸ pe_bm pa slot hty hm ho ha hbase hfew hline hs hplain
end
end L2
namespace L2
open PySem PySem.Spec PyProof.Rows
/-- isinstance(t, T), t any tuple that may be read -/
theorem call_isinstS {X : Cx} {K : PySem.W.Frag} (hK : X.K = K) : CallR X (.builtin "isinstance") (fun xs H Q => ∃ (a : Addr) (ys : List V) (n : String) (b : Bool), xs = [.ref a, .ty n] ∧ SqT K H a ys ∧ PySem.W.kitOne K (.type "tuple") (.type n) = some b ∧ Q (.bl b) H) := by
  subst hK
  intro pins s σ H xs us Q I r h
  obtain ⟨a, ys, n, b, rfl, hq, e, q⟩ := h
  obtain ⟨u, w', rfl, r1, r2⟩ := vals2 r
  cases r1
  cases (show w' = Value.type n from r2)
  obtain ⟨its, _, ⟨o, h1, h2, _⟩, _⟩ := I.tuple hq
  exact PySem.W.kia_one PySem.W.kitx_tuple I.kIn ⟨o, h1, h2⟩ e (fun z => nomatch z) fun tk => ⟨.bl b, H, I.tok _, rfl, q⟩
theorem rep_succ {α : Type} (n : Nat) (a : α) : List.replicate (n + 1) a = List.replicate n a ++ [a] := List.replicate_succ'
theorem rep_bl (n : Nat) : List.replicate n (V.bl true) = (List.replicate n true).map V.bl := by rw [List.map_replicate]
theorem rep_all (n : Nat) : (List.replicate n true).all id = true := by
  rw [List.all_eq_true]
  intro x m
  rw [List.eq_of_mem_replicate m]; rfl
end L2

end
section
set_option Elab.async false
set_option linter.all false
set_option maxRecDepth 100000
namespace L2
open PySem PySem.Spec PyProof.Rows
/-! ### zip(tuple, tuple) in a for -/
section
variable {prog : Program} {w : World} {A : Around} {E : Value → Shared → Prop} {s : Shared} {z TI TO i1 i2 : Addr} {fp1 fp2 : List Addr} {n1 n2 k1 k2 : Nat} {P1 P2 : Nat → Value → Prop} {S1 S2 : Nat → Heap → Prop} {a b : Value}
/-- the first one has ended, no tuple is out -/
theorem zip_end_first {Q : PySem.Fin → Shared → Prop} (D1 : Draws prog w A i1 fp1 n1 P1 S1) (D : ZAp z TI TO i1 i2 fp1 fp2) (hz : ZipF s.heap z TI TO .none false) (hTI : IsPair s.heap TI (.ref i1) (.ref i2)) (hs1 : S1 n1 s.heap)
    (k : ∀ h' e, (∀ c o, c ≠ z → c ≠ i1 → s.heap.get? c = some o → h'.get? c = some o) → (∃ o, h'.get? e = some o ∧ o.cls = .type "StopIteration") → E (.ref e) { s with heap := h' }) :
    wpAny (model prog w) A (Builtin.«zip.__next__» ⟨[.ref z], []⟩) Q E s := by
  show wpAny _ _ (field (.ref z) 2 >>= _) _ _ _
  apply wpAny_bind
  apply wpAny_field hz rfl (x := .bool false) rfl
  show wpAny _ _ (field (.ref z) 3 >>= _) _ _ _
  apply wpAny_bind
  apply wpAny_field hz rfl (x := .ref TI) rfl
  apply wpAny_bind
  apply wpAny_seqItems hTI rfl
  show wpAny _ _ (Builtin.SmallTypes.ownedTupleIsFree (.ref z) >>= _) _ _ _
  apply wpAny_bind
  unfold Builtin.SmallTypes.ownedTupleIsFree
  apply wpAny_bind
  apply wpAny_field hz rfl (x := .none) rfl
  apply wpAny_pure
  simp only [if_true]
  refine wpAny_bind (wpAny_rule (wpAny_bind (wpAny_field hz rfl (x := .ref TO) rfl (wpAny_bind (wpAny_setField_rec hz (by simp) fun h1 hz1 e1 => ?_)))))
  have hz1' : ZipF h1 z TI TO .ellipsis false := hz1
  apply wpAny_bind
  simp only [List.zipIdx_cons, List.zipIdx_nil, List.forIn_cons, List.forIn_nil]
  refine wpAny_bind (wpAny_bind (wpAny_onRaise ?_))
  show wpAny _ _ (Builtin.SmallTypes.nextOf (.ref i1) >>= _) _ _ _
  refine wpAny_bind (D1.done _ _ _ (D1.frame _ _ _ hs1 fun c hc o e => e1.extBut c o (fun q => D.z1 (q ▸ hc)) e) fun h2 e e2 he => ?_)
  obtain ⟨oe, hoe, hce⟩ := he
  have hz2 : ZipF h2 z TI TO .ellipsis false := e2 _ _ D.i1z.symm hz1'
  have hez : e ≠ z := fun x => by subst x; rw [hz2] at hoe; cases hoe; simp at hce
  exact wpAny_setField_rec hz2 (by simp) fun h3 _ e3 => k h3 e (fun c o c1 c3 x => e3.extBut _ _ c1 (e2 _ _ c3 (e1.extBut _ _ c1 x))) ⟨oe, e3.extBut _ _ hez hoe, hce⟩
abbrev yB (h : Heap) (t l : Addr) : Heap := (zA h t).push { cls := .type "tuple_iterator", data := .fields #[.ref l, .int 0 0] }
abbrev yC (h : Heap) (t l : Addr) : Heap := (yB h t l).push { cls := .type "tuple", data := .seq #[.ref h.objs.size, .ref (zA h t).objs.size] }
abbrev yD (h : Heap) (t l : Addr) : Heap := (yC h t l).push { cls := .type "tuple", data := .seq #[.none, .none] }
abbrev yE (h : Heap) (t l : Addr) : Heap := (yD h t l).push { cls := .type "zip", data := .fields #[.none, .bool false, .bool false, .ref (yB h t l).objs.size, .ref (yC h t l).objs.size] }
theorem meets_zip_tt (t l : Addr) (xs ys : Array Value) :
    Meets (Builtin.«zip.__new__» ⟨[.type "zip", .ref t, .ref l], []⟩) (fun _ R s => IsTup s.heap t xs ∧ IsTup s.heap l ys ∧ R (.ok (.ret (.ref (yD s.heap t l).objs.size))) { s with heap := yE s.heap t l }) :=
  .of_wp fun prog w A R s h => by
    obtain ⟨hp, g, d, tk, os⟩ := s; obtain ⟨ht, hl, h⟩ := h
    have hsub := sub_zip
    have hT : IsTup (Shared.heap ⟨hp, g, d, tk, os⟩) t xs := ht
    have hL : IsTup (Shared.heap ⟨hp.push { cls := .type "tuple_iterator", data := .fields #[.ref t, .int 0 0] }, g, d, tk, os⟩) l ys := let ⟨o, e, r⟩ := hl; ⟨o, Heap.get?_push_of_some _ e, r⟩
    wp_walk using iter_tup hT, iter_tup hL
    exact ⟨_, rfl, h⟩
theorem call_zip_tt {t l : Addr} {xs ys : Array Value} {Q : Value → Shared → Prop} (ht : IsTup s.heap t xs) (hl : IsTup s.heap l ys)
    (k : ∀ h', ZipF h' (s.heap.objs.size + 4) (s.heap.objs.size + 2) (s.heap.objs.size + 3) .none false → IsPair h' (s.heap.objs.size + 2) (.ref s.heap.objs.size) (.ref (s.heap.objs.size + 1)) → IsPair h' (s.heap.objs.size + 3) .none .none →
      IsTupIter h' s.heap.objs.size t 0 → IsTupIter h' (s.heap.objs.size + 1) l 0 → h'.objs.size = s.heap.objs.size + 5 → (∀ c o, s.heap.get? c = some o → h'.get? c = some o) → Q (.ref (s.heap.objs.size + 4)) { s with heap := h' }) :
    wpAny (model prog w) A (call (.type "zip") [.ref t, .ref l]) Q E s := by
  refine callType_new PySem.F.called_zip (by decide) (PySem.F.typeCall_zip_2 _ _) (PySem.F.newCall_zip_2 _ _) (fun obj => PySem.F.args_object_init_3 obj _ _) PySem.F.entry_zip_new (meets_zip_tt t l xs ys) ⟨ht, hl, ?_⟩
  have y1 : (zA s.heap t).objs.size = s.heap.objs.size + 1 := Heap.size_push ..
  have y2 : (yB s.heap t l).objs.size = s.heap.objs.size + 2 := by rw [Heap.size_push, y1]
  have y3 : (yC s.heap t l).objs.size = s.heap.objs.size + 3 := by rw [Heap.size_push, y2]
  have y4 : (yD s.heap t l).objs.size = s.heap.objs.size + 4 := by rw [Heap.size_push, y3]
  have y5 : (yE s.heap t l).objs.size = s.heap.objs.size + 5 := by rw [Heap.size_push, y4]
  have g5 : (yE s.heap t l).get? (yD s.heap t l).objs.size = some _ := Heap.get?_push_size _ rfl
  have g4 : (yE s.heap t l).get? (yC s.heap t l).objs.size = some _ := Heap.get?_push_of_some _ (Heap.get?_push_size _ rfl)
  have g3 : (yE s.heap t l).get? (yB s.heap t l).objs.size = some _ := Heap.get?_push_of_some _ (Heap.get?_push_of_some _ (Heap.get?_push_size _ rfl))
  have g2 : (yE s.heap t l).get? (zA s.heap t).objs.size = some _ := Heap.get?_push_of_some _ (Heap.get?_push_of_some _ (Heap.get?_push_of_some _ (Heap.get?_push_size _ rfl)))
  have g1 : (yE s.heap t l).get? s.heap.objs.size = some _ := Heap.get?_push_of_some _ (Heap.get?_push_of_some _ (Heap.get?_push_of_some _ (Heap.get?_push_of_some _ (Heap.get?_push_size _ rfl))))
  show _ ∧ _
  rw [y2, y3, y4] at g5
  rw [y1, y2] at g3
  rw [y3] at g4
  rw [y1] at g2
  rw [y4]
  exact ⟨⟨_, g5, rfl⟩, k _ g5 g3 g4 ⟨_, g1, rfl, rfl⟩ ⟨_, g2, rfl, rfl⟩ y5 fun c o x => Heap.get?_push_of_some _ (Heap.get?_push_of_some _ (Heap.get?_push_of_some _ (Heap.get?_push_of_some _ (Heap.get?_push_of_some _ x))))⟩
end
def ItzT (K : PySem.W.Frag) (a b : Addr) : It :=
  ⟨fun i H => ∃ (xs ys : List V) (x y : V), SqT K H a xs ∧ SqT K H b ys ∧ xs[i]? = some x ∧ ys[i]? = some y,
    fun i H v H' => ∃ T x y, v = .ref T ∧ H T = none ∧ H' = upd H T (.tup [x, y]) ∧ (∀ xs, SqT K H a xs → xs[i]? = some x) ∧ ∀ ys, SqT K H b ys → ys[i]? = some y,
    fun i H => ∃ xs : List V, SqT K H a xs ∧ xs.length = i⟩
theorem turn_zipT {P : Program} {w : World} {K : PySem.W.Frag} {elts : List Expr} {kk : Nat} {tpos : Pos} {a b z TI TO i1 i2 : Addr} (D : ZAp z TI TO i1 i2 [i1, a] [i2, b]) (ha : a ≠ i1) (hb : b ≠ i2) :
    Turn P w K (.Tuple elts kk tpos) (ItzT K a b) [z, TI, TO, i1, i2] z (fun i h => ZipF h z TI TO .none false ∧ IsPair h TI (.ref i1) (.ref i2) ∧ (∃ x y, IsPair h TO x y) ∧ IsTupIter h i1 a i ∧ IsTupIter h i2 b i) where
  mem := by simp
  obj := fun i h st c hc => by
    obtain ⟨hz, hTI, ⟨x, y, hTO⟩, ⟨o1, e1, _, d1⟩, ⟨o2, e2, _, d2⟩⟩ := st
    have e' : c = z ∨ c = TI ∨ c = TO ∨ c = i1 ∨ c = i2 := by simpa using hc
    rcases e' with q | q | q | q | q
    · rw [q]; exact ⟨_, hz, fun v q => nomatch q⟩
    · rw [q]; exact ⟨_, hTI, fun v q => nomatch q⟩
    · rw [q]; exact ⟨_, hTO, fun v q => nomatch q⟩
    · rw [q]; exact ⟨o1, e1, fun v q => by rw [d1] at q; cases q⟩
    · rw [q]; exact ⟨o2, e2, fun v q => by rw [d2] at q; cases q⟩
  keep := fun i h h' st k => by
    obtain ⟨hz, hTI, ⟨x, y, hTO⟩, ⟨o1, e1, r1⟩, ⟨o2, e2, r2⟩⟩ := st
    exact ⟨k z (by simp) _ hz, k TI (by simp) _ hTI, ⟨x, y, k TO (by simp) _ hTO⟩, ⟨o1, k i1 (by simp) o1 e1, r1⟩, ⟨o2, k i2 (by simp) o2 e2, r2⟩⟩
  item := by
    intro X hP hw hK hc i pins s σ H E I hf st hg
    subst hP hw hK
    obtain ⟨hz, hTI, ⟨x0, y0, hTO⟩, h1, h2⟩ := st
    obtain ⟨xs, ys, x, y, hqx, hqy, hx, hy⟩ := hg
    obtain ⟨its, rv, p, _⟩ := I.tuple hqx
    obtain ⟨its2, rv2, p2, _⟩ := I.tuple hqy
    obtain ⟨u, hu, ru⟩ := rv.get hx
    obtain ⟨u2, hu2, ru2⟩ := rv2.get hy
    have hzl : z < s.heap.objs.size := Heap.lt_size hz
    have hil : i < its.toArray.size := by simpa using (List.getElem?_eq_some_iff.mp hu).1
    have hil2 : i < its2.toArray.size := by simpa using (List.getElem?_eq_some_iff.mp hu2).1
    refine next_zip hz (wpAny_mono (zip_item_first (Q := fun v s' => ∃ u, some v = some u ∧ _) (draws_tup (A := X.A.in1) (I.ok.hd hc) i1 a ha its.toArray) (draws_tup (A := X.A.in1) (I.ok.hd hc) i2 b hb its2.toArray) D hz hTI hTO ⟨h1, p⟩ hil ⟨h2, p2⟩ hil2 fun x' y' h' tk px py z' TO' st1 st2 hT hsz hk => ⟨_, rfl, ?_⟩) (fun _ _ q => q) fun _ _ q => False.elim q)
    have ex : x' = u := by
      have : its.toArray[i]? = some u := by simpa using hu
      rw [this] at px; exact (Option.some.inj px).symm
    have ey : y' = u2 := by
      have : its2.toArray[i]? = some u2 := by simpa using hu2
      rw [this] at py; exact (Option.some.inj py).symm
    subst ex
    subst ey
    refine wpAny_letOwnedTupleGo_zip (s := { s with heap := h', toks := tk }) z' fun h'' z'' sb => ?_
    have hT2 : h''.get? s.heap.objs.size = some { cls := .type "tuple", data := .seq #[x', y'] } := (sb.2 _ (Nat.ne_of_gt hzl)).trans hT
    have new : ObjOk X.prog X.w (upd H s.heap.objs.size (.tup [x, y])) h'' s.heap.objs.size (.tup [x, y]) :=
      ⟨by show 2 ≤ sizeLine; decide, [x', y'], .cons ru (.cons ru2 .nil), ⟨_, hT2, rfl, rfl, _, rfl⟩⟩
    have I1 : Inv X pins σ (upd H s.heap.objs.size (.tup [x, y])) { s with heap := h'', toks := tk } :=
      I.turnedNew (t' := tk) (ch := [z, TI, TO, i1, i2]) (fun c o hb q => (sb.2 c (fun q' => hb (by simp [q']))).trans (hk c o (fun q' => hb (by simp [q'])) (fun q' => hb (by simp [q'])) (fun q' => hb (by simp [q'])) (fun q' => hb (by simp [q'])) q)) hf (Nat.le_refl _) new
    refine ⟨.ref s.heap.objs.size, _, I1, rfl, ⟨_, x, y, rfl, I.hok.fresh (Nat.le_refl _), rfl, fun l hl => by rw [I.tuple_inj hl hqx]; exact hx, fun l hl => by rw [I.tuple_inj hl hqy]; exact hy⟩, ⟨z'', ?_, ⟨x', y', ?_⟩, ?_, ?_⟩, fun c hcm => ?_⟩
    · exact (sb.2 _ D.TIz).trans (hk _ _ D.TIz D.TITO D.TIi1 D.TIi2 hTI)
    · exact (sb.2 _ D.TOz).trans TO'
    · obtain ⟨⟨o, ho, r⟩, _⟩ := st1
      exact ⟨o, (sb.2 _ D.i1z).trans ho, r⟩
    · obtain ⟨⟨o, ho, r⟩, _⟩ := st2
      exact ⟨o, (sb.2 _ D.i2z).trans ho, r⟩
    · have hlt : c < s.heap.objs.size := by
        have e' : c = z ∨ c = TI ∨ c = TO ∨ c = i1 ∨ c = i2 := by simpa using hcm
        rcases e' with q | q | q | q | q
        · rw [q]; exact hzl
        · rw [q]; exact Heap.lt_size hTI
        · rw [q]; exact Heap.lt_size hTO
        · rw [q]; obtain ⟨_, e1, _⟩ := h1; exact Heap.lt_size e1
        · rw [q]; obtain ⟨_, e2, _⟩ := h2; exact Heap.lt_size e2
      rw [upd_ne (Nat.ne_of_lt hlt)]
      exact (hf c hcm).1
  done := by
    intro X hP hw hK hc i pins s σ H E I hf st hg
    subst hP hw hK
    obtain ⟨hz, hTI, ⟨x0, y0, hTO⟩, h1, h2⟩ := st
    obtain ⟨xs, hqx, hend⟩ := hg
    obtain ⟨its, rv, p, _⟩ := I.tuple hqx
    have l1 := rv.length
    have hn : its.toArray.size = i := by simp; omega
    refine next_zip hz (zip_end_first (n1 := its.toArray.size) (draws_tup (A := X.A.in1) (I.ok.hd hc) i1 a ha its.toArray) D hz hTI ⟨by rw [hn]; exact h1, p⟩ fun h' e hk ⟨o, ho, hcl⟩ => ⟨e, o, rfl, ho, hcl, rfl, ?_⟩)
    exact I.turnedL (t' := s.toks) (ch := [z, TI, TO, i1, i2]) (fun c o hb q => hk c o (fun q' => hb (by simp [q'])) (fun q' => hb (by simp [q'])) q) hf
  self := fun A i s Q E st h => iter_zip st.1 h
def iZipT (K : PySem.W.Frag) (ta : TA) : TI := fun σ H R => ta σ H fun vs H1 => ∃ a b xs ys, vs = [.ref a, .ref b] ∧ SqT K H1 a xs ∧ SqT K H1 b ys ∧ R (ItzT K a b) H1
theorem pi_zipT {X : Cx} {e e2 : Expr} {ta : TA} {p pos tpos : Pos} {elts : List Expr} {kk : Nat} (hg : Gl X "zip") (hm : X.mg "zip" = none) (ha : PA X [e, e2] ta)
    (hs : starEach [e, e2] X.env = (false, eval e X.env) :: starEach [e2] X.env := by rfl) (hpl : (backTo pos (starEach [e2] X.env)).any (·.1) = false := by rfl) :
    PI X (.Tuple elts kk tpos) (.Call (.Name "zip" p) [e, e2] [] pos) (iZipT X.K ta) := by
  intro pins s σ H R I h
  refine Call_ (ld_blt I hg hm boot_zip5 (PyProof.Rows.callWith_type1 (thn (ha pos pins s σ H _ I h) fun us s1 ⟨vs, H1, I1, r1, q1⟩ => ?_) hs hpl))
  obtain ⟨a, b, xs, ys, ex, hqx, hqy, q⟩ := q1
  subst ex
  obtain ⟨u, u', rfl, r, r'⟩ := vals2 r1
  cases r
  cases r'
  obtain ⟨its, rv, p1, _⟩ := I1.tuple hqx
  obtain ⟨its2, rv2, p2, _⟩ := I1.tuple hqy
  have la : a < s1.heap.objs.size := p1.lt
  have lb : b < s1.heap.objs.size := p2.lt
  refine call_zip_tt p1 p2 fun h' hz hTI hTO h1 h2 hsz hk => iter_zip hz ?_
  have I2 : Inv X pins σ H1 { s1 with heap := h' } := I1.kept (t' := s1.toks) hk
  have nA : ∀ k : Nat, a ≠ s1.heap.objs.size + k := fun k => Nat.ne_of_lt (Nat.lt_of_lt_of_le la (Nat.le_add_right _ _))
  have nB : ∀ k : Nat, b ≠ s1.heap.objs.size + k := fun k => Nat.ne_of_lt (Nat.lt_of_lt_of_le lb (Nat.le_add_right _ _))
  have nn : ∀ j k : Nat, j ≠ k → s1.heap.objs.size + j ≠ s1.heap.objs.size + k := fun j k h e => h (Nat.add_left_cancel e)
  have n0 : ∀ k : Nat, 0 < k → s1.heap.objs.size ≠ s1.heap.objs.size + k := fun k hk => Nat.ne_of_lt (Nat.lt_add_of_pos_right hk)
  have mA : ∀ k : Nat, 0 < k → s1.heap.objs.size + k ∉ [s1.heap.objs.size, a] := fun k hk m => by
    rcases List.mem_cons.mp m with e | m
    · exact n0 k hk e.symm
    · rcases List.mem_cons.mp m with e | m
      · exact nA k e.symm
      · cases m
  have mB : ∀ k : Nat, k ≠ 1 → s1.heap.objs.size + k ∉ [s1.heap.objs.size + 1, b] := fun k hk m => by
    rcases List.mem_cons.mp m with e | m
    · exact nn k 1 hk e
    · rcases List.mem_cons.mp m with e | m
      · exact nB k e.symm
      · cases m
  have D : ZAp (s1.heap.objs.size + 4) (s1.heap.objs.size + 2) (s1.heap.objs.size + 3) s1.heap.objs.size (s1.heap.objs.size + 1) [s1.heap.objs.size, a] [s1.heap.objs.size + 1, b] :=
    ⟨nn 2 4 (by decide), nn 3 4 (by decide), n0 4 (by decide), nn 1 4 (by decide), nn 2 3 (by decide), (n0 2 (by decide)).symm, nn 2 1 (by decide), (n0 3 (by decide)).symm, nn 3 1 (by decide), n0 1 (by decide), mA 4 (by decide), mB 4 (by decide), mA 3 (by decide), mB 3 (by decide), mA 1 (by decide), mB 0 (by decide)⟩
  refine ⟨s1.heap.objs.size + 4, [s1.heap.objs.size + 4, s1.heap.objs.size + 2, s1.heap.objs.size + 3, s1.heap.objs.size, s1.heap.objs.size + 1], _, _, H1, rfl, I2, turn_zipT D (nA 0) (nB 1), ⟨hz, hTI, ⟨_, _, hTO⟩, h1, h2⟩, fun c hcm => ?_, q⟩
  have e' : c = s1.heap.objs.size + 4 ∨ c = s1.heap.objs.size + 2 ∨ c = s1.heap.objs.size + 3 ∨ c = s1.heap.objs.size ∨ c = s1.heap.objs.size + 1 := by simpa using hcm
  have hle : s1.heap.objs.size ≤ c := by
    rcases e' with z | z | z | z | z
    · rw [z]; exact Nat.le_add_right _ _
    · rw [z]; exact Nat.le_add_right _ _
    · rw [z]; exact Nat.le_add_right _ _
    · rw [z]; exact Nat.le_refl _
    · rw [z]; exact Nat.le_add_right _ _
  exact I1.fpOk hle (I1.hok.fresh hle)
/-- for x, y in zip(t, u) -/
theorem for_zipT {K : PySem.W.Frag} {a b : Addr} {xs ys : List V} {g : TG} {tb : TS} {D : Ends} {σ : St} {H : Hp} (Pv : Nat → St → Hp → Prop) (he : xs.length = ys.length) (h0 : Pv 0 σ H) (hl : ∀ i σ H, i ≤ xs.length → Pv i σ H → SqT K H a xs ∧ SqT K H b ys)
    (hs : ∀ i x y T σ H, xs[i]? = some x → ys[i]? = some y → Pv i σ H → H T = none → g (.ref T) σ (upd H T (.tup [x, y])) fun σ2 H2 => tb { D with nx := Pv (i + 1), ct := Pv (i + 1), bk := D.nx } σ2 H2) (hd : ∀ σ H, Pv xs.length σ H → D.nx σ H) :
    ∃ W : Nat → Nat → St → Hp → Prop, (∃ m, W 0 m σ H) ∧ ∀ i m σ H, W i m σ H →
      ((ItzT K a b).stop i H ∧ D.nx σ H) ∨ ((ItzT K a b).go i H ∧ ∃ N : St → Hp → Prop, (∀ σ' H', N σ' H' → ∃ m', m' < m ∧ W (i + 1) m' σ' H') ∧ ∀ x H', (ItzT K a b).yld i H x H' → g x σ H' fun σ2 H2 => tb { D with nx := N, ct := N, bk := D.nx } σ2 H2) := by
  refine ⟨fun i m σ H => m = xs.length - i ∧ i ≤ xs.length ∧ Pv i σ H, ⟨xs.length, by simp, Nat.zero_le _, h0⟩, ?_⟩
  rintro i m σ H ⟨rfl, hi, p⟩
  obtain ⟨q1, q2⟩ := hl i σ H hi p
  by_cases hlt : i < xs.length
  · refine .inr ⟨⟨xs, ys, xs[i], ys[i], q1, q2, List.getElem?_eq_getElem hlt, List.getElem?_eq_getElem (he ▸ hlt)⟩, Pv (i + 1), fun σ' H' p' => ⟨xs.length - (i + 1), by omega, rfl, hlt, p'⟩, fun v H' ⟨T, x, y, e1, e2, e3, e4, e5⟩ => ?_⟩
    subst e1
    subst e3
    exact hs i x y T σ H (e4 xs q1) (e5 ys q2) p e2
  · have e : i = xs.length := by omega
    exact .inl ⟨⟨xs, q1, e.symm⟩, hd σ H (by rw [← e]; exact p)⟩
/-- for i, x in enumerate(l) -/
theorem for_enum {K : PySem.W.Frag} {a : Addr} {xs : List V} {g : TG} {tb : TS} {D : Ends} {σ : St} {H : Hp} (Pv : Nat → St → Hp → Prop) (h0 : Pv 0 σ H) (hl : ∀ i σ H, i ≤ xs.length → Pv i σ H → SqL K H a xs)
    (hs : ∀ i x T σ H, xs[i]? = some x → Pv i σ H → H T = none → g (.ref T) σ (upd H T (.tup [.int (i : Nat), x])) fun σ2 H2 => tb { D with nx := Pv (i + 1), ct := Pv (i + 1), bk := D.nx } σ2 H2) (hd : ∀ σ H, Pv xs.length σ H → D.nx σ H) :
    ∃ W : Nat → Nat → St → Hp → Prop, (∃ m, W 0 m σ H) ∧ ∀ i m σ H, W i m σ H →
      ((Ite K a).stop i H ∧ D.nx σ H) ∨ ((Ite K a).go i H ∧ ∃ N : St → Hp → Prop, (∀ σ' H', N σ' H' → ∃ m', m' < m ∧ W (i + 1) m' σ' H') ∧ ∀ x H', (Ite K a).yld i H x H' → g x σ H' fun σ2 H2 => tb { D with nx := N, ct := N, bk := D.nx } σ2 H2) := by
  refine ⟨fun i m σ H => m = xs.length - i ∧ i ≤ xs.length ∧ Pv i σ H, ⟨xs.length, by simp, Nat.zero_le _, h0⟩, ?_⟩
  rintro i m σ H ⟨rfl, hi, p⟩
  have q1 := hl i σ H hi p
  by_cases hlt : i < xs.length
  · refine .inr ⟨⟨xs, xs[i], q1, List.getElem?_eq_getElem hlt⟩, Pv (i + 1), fun σ' H' p' => ⟨xs.length - (i + 1), by omega, rfl, hlt, p'⟩, fun v H' ⟨T, x, e1, e2, e3, e4⟩ => ?_⟩
    subst e1
    subst e3
    exact hs i x T σ H (e4 xs q1) p e2
  · have e : i = xs.length := by omega
    subst e
    exact .inl ⟨⟨xs, q1, Nat.le_refl _⟩, hd σ H p⟩
end L2

end
section
set_option Elab.async false
set_option linter.all false
set_option maxRecDepth 100000
namespace L2
open PySem PySem.Spec PyProof.Rows
/-! ### (a, b, ..) = a list of that length -/
section
variable {prog : Program} {w : World} {A : Around} {E : Value → Shared → Prop} {s : Shared}
theorem draw_lst {it l : Addr} {items : Array Value} (hne : l ≠ it) : ∀ (n i : Nat) (s : Shared) (Q : List Value → Shared → Prop), s.heap.IsListIter it l i → s.heap.IsList l items → i + n ≤ items.size →
    (∀ h', h'.IsListIter it l (i + n) → Heap.SameBut it s.heap h' → Q ((items.toList.drop i).take n) { s with heap := h' }) → wpAny (model prog w) A (draw (.ref it) n) Q E s
  | 0, i, s, Q, hit, _, _, hQ => by
    show wpAny _ _ (pure []) Q E s
    exact wpAny_pure (by simpa using hQ s.heap hit (Heap.SameBut.refl ..))
  | n + 1, i, s, Q, hit, hl, hle, hQ => by
    have hlt : i < items.size := by omega
    show wpAny _ _ (pyNext (.ref it) >>= _) Q E s
    refine wpAny_bind (wpAny_pyNext_list_item hit hl (x := items[i]) (by simp [hlt]) fun h1 hit1 hs1 => ?_)
    refine wpAny_bind (wpAny_holding (draw_lst hne n (i + 1) _ _ hit1 (hl.extBut hs1.extBut hne) (by omega) fun h2 hit2 hs2 => wpAny_pure ?_))
    have hd : items.toList.drop i = items[i] :: items.toList.drop (i + 1) := by simp [List.drop_eq_getElem_cons, hlt]
    have e := hQ h2 (by rw [show i + (n + 1) = i + 1 + n by omega]; exact hit2) (hs1.trans hs2)
    rw [hd, List.take_succ_cons] at e
    exact e
theorem unpackI_lst {l : Addr} {items : Array Value} {Q : List Value → Shared → Prop} (hh : A.handled = none) (hl : s.heap.IsList l items)
    (hQ : ∀ h', Heap.ExtBut s.heap.objs.size s.heap h' → Q items.toList { s with heap := h' }) : wpAny (model prog w) A (unpackItems (.ref l) items.size none) Q E s := by
  have hlt : l ≠ s.heap.objs.size := by obtain ⟨o, ho, _⟩ := hl; exact Nat.ne_of_lt (Heap.lt_size ho)
  unfold unpackItems
  apply wpAny_bind
  unfold notIterableAtAll
  apply wpAny_bind
  apply wpAny_specialOf hl.typeIs slot_list_iter.lookup
  apply wpAny_pure
  simp only [Bool.false_eq_true, if_false]
  apply wpAny_bind
  refine wpAny_holding (wpAny_pyIter_list hl ?_)
  apply wpAny_bind
  refine wpAny_holding (draw_lst hlt items.size 0 _ _ ⟨_, Heap.get?_push_size _ rfl, rfl, rfl⟩ (hl.push _) (by omega) fun h1 hit1 hs1 => ?_)
  have hall : List.take items.size (List.drop 0 items.toList) = items.toList := by
    rw [List.drop_zero]; exact List.take_of_length_le (by simp)
  rw [hall, if_neg (by simp)]
  have hl1 : h1.IsList l items := (hl.push _).extBut hs1.extBut hlt
  rw [Nat.zero_add] at hit1
  apply wpAny_bind
  refine wpAny_holding (wpAny_pyNext_list_end hh hit1 hl1 (by simp) fun h2 he2 => ?_)
  simp only [Option.isSome_none, Bool.false_eq_true, if_false]
  exact wpAny_pure (hQ h2 fun b o hb e => he2 b o hb (hs1.extBut b o hb (Heap.get?_push_of_some _ e)))
end
def gLst (K : PySem.W.Frag) (n : Nat) (t : TGs) : TG := fun v σ H Q => ∃ a xs, v = .ref a ∧ SqL K H a xs ∧ xs.length = n ∧ t xs σ H Q
theorem pg_lst {X : Cx} {es : List Expr} {k : Nat} {pos : Pos} {t : TGs} {n : Nat} (hc : X.calm = true) (h : PGs X es t)
    (hn : (assignEach es X.env).length = n := by rfl) (hst : (assignEach es X.env).findIdx? (·.1) = none := by rfl) : PG X (.Tuple es k pos) (gLst X.K n t) := by
  intro pins s σ H v u Q I r hw
  obtain ⟨a, xs, e1, hq, hl, hw⟩ := hw
  subst e1
  cases r
  obtain ⟨its, rv, ht, hz⟩ := I.list hq
  rw [assign_Tuple]
  apply wpAny_bind
  apply wpAny_standAt
  unfold unpack
  have hsz : (assignEach es X.env).length = its.toArray.size := by simp [hn, ← hl, rv.length]
  rw [hsz, hst]
  apply wpAny_bind
  apply wpAny_holding
  refine unpackI_lst (I.ok.hd hc) ht.isList fun h' hx => ?_
  have I1 : Inv X pins σ H { s with heap := h' } := I.kept (t' := s.toks) fun b o e => hx b o (Nat.ne_of_lt (Heap.lt_size e)) e
  exact h pins _ σ H xs _ Q I1 (by simpa using rv) hw
theorem cut_first (vs : List V) (h : 0 < vs.length) : cutV vs (some 1) none = vs.drop 1 := by
  have e : HT.sIx vs.length 0 (some 1) = 1 := by
    show (if (1 : Int) < 0 then (1 + (vs.length : Int)).toNat else min (1 : Int).toNat vs.length) = 1
    rw [if_neg (by decide)]
    show min 1 vs.length = 1
    omega
  unfold cutV
  rw [e, HT.sIx_none, List.take_of_length_le (by rw [List.length_drop]; omega)]
end L2

end
section
set_option Elab.async false
set_option linter.all false
set_option maxRecDepth 100000
namespace L2
open PySem PySem.Spec PyProof.Rows

/-! ### the array of generators never becomes shorter -/
theorem gens_runs {M : Model} {Γ : PySem.Ctx} {p : Pos} {t : Sem PySem.Fin} {fs : List Frame} {s s' : Shared} {e : End} (h : Runs M Γ p t fs s e s') : s.gens.size ≤ s'.gens.size := by
  induction h <;> (try simp only [Shared.setGen, Array.size_setIfInBounds, Array.size_push] at *) <;> omega
theorem gens_wakes {M : Model} {Γ : PySem.Ctx} {p : Pos} {g : Nat} {r : Resume} {s s' : Shared} {res : GenResult} (h : Wakes M Γ p g r s res s') : s.gens.size ≤ s'.gens.size := by
  have one : ∀ {c : PySem.Ctx} {q : Pos} {t : Sem PySem.Fin} {fs : List Frame} {e : End} {u : Shared}, Runs M c q t fs (s.setGen g .running) e u → s.gens.size ≤ (u.setGen g e.genState).gens.size := fun x => by
    have := gens_runs x
    simpa only [Shared.setGen, Array.size_setIfInBounds] using this
  unfold Wakes at h
  split at h
  · exact h.elim
  · split at h
    · obtain ⟨_, _, x, _, _, rfl⟩ := h
      exact one x
    · rw [h.2]; exact Nat.le_refl _
    · rw [h.2]; simp [Shared.setGen]
  · obtain ⟨_, _, x, _, _, rfl⟩ := h
    exact one x
  · rw [h.2]; exact Nat.le_refl _
  · rw [h.2]; exact Nat.le_refl _
theorem gens_wp {α : Type} (M : Model) (Γ : PySem.Ctx) (z : Nat) (t : Sem α) : ∀ (Q : α → Pos → Shared → Prop) (E : Value → Pos → Shared → Prop) (p : Pos) (s : Shared), z ≤ s.gens.size → Sem.wp M Γ t Q E p s →
    Sem.wp M Γ t (fun a p' u => z ≤ u.gens.size ∧ Q a p' u) (fun e p' u => z ≤ u.gens.size ∧ E e p' u) p s := by
  induction t with
  | call c hd _ _ k ih =>
    intro Q E p s hz hw
    obtain ⟨r, u, hr, hw⟩ := hw
    exact ⟨r, u, hr, ih r Q E p u (Nat.le_trans hz (gens_runs hr)) hw⟩
  | resume g r _ k ih =>
    intro Q E p s hz hw
    obtain ⟨r, u, hr, hw⟩ := hw
    exact ⟨r, u, hr, ih r Q E p u (Nat.le_trans hz (gens_wakes hr)) hw⟩
  | newGen c k ih =>
    intro Q E p s hz hw
    exact ih _ Q E p _ (by simp only [Array.size_push]; omega) hw
  | load a _ k ih =>
    intro Q E p s hz hw
    obtain ⟨o, ho, hw⟩ := hw
    exact ⟨o, ho, ih o Q E p s hz hw⟩
  | genState g k ih =>
    intro Q E p s hz hw
    obtain ⟨o, ho, hw⟩ := hw
    exact ⟨o, ho, ih _ Q E p s hz hw⟩
  | update a _ f k ih =>
    intro Q E p s hz hw
    exact ⟨hw.1, ih () Q E p _ hz hw.2⟩
  | choose src m k ih =>
    intro Q E p s hz hw
    exact ⟨hw.1, ih _ Q E p _ hz hw.2⟩
  | pure a =>
    intro Q E p s hz hw
    exact ⟨hz, hw⟩
  | raise a =>
    intro Q E p s hz hw
    exact ⟨hz, hw⟩
  | _ =>
    intro Q E p s hz hw
    first
      | exact hw
      | (rename_i ih; exact ih _ Q E _ _ hz hw)
theorem with_gens {α : Type} {M : Model} {A : Around} {s : Shared} {t : Sem α} {Q : α → Shared → Prop} {E : Value → Shared → Prop} (h : wpAny M A t (fun a u => s.gens.size ≤ u.gens.size → Q a u) (fun e u => s.gens.size ≤ u.gens.size → E e u) s) : wpAny M A t Q E s := by
  have h2 : wpAny M A t (fun a u => s.gens.size ≤ u.gens.size ∧ (s.gens.size ≤ u.gens.size → Q a u)) (fun e u => s.gens.size ≤ u.gens.size ∧ (s.gens.size ≤ u.gens.size → E e u)) s :=
    fun Γ p hΓ => gens_wp M Γ s.gens.size t _ _ p s (Nat.le_refl _) (h Γ p hΓ)
  exact wpAny_mono h2 (fun _ _ x => x.2 x.1) (fun _ _ x => x.2 x.1)
end L2

end
section
set_option Elab.async false
set_option linter.all false
set_option maxRecDepth 100000
namespace L2
open PySem PySem.Spec PyProof.Rows

/-! ### the block of a generator expression -/
abbrev Cx.gblk (X : Cx) (s : Shared) (H : Hp) (scope : Scope) (cenv : Env) (fp : List Addr) (A' : Around) : Cx :=
  { X with A := A', s_0 := s, H_0 := H, env := cenv, outer := X.stack, stack := cenv :: X.stack, ex := fp, fn := fun x => scope.names.lookup x == some .cell, pn := [], xe := fun _ _ => False }
abbrev gCl (X : Cx) (scope : Scope) : List (Str × Addr) := cloFrom X.env.cells scope.names []
section
variable {X : Cx} {pins : List (Addr × Obj)} {σ : St} {H : Hp} {s : Shared}
theorem gblock_start {scope : Scope} {own : List (Str × Nat)} {fp : List Addr} {A' : Around} {code : Value} {h' : Heap} {tk : Nat} {gs : Array GenState} {m0 : Str → Option Value} (I : Inv X pins σ H s) (ok : BlkOk X.N X.env.scope scope own) (hN : X.N.Nodup)
    (hfp : ∀ b ∈ fp, FpOk X pins H b ∧ b < s.heap.objs.size) (hcell : ∀ y ∈ scope.names, y.2 ≠ .cell)
    (hfr : A'.frames = some (genEnv scope (gCl X scope) s.heap.objs.size code builtinsNs X.env :: X.stack)) (hh : A'.handled = none)
    (kp : ∀ b o, s.heap.get? b = some o → h'.get? b = some o) (hn0 : h'.Ns s.heap.objs.size m0) (hgs : AllBare gs) :
    Inv (X.gblk s H scope (genEnv scope (gCl X scope) s.heap.objs.size code builtinsNs X.env) fp A') [] (wipe σ (own.map (·.2))) H { s with heap := h', toks := tk, gens := gs } := by
  have hfree : ∀ y ∈ scope.names, y.2 = .free → ∃ c, X.env.cells.lookup y.1 = some c := fun y hy e => by
    rcases ok.free y hy e with k | k
    · exact I.ok.has _ (.inl k)
    · exact I.ok.has _ (.inr k)
  generalize hcenv : genEnv scope (gCl X scope) s.heap.objs.size code builtinsNs X.env = cenv at hfr ⊢
  have hL : cenv.locals = s.heap.objs.size := by rw [← hcenv]; rfl
  have hF : cenv.frame = some s.heap.objs.size := by rw [← hcenv]; rfl
  have hcl : cenv.cells = cloFrom X.env.cells scope.names [] := by rw [← hcenv]; rfl
  have hsc : cenv.scope = scope := by rw [← hcenv]; rfl
  have cm : ∀ {y c}, (y, c) ∈ cloFrom X.env.cells scope.names [] → X.env.cells.lookup y = some c ∧ c < s.heap.objs.size := fun {y c} hm => by
    rcases cloFrom_mem hm with hm | ⟨h1, rfl⟩
    · cases hm
    · obtain ⟨c, hc⟩ := hfree _ h1 rfl
      rw [hc]
      obtain ⟨w, z⟩ := I.cell _ _ hc
      exact ⟨rfl, z.lt⟩
  have mem : ∀ {y c}, cenv.cells.lookup y = some c → X.env.cells.lookup y = some c ∧ c < s.heap.objs.size := fun {y c} e => by
    rw [hcl] at e
    exact cm (PySem.mem_of_lookup e)
  have look : ∀ {y}, scope.names.lookup y = some .free → ∃ c, cenv.cells.lookup y = some c ∧ X.env.cells.lookup y = some c := fun {y} hl => by
    have hy : (y, NameKind.free) ∈ scope.names := PySem.mem_of_lookup hl
    obtain ⟨c', e'⟩ := mem_lookup (cloFrom_has (cells := X.env.cells) (acc := []) hy)
    rw [← hcl] at e'
    exact ⟨c', e', (mem e').1⟩
  have nocell : ∀ y, scope.names.lookup y ≠ some .cell := fun y e => hcell _ (PySem.mem_of_lookup e) rfl
  have okB : (X.gblk s H scope cenv fp A').Ok := by
    refine ⟨I.ok.mod, by show cenv.scope.kind = _; rw [hsc]; exact ok.kind, by show cenv.globals = _; rw [← hcenv]; exact I.ok.glob, by show cenv.builtins = _; rw [← hcenv]; rfl, by show s.heap.objs.size ≤ cenv.locals; rw [hL]; exact Nat.le_refl _,
      fun y z c e1 e2 => ?_, fun y hy => ?_, fun y c z e => ?_, fun _ => hh, hfr, .inr ⟨rfl, by show cenv.frame = some cenv.locals; rw [hF, hL]⟩, fun b hb => ⟨?_, fun y c e z => ?_⟩, I.bs, Nat.le_trans I.ok.bsz I.sz, fun b o e hb => ?_, fun b hb z => ?_, I.stack, I.stkFree⟩
    · exact I.ok.inj y z c (mem e1).1 (mem e2).1
    · show ∃ c, cenv.cells.lookup y = some c
      have hk : scope.names.lookup y = some .cell ∨ scope.names.lookup y = some .free := by
        rw [← hsc]; exact hy
      rcases hk with hk | hk
      · exact absurd hk (nocell y)
      · obtain ⟨c, h1, _⟩ := look hk
        exact ⟨c, h1⟩
    · have z : (scope.names.lookup y == some NameKind.cell) = true := z
      exact absurd (by simpa using z) (nocell y)
    · show b ≠ cenv.locals
      rw [hL]; exact Nat.ne_of_lt (hfp b hb).2
    · exact (hfp b hb).1.2.2.2.2.1 y c (mem e).1 z
    · rcases (hfp b hb).1.2.2.2.1 with z | z
      · exact I.ok.noex b o e z
      · exact absurd (Nat.lt_of_lt_of_le (Heap.lt_size e) (Nat.le_trans I.ok.bsz z)) (Nat.lt_irrefl _)
    · rcases List.mem_cons.mp (I.stkSub b z) with z | z
      · exact (hfp b hb).1.2.1 z
      · exact (hfp b hb).1.2.2.1 z
  refine ⟨okB, rfl, hgs, Un.kept kp, ⟨m0, ?_, fun i y av e1 e2 e3 => ?_⟩, fun y c e => ?_, ?_, fun y c e => ?_, fun p hp => ?_, I.hok.kept kp, by rw [wipe_length]; exact I.len⟩
  · show Heap.Ns _ cenv.locals _
    rw [hL]
    exact hn0
  · obtain ⟨e2, hne⟩ := wipe_some e2
    have e3 : Vis cenv.scope y := e3
    rw [hsc] at e3
    have no : ∀ k, scope.names.lookup y = some k → ¬ (k = .local ∨ k = .cell) := fun k e hh => by
      rcases ok.own _ (PySem.mem_of_lookup e) hh with e' | e'
      · obtain ⟨p, hp, hpy⟩ := List.mem_map.mp e'
        have e3 := ok.ix p hp
        have : p.1 = y := hpy
        rw [this] at e3
        exact hne (List.mem_map.mpr ⟨p, hp, nodup_ix hN e3 e1⟩)
      · exact e' (List.mem_of_getElem? e1)
    have hfr : scope.names.lookup y = some .free := by
      rcases e3 with e3 | e3 | e3
      · exact absurd (.inl rfl) (no _ e3)
      · exact absurd (.inr rfl) (no _ e3)
      · exact e3
    obtain ⟨m, hn, hl⟩ := I.loc
    have hvis : Vis X.env.scope y := (ok.free _ (PySem.mem_of_lookup hfr) rfl).elim (fun k => .inr (.inl k)) (fun k => .inr (.inr k))
    obtain ⟨w, r, q⟩ := hl i y av e1 e2 hvis
    refine ⟨w, r, .inr ⟨.inr (by show cenv.scope.names.lookup y = _; rw [hsc]; exact hfr), ?_⟩⟩
    obtain ⟨c, h1, h2⟩ := look hfr
    rcases q with ⟨k, _⟩ | ⟨_, c', e', z⟩
    · have k : X.env.scope.names.lookup y = some .local := k
      rcases ok.free _ (PySem.mem_of_lookup hfr) rfl with k' | k' <;> rw [show X.env.scope.names.lookup y = _ from k'] at k <;> cases k
    · rw [h2] at e'; cases e'
      exact ⟨c, h1, z.keeps kp⟩
  · obtain ⟨w, z⟩ := I.cell y c (mem e).1
    exact ⟨w, z.keeps kp⟩
  · show H cenv.locals = none
    rw [hL]; exact I.hok.fresh (Nat.le_refl _)
  · exact I.freeC y c (mem e).1
  · exact absurd (show p ∈ ([] : List (Addr × Obj)) ++ [] from hp) (by simp)
/-- the generators alone have changed -/
theorem Inv.gens (I : Inv X pins σ H s) {gs : Array GenState} (hg : AllBare gs) : Inv X pins σ H { s with gens := gs } :=
  ⟨I.ok, I.os, hg, I.base, I.loc, I.cell, I.free, I.freeC, I.pin, I.hok, I.len⟩
theorem AllBare.set {s : Shared} (h : AllBare s.gens) (g : Nat) {x : GenState} (hx : x.bare = true) : AllBare (s.setGen g x).gens := by
  intro y hy
  have hy : y ∈ s.gens.setIfInBounds g x := hy
  obtain ⟨i, hi, rfl⟩ := Array.mem_iff_getElem.mp hy
  have hi' : i < s.gens.size := by simpa using hi
  rw [Array.getElem_setIfInBounds hi']
  split
  · exact hx
  · exact h _ (Array.getElem_mem _)
theorem Inv.setGen (I : Inv X pins σ H s) (g : Nat) {x : GenState} (hx : x.bare = true) : Inv X pins σ H (s.setGen g x) := I.gens (AllBare.set I.bare g hx)
theorem setGen_at {s : Shared} {g : Nat} (h : g < s.gens.size) (x : GenState) : (s.setGen g x).gens[g]? = some x := by
  simp [Shared.setGen, h]
theorem setGen_sz {s : Shared} {g : Nat} (x : GenState) : (s.setGen g x).gens.size = s.gens.size := by
  simp [Shared.setGen]
end
end L2

end
section
set_option Elab.async false
set_option linter.all false
set_option maxRecDepth 100000
namespace L2
open PySem PySem.Spec PyProof.Rows

/-! ### all(elt for target in iter): the generator's turns -/
abbrev gCode (elt tg iter : Expr) (scope : Scope) (pos : Pos) (it : Addr) (cenv : Env) : Code := .compLoop (.GeneratorExp elt [⟨tg, iter, [], 0⟩] scope pos) 0 (.ref it) .none cenv
/-- the state between two turns -/
def GS (Y : Cx) (pins : List (Addr × Obj)) (σ : St) (fp : List Addr) (tn : Nat → Heap → Prop) (g : Nat) (W : Nat → Nat → Hp → Prop) (i m : Nat) (H : Hp) (s : Shared) : Prop :=
  Inv Y pins σ H s ∧ tn i s.heap ∧ (∀ b ∈ fp, H b = none) ∧ W i m H ∧ g < s.gens.size
theorem GS.setGen {Y : Cx} {pins : List (Addr × Obj)} {σ : St} {fp : List Addr} {tn : Nat → Heap → Prop} {g : Nat} {W : Nat → Nat → Hp → Prop} {i m : Nat} {H : Hp} {s : Shared} (x : GS Y pins σ fp tn g W i m H s) {y : GenState} (hy : y.bare = true) :
    GS Y pins σ fp tn g W i m H (s.setGen g y) := ⟨x.1.setGen g hy, x.2.1, x.2.2.1, x.2.2.2.1, by rw [setGen_sz]; exact x.2.2.2.2⟩
/-- the end of the walk -/
def gEnd (Y : Cx) (pins : List (Addr × Obj)) (σ : St) (Q : VK) : Nat → Shared → Shared → Prop := fun _ _ s => ∃ H, Inv Y pins σ H s ∧ Q (.bl true) H
def gYld (Y : Cx) (pins : List (Addr × Obj)) (σ : St) (fp : List Addr) (tn : Nat → Heap → Prop) (g : Nat) (W : Nat → Nat → Hp → Prop) (Q : VK) : Protocol := fun n _ v s kap =>
  ∃ b H, v = .bool b ∧ Inv Y pins σ H s ∧ g < s.gens.size ∧ (b = false → Q (.bl false) H) ∧ (b = true → ∃ i m, m < n ∧ GS Y pins σ fp tn g W i m H s ∧ ∀ s'', GS Y pins σ fp tn g W i m H s'' → kap (.send .none) s'')
abbrev gRes (Y : Cx) (pins : List (Addr × Obj)) (σ : St) (Q : VK) : GenEnd := fun n s₀ r s₁ => r = .ok .next ∧ gEnd Y pins σ Q n s₀ s₁
/-- what a turn wants -/
def gTurn (J : It) (gt : TG) (te : TE) (vs : List Nat) (σ : St) (W : Nat → Nat → Hp → Prop) (Q : VK) : Prop := ∀ i m H, W i m H →
  (J.stop i H ∧ Q (.bl true) H) ∨ (J.go i H ∧ ∃ Nx : Hp → Prop, (∀ H', Nx H' → ∃ m', m' < m ∧ W (i + 1) m' H') ∧ ∀ x H', J.yld i H x H' → gt x (wipe σ vs) H' fun σ2 H2 => wipe σ2 vs = wipe σ vs ∧ te σ2 H2 fun y H4 => ∃ b, y = .bl b ∧ (b = false → Q (.bl false) H4) ∧ (b = true → Nx H4))

section
variable {Y : Cx} {A2 : Around} {elt tg iter : Expr} {scope : Scope} {pos : Pos} {it a : Addr} {fp : List Addr} {tn : Nat → Heap → Prop} {J : It} {gt : TG} {te : TE} {own : List Nat} {σ : St} {W : Nat → Nat → Hp → Prop} {Q : VK} {g : Nat} {gobj : Obj}
theorem seg_all (hA : Y.A = A2.over (gCode elt tg iter scope pos it Y.env) []) (hc : Y.calm = true) (hpn : Y.pn = []) (hxe : Y.xe = fun _ _ => False) (hex : Y.ex = fp) (hco : Y.env.scope.isCoroutine = false) (hpa : (a : Addr) ∉ fp) (T : Turn Y.prog Y.w Y.K tg J fp it tn) (pg : PG Y tg gt) (pe : PE Y elt te) (ht : gTurn J gt te own σ W Q) :
    ∀ n m i H s s₀, m < n → GS Y [(a, gobj)] (wipe σ own) fp tn g W i m H s →
      Seg (model Y.prog Y.w) A2 (gRes Y [(a, gobj)] (wipe σ own) Q) (gYld Y [(a, gobj)] (wipe σ own) fp tn g W Q) n s₀ (gCode elt tg iter scope pos it Y.env) ((model Y.prog Y.w).den (gCode elt tg iter scope pos it Y.env)) [] s := by
  have stat : ∀ {σ' : St} {H' : Hp} {s' : Shared}, Inv Y [(a, gobj)] σ' H' s' → (∀ b ∈ fp, H' b = none) → ∀ b ∈ fp, FpOk Y [(a, gobj)] H' b := fun {σ' H' s'} I' hn b hb =>
    ⟨hn b hb, (I'.ok.exf b (by rw [hex]; exact hb)).1, I'.ok.exfs b (by rw [hex]; exact hb), .inl (by rw [hex]; exact hb), fun x c e => (I'.ok.exf b (by rw [hex]; exact hb)).2 x c e, fun p hp => by
      rw [hpn] at hp
      have e : p = (a, gobj) := by simpa using hp
      rw [e]
      intro z
      have z : a = b := z
      exact hpa (by rw [z]; exact hb)⟩
  intro n
  induction n with
  | zero => intro m i H s s₀ hm; exact absurd hm (Nat.not_lt_zero _)
  | succ n ih =>
    intro m i H s s₀ hm x
    obtain ⟨I, st, hf, w, hgz⟩ := x
    show Seg _ A2 _ _ _ s₀ _ ((compTurn (.GeneratorExp elt [⟨tg, iter, [], 0⟩] scope pos) 0 (.ref it) .none Y.env).onRaise (leaving Y.env)) [] s
    rw [compTurn_gen, Sem.onRaise_eq_wrap]
    refine seg_bind_wrap (wpAny_standAt ?_)
    rcases ht i m H w with ⟨stop, q⟩ | ⟨go, Nx, hNx, step⟩
    · refine seg_bind_wrap ?_
      rw [← hA]
      refine thnF (T.done Y rfl rfl rfl hc i [(a, gobj)] s _ H (fun _ _ => False) I (stat I hf) st stop) fun r s6 ⟨hr, I6⟩ => ?_
      subst hr
      exact seg_end (.ok .next) ⟨rfl, H, I6, q⟩
    · refine seg_bind_wrap ?_
      rw [← hA]
      refine with_gens (thnF (T.item Y rfl rfl rfl hc i [(a, gobj)] s _ H (fun _ _ => False) I (stat I hf) st go) fun r s6 ⟨u, hr, h6⟩ hz6 => ?_)
      subst hr
      refine seg_bind_wrap ?_
      rw [← hA]
      refine with_gens (thnF h6 fun _ s7 ⟨x, H7, I7, r7, y7, st7, n7⟩ hz7 => ?_)
      have I7' := I7.pinned (stat I7 n7) (T.obj _ _ st7)
      have pgx := pg _ s7 _ H7 x u _ I7' r7 (step x H7 y7)
      rw [hxe] at pgx
      refine seg_bind_wrap ?_
      rw [← hA]
      refine with_gens (thnF pgx fun _ s8 ⟨σ8, H8, I8, hw8, q8⟩ hz8 => ?_)
      refine seg_bind_wrap (wpAny_tests_nil ?_)
      simp only [if_true]
      have hy : ∀ v, yieldOut Y.env v = yieldValue v := fun v => by simp only [yieldOut, hco, Bool.false_eq_true, if_false]
      simp only [hy]
      have pex := pe _ s8 σ8 H8 _ I8 q8
      rw [hxe] at pex
      rw [Sem.bind_eq_wrap', Sem.bind_eq_wrap', Sem.wrap_wrap, Sem.wrap_wrap]
      refine seg_wrap ?_
      rw [← hA]
      refine with_gens (thnF pex fun y s9 ⟨yv, H9, I9, r9, b, hb, q9, q10⟩ hz9 => ?_)
      subst hb
      obtain rfl : y = Value.bool b := r9
      have pin' : ∀ b ∈ fp, ∀ o, s7.heap.get? b = some o → s9.heap.get? b = some o ∧ H9 b = none := fun b hb o e =>
        let z := I9.pin (b, o) (List.mem_append_right _ (List.mem_append_right _ (mem_pinsAt hb e)))
        ⟨z.1, z.2.1⟩
      have hl : (wipe σ own).length = σ8.length := by rw [← hw8, wipe_length]
      have I10 : Inv Y [(a, gobj)] (wipe σ own) H9 s9 := (I9.unpinned (pins := [(a, gobj)])).weak hl fun j v e => by
        rw [← hw8] at e
        exact (wipe_some e).1
      have gz : g < s9.gens.size := Nat.lt_of_lt_of_le hgz (Nat.le_trans hz6 (Nat.le_trans hz7 (Nat.le_trans hz8 hz9)))
      refine seg_at (seg_yield rfl rfl rfl ⟨b, H9, rfl, I10, gz, q9, fun hb => ?_⟩)
      obtain ⟨m', hm', w'⟩ := hNx _ (q10 hb)
      refine ⟨i + 1, m', Nat.lt_of_lt_of_le hm' (Nat.le_of_lt_succ hm), ⟨I10, T.keep _ _ _ st7 fun b hb o e => (pin' b hb o e).1, fun b hb => ?_, w', gz⟩, fun s'' x'' => ?_⟩
      · obtain ⟨o, e, _⟩ := T.obj _ _ st7 b hb
        exact (pin' b hb o e).2
      · exact seg_again rfl (ih m' (i + 1) H9 s'' s'' (Nat.lt_of_lt_of_le hm' (Nat.le_of_lt_succ hm)) x'')
theorem seg_allStart (hA : Y.A = A2.over (gCode elt tg iter scope pos it Y.env) []) (hc : Y.calm = true) (hpn : Y.pn = []) (hxe : Y.xe = fun _ _ => False) (hex : Y.ex = fp) (hco : Y.env.scope.isCoroutine = false) (hpa : (a : Addr) ∉ fp) (T : Turn Y.prog Y.w Y.K tg J fp it tn) (pg : PG Y tg gt) (pe : PE Y elt te) (ht : gTurn J gt te own σ W Q)
    {n m : Nat} {H : Hp} {s s₀ : Shared} (hm : m < n) (x : GS Y [(a, gobj)] (wipe σ own) fp tn g W 0 m H s) :
      Seg (model Y.prog Y.w) A2 (gRes Y [(a, gobj)] (wipe σ own) Q) (gYld Y [(a, gobj)] (wipe σ own) fp tn g W Q) n s₀ (.compStart (.GeneratorExp elt [⟨tg, iter, [], 0⟩] scope pos) 0 (.ref it) .none Y.env)
        ((model Y.prog Y.w).den (.compStart (.GeneratorExp elt [⟨tg, iter, [], 0⟩] scope pos) 0 (.ref it) .none Y.env)) [] s := by
  have lp := seg_all hA hc hpn hxe hex hco hpa T pg pe ht n m 0 H s s₀ hm x
  show Seg _ A2 _ _ _ s₀ _ ((compStart (.GeneratorExp elt [⟨tg, iter, [], 0⟩] scope pos) 0 (.ref it) .none Y.env).onRaise (leaving Y.env)) [] s
  unfold compStart
  rw [Sem.onRaise_eq_wrap]
  show Seg _ A2 _ _ _ s₀ _ ((ask >>= _).wrap _ _ _ _) [] s
  apply seg_bind_wrap
  apply wpAny_askSetting
  split
  · exact seg_again rfl lp
  · apply seg_bind_wrap
    apply wpAny_rule
    show Seg _ A2 _ _ _ s₀ _ ((standAt iter.pos >>= _).wrap _ _ _ _) [] s
    exact seg_bind_wrap (wpAny_standAt (seg_bind_wrap (T.self _ 0 s _ _ x.2.1 (seg_again rfl lp))))
/-- the loop of all() over it -/
theorem loop_all {A : Around} {prog : Program} {w : World} (hP : Y.prog = prog) (hw : Y.w = w) (hh : A.handled = none) (hroom : A.depth < recursionLimit) (hpn : Y.pn = []) (hgo : ∀ {h : Heap}, h.get? a = some gobj → h.IsGen a g) :
    ∀ n m i H s gs, m < n → s.gens[g]? = some gs → GS Y [(a, gobj)] (wipe σ own) fp tn g W i m H s →
      (∀ s'', GS Y [(a, gobj)] (wipe σ own) fp tn g W i m H s'' → gs.Goes (model prog w) A.in1.in1 (gRes Y [(a, gobj)] (wipe σ own) Q) (gYld Y [(a, gobj)] (wipe σ own) fp tn g W Q) n (.send .none) s'') →
      codeAny (model prog w) A (.builtin "all.loop" ⟨[.ref a], []⟩) (fun r s' => ∃ b H', r = .ok (.ret (.bool b)) ∧ Inv Y [(a, gobj)] (wipe σ own) H' s' ∧ Q (.bl b) H') s := by
  intro n
  induction n with
  | zero => intro m i H s gs hm; exact absurd hm (Nat.not_lt_zero _)
  | succ n ih =>
    intro m i H s gs hm hgs x go
    apply codeAny_builtin F.entry_all_loop
    rw [Around.under_plainId F.plain_all_loop _]
    show wpAny _ A.in1 (pyNext (.ref a) >>= _) _ _ s
    have hg : s.heap.IsGen a g := hgo (x.1.pin (a, gobj) (by rw [hpn]; simp)).1
    apply wpAny_bind
    refine wpAny_pyNext_genexpQ (P := gEnd Y [(a, gobj)] (wipe σ own) Q) hh x.1.nolimit hroom hg hgs (go _ (x.setGen rfl)) (fun v s₁ gs' hb hY => ?_) (fun s₁ hE h' hk => ?_)
    · obtain ⟨b, H1, rfl, I1, gz, q0, q1⟩ := hY
      apply wpAny_bind
      refine wpAny_holding (wpAny_truthy_bool ?_)
      apply wpAny_bind
      apply wpAny_letGo
      have I2 := I1.setGen g hb
      cases b with
      | false =>
        simp only [Bool.false_eq_true, if_false]
        exact wpAny_bind (wpAny_rule (wpAny_pure ⟨false, H1, rfl, I2, q0 rfl⟩))
      | true =>
        obtain ⟨i', m', hm', y, k⟩ := q1 rfl
        simp only [if_true]
        exact wpAny_pure ⟨plainId_quiet F.plain_all_loop _, ih m' i' H1 _ gs' hm' (setGen_at gz gs') (y.setGen hb) fun s'' y'' => k s'' y''⟩
    · obtain ⟨H1, I1, q1⟩ := hE
      apply wpAny_bind
      refine wpAny_rule (wpAny_pure ⟨true, H1, rfl, ?_, q1⟩)
      exact (I1.setGen g (x := .finished) rfl).kept (t' := s₁.toks) hk
end
end L2

end
section
set_option Elab.async false
set_option linter.all false
set_option maxRecDepth 100000
namespace L2
open PySem PySem.Spec PyProof.Rows

/-! ### a code object's table, tracked -/
def TabAt (P : Addr) (h : Heap) : Prop := ∃ ps : Array Value, h.get? P = some { cls := .none, data := .fields ps } ∧ TriplesOk ps.toList
abbrev tabH (P : Addr) : HO := .ext (TabAt P)
/-- the code object at c, its table at P -/
structure CodeB (base : Heap) (c P : Addr) : Prop where
  at_ : ∀ h : Heap, (∀ b o, base.get? b = some o → h.get? b = some o) → ∀ ps : Array Value, h.get? P = some { cls := .none, data := .fields ps } → TriplesOk ps.toList → h.IsCode c P ps ∧ h.TableAt c P ps
theorem upd_id {H : Hp} {a : Addr} {o : HO} (h : H a = some o) : upd H a o = H := by
  funext b
  unfold upd
  split
  · rename_i e; rw [e, h]
  · rfl
theorem TabAt.stay {P : Addr} : ∀ h1 h2 : Heap, TabAt P h1 → (∀ o, h1.get? P = some o → h2.get? P = some o) → TabAt P h2 := fun _ _ ⟨ps, e, t⟩ k => ⟨ps, k _ e, t⟩
section
variable {X : Cx} {pins : List (Addr × Obj)} {σ : St} {H : Hp} {s : Shared}
theorem code_ok {E : Value → Shared → Prop} {c P : Addr} {pos : Pos} {qual : Str} {scope : Scope} {Q : Value → Shared → Prop} (I : Inv X pins σ H s) (hB : CodeB X.base c P) (hc : X.env.code = .ref c) (hP : H P = some (tabH P))
    (h : ∀ code s', Inv X pins σ H s' → (∀ b o, b ≠ P → s.heap.get? b = some o → s'.heap.get? b = some o) → s'.gens = s.gens → Q code s') : wpAny (model X.prog X.w) X.A (genexprCode X.env pos qual scope) Q E s := by
  obtain ⟨⟨ps, e, tr⟩, _, _⟩ := I.hok P _ hP
  obtain ⟨hok, htab⟩ := hB.at_ s.heap I.bk ps e tr
  cases hnf : codeAmong pos ps.toList with
  | none =>
    refine wpAny_genexprCodeX hc hok htab hnf fun c' h' tk hx _ _ hok' _ htab' _ => ?_
    obtain ⟨_, _, _, _, _, _, _, _, _, op, _, _, _, _, _, _, _, hop, hpd, htr, _⟩ := hok'
    have e2 := htab'.2
    rw [hop] at e2
    cases e2
    have I' := I.write (t' := tk) (h' := h') (x := P) (e := P) (o := tabH P) (by rw [hP]; trivial) (.inl rfl) (fun b u hb q => hx b u hb q) ⟨_, htab'.2⟩ ⟨⟨_, htab'.2, htr⟩, ⟨_, htab'.2⟩, TabAt.stay⟩
    rw [upd_id hP] at I'
    exact h _ _ I' (fun b o hb q => hx b o hb q) rfl
  | some cv =>
    obtain ⟨o, vs, file, tf, flags, tg, inF, text, tt, op, ho, hd, h11, h2, h7, h9, h10, hop, hpd, htr, hne⟩ := id hok
    unfold genexprCode codeAt
    rw [hc, if_neg (show ¬ ((Value.ref c == Value.none) = true) from Bool.false_ne_true)]
    apply wpAny_bind
    apply wpAny_fieldsOf ho hd
    rw [h11]
    apply wpAny_bind
    apply wpAny_fieldsOf hop hpd
    rw [hnf]
    exact wpAny_pure (h _ _ I (fun _ _ _ q => q) rfl)
end

theorem boot_all9 : bootBuiltins "all" = some (.builtin "all") := by decide +kernel
/-- all(elt for target in iter) -/
def tAllG (P : Addr) (wi : TI) (gt : TG) (te : TE) (vs : List Nat) : TE := fun σ H Q => wi σ H fun J H1 => H1 P = some (tabH P) ∧ ∃ W : Nat → Nat → Hp → Prop, (∃ m, W 0 m H1) ∧ gTurn J gt te vs σ W Q
section
variable {X : Cx}
theorem Room.gen {k : Nat} {A : Around} (r : Room (k + 1) A) (elt tg iter : Expr) (scope : Scope) (pos : Pos) (it : Addr) (cenv : Env) : Room k (A.in1.in1.over (gCode elt tg iter scope pos it cenv) []) := by
  obtain ⟨h1, h2, h3⟩ := r
  refine ⟨h1, ?_, ?_⟩
  · show A.depth + 0 + 1 + 3 * k + 5 < recursionLimit
    omega
  · show A.units + 1 + 1 + 0 + 3 + 16 * k + 200 < cLine
    omega
theorem pe_allG {k : Nat} {c P bm : Addr} {ob : Obj} {elt tg iter : Expr} {scope : Scope} {own : List (Str × Nat)} {p pos pos' : Pos} {wi : TI} {gt : TG} {te : TE} (hr : Room (k + 1) X.A) (hc : X.calm = true) (hN : X.N.Nodup) (hgA : Gl X "all") (hmA : X.mg "all" = none)
    (hM : BMod X.base mainGlobals X.mg bm ob) (hB : CodeB X.base c P) (hcode : X.env.code = .ref c)
    (hi : PI X tg iter wi) (ok : BlkOk X.N X.env.scope scope own) (hcell : ∀ y ∈ scope.names, y.2 ≠ .cell) (h0 : scope.names.lookup (".0" : Str) = some NameKind.local) (hco : scope.isCoroutine = false)
    (hg : ∀ (s : Shared) (H : Hp) (C : Addr) (code : Value) (fp : List Addr) (A' : Around), Room k A' → PG (X.gblk s H scope (genEnv scope (gCl X scope) C code builtinsNs X.env) fp A') tg gt)
    (he : ∀ (s : Shared) (H : Hp) (C : Addr) (code : Value) (fp : List Addr) (A' : Around), Room k A' → PE (X.gblk s H scope (genEnv scope (gCl X scope) C code builtinsNs X.env) fp A') elt te)
    (hs : ∀ x, genFold iter X.env x = pure x := by intro _; rfl) (hs0 : starEach [.GeneratorExp elt [⟨tg, iter, [], 0⟩] scope pos] X.env = [(false, eval (.GeneratorExp elt [⟨tg, iter, [], 0⟩] scope pos) X.env)] := by rfl) :
    PE X (.Call (.Name "all" p) [.GeneratorExp elt [⟨tg, iter, [], 0⟩] scope pos] [] pos') (tAllG P wi gt te (own.map (·.2))) := by
  intro pins s σ H Q I h
  have hfree : ∀ y ∈ scope.names, y.2 = .free → ∃ c, X.env.cells.lookup y.1 = some c := fun y hy e => by
    rcases ok.free y hy e with k | k
    · exact I.ok.has _ (.inl k)
    · exact I.ok.has _ (.inr k)
  refine wpAny_Call_Name_kw (ld_blt I hgA hmA boot_all9 (PyProof.Rows.callWith_builtin1 ?_ hs0 rfl))
  rw [hs0]
  refine Calls.spliced_cons ?_
  refine wpAny_GeneratorExp_make hco (closure_ok hfree) hcell h0 ok.kind hr.depth (thn (hi pins s σ H _ I h) fun xv s1 hx => thn hx fun itv s2 h2 => ?_) hs
  obtain ⟨it, fp, tn, J, H2, e, I2, T, st2, f2, hP, W, ⟨m0, w0⟩, ht⟩ := h2
  subst e
  refine ⟨I2.nolimit, code_ok I2 hB hcode hP fun code s3 I3 k3 g3 => ?_⟩
  have M3 := hM.keeps I3.bk
  rw [I3.ok.glob]
  refine wpAny_builtinsFor M3.ns M3.name M3.ne M3.obj M3.cls M3.dict M3.data ?_
  intro h' hn' hs'
  have sz2 : ∀ b ∈ fp, ∃ o, s2.heap.get? b = some o := fun b hb => by
    obtain ⟨o, e, _⟩ := T.obj _ _ st2 b hb
    exact ⟨o, e⟩
  have nP : ∀ b ∈ fp, b ≠ P := fun b hb z => by
    have := (f2 b hb).1
    rw [z, hP] at this; cases this
  have st3 : tn 0 s3.heap := T.keep _ _ _ st2 fun b hb o e => k3 b o (nP b hb) e
  have sz3 : ∀ b ∈ fp, b < s3.heap.objs.size := fun b hb => by
    obtain ⟨o, e, _⟩ := T.obj _ _ st3 b hb
    exact Heap.lt_size e
  -- the heap with the frame, then the generator
  have kpF : ∀ b o, s3.heap.get? b = some o → h'.get? b = some o := fun b o e => hs'.extBut b o (Nat.ne_of_lt (Heap.lt_size e)) (Heap.get?_push_of_some _ e)
  have hszF : h'.objs.size = s3.heap.objs.size + 1 := by rw [hs'.1, Heap.size_push]
  generalize hgo : ({ cls := .type "generator", data := .fields #[.int s3.gens.size 0, .str "<genexpr>" (s3.toks + 1), .str (X.env.qual ++ "<genexpr>") (s3.toks + 1 + 1)] } : Obj) = gobj
  have kp5 : ∀ b o, s3.heap.get? b = some o → (h'.push gobj).get? b = some o := fun b o e => Heap.get?_push_of_some _ (kpF b o e)
  have ga5 : (h'.push gobj).get? h'.objs.size = some gobj := by
    rw [← hgo]
    exact Heap.get?_push_size _ rfl
  have isG : ∀ {hh : Heap}, hh.get? h'.objs.size = some gobj → hh.IsGen h'.objs.size s3.gens.size := fun {hh} e => by
    rw [← hgo] at e
    exact ⟨_, _, _, e, rfl, rfl, rfl⟩
  have hcell2 : ∀ v, gobj.data ≠ .cell v := by
    rw [← hgo]
    intro v z
    cases z
  generalize hcl : closureFor scope X.env = clo
  generalize hcv : genEnv scope (cloFrom X.env.cells scope.names []) s3.heap.objs.size code builtinsNs X.env = cenv
  have cL : cenv.locals = s3.heap.objs.size := by rw [← hcv]; rfl
  have hsc : cenv.scope = scope := by rw [← hcv]; rfl
  generalize hA' : X.A.in1.in1.over (gCode elt tg iter scope pos it cenv) [] = A'
  have hR : Room k A' := by rw [← hA']; exact hr.gen elt tg iter scope pos it cenv
  have hfr : A'.frames = some (cenv :: X.stack) := by
    rw [← hA']
    show pushEnvs [cenv] (pushEnvs (envsOf []) X.A.frames) = _
    rw [I3.ok.frames]
    rfl
  have f3 : ∀ b ∈ fp, FpOk X pins H2 b ∧ b < s3.heap.objs.size := fun b hb => ⟨f2 b hb, sz3 b hb⟩
  have bare5 : AllBare (s3.gens.push (.fresh (.compStart (.GeneratorExp elt [⟨tg, iter, [], 0⟩] scope pos) 0 (.ref it) .none cenv))) := I3.bare.push rfl
  have I5 := gblock_start (A' := A') (code := code) (h' := h'.push gobj) (tk := s3.toks + 1 + 1 + 1) (gs := s3.gens.push (.fresh (.compStart (.GeneratorExp elt [⟨tg, iter, [], 0⟩] scope pos) 0 (.ref it) .none cenv)))
    (m0 := fun y => if y = ".0" then some (.ref it) else none) I3 ok hN f3 hcell (by rw [show genEnv scope (gCl X scope) s3.heap.objs.size code builtinsNs X.env = cenv from hcv]; exact hfr) hR.hd kp5 (hn'.push _) bare5
  have pg := hg s3 H2 s3.heap.objs.size code fp A' hR
  have pe := he s3 H2 s3.heap.objs.size code fp A' hR
  rw [show genEnv scope (gCl X scope) s3.heap.objs.size code builtinsNs X.env = cenv from hcv] at I5 pg pe
  have aN : h'.objs.size ∉ fp := fun hb => by
    have z : h'.objs.size < s3.heap.objs.size := sz3 _ hb
    rw [hszF] at z
    exact absurd (Nat.lt_of_succ_lt z) (Nat.lt_irrefl _)
  have I6 : Inv (X.gblk s3 H2 scope cenv fp A') [(h'.objs.size, gobj)] (wipe σ (own.map (·.2))) H2 { s3 with heap := h'.push gobj, toks := s3.toks + 1 + 1 + 1, gens := s3.gens.push (.fresh (.compStart (.GeneratorExp elt [⟨tg, iter, [], 0⟩] scope pos) 0 (.ref it) .none cenv)) } :=
    I5.pins_of fun q hq => by
      have e : q = (h'.objs.size, gobj) := by simpa using hq
      rw [e]
      refine ⟨ga5, I3.hok.fresh (by show s3.heap.objs.size ≤ h'.objs.size; omega), ?_, ?_, hcell2⟩
      · show h'.objs.size ≠ cenv.locals
        rw [cL]
        omega
      · intro z
        have z : h'.objs.size ∈ frs X.stack := z
        obtain ⟨_, o, ho, _⟩ := I3.stack.mem z
        have z : h'.objs.size < s3.heap.objs.size := Heap.lt_size ho
        rw [hszF] at z
        exact absurd (Nat.lt_of_succ_lt z) (Nat.lt_irrefl _)
  have G0 : GS (X.gblk s3 H2 scope cenv fp A') [(h'.objs.size, gobj)] (wipe σ (own.map (·.2))) fp tn s3.gens.size W 0 m0 H2 { s3 with heap := h'.push gobj, toks := s3.toks + 1 + 1 + 1, gens := s3.gens.push (.fresh (.compStart (.GeneratorExp elt [⟨tg, iter, [], 0⟩] scope pos) 0 (.ref it) .none cenv)) } :=
    ⟨I6, T.keep _ _ _ st3 fun b _ o e => kp5 b o e, fun b hb => (f2 b hb).1, w0, by simp⟩
  refine Calls.spliced_nil ?_
  refine call_function_tree F.kind_all F.plain_all F.entry_all (F.args_all1 _) ?_
  unfold Builtin.«all»
  refine wpAny_bind (m := oneArg "all" _) (wpAny_pure ?_)
  refine wpAny_bind (wpAny_pyIter_gen (isG ga5) ?_)
  refine wpAny_pure ⟨plainId_quiet F.plain_all_loop _, ?_⟩
  refine codeAny_mono (loop_all (Y := X.gblk s3 H2 scope cenv fp A') (W := W) (Q := Q) (tn := tn) (fp := fp) (σ := σ) (own := own.map (·.2)) (A := X.A) rfl rfl hr.hd hr.depth rfl isG (m0 + 1) m0 0 H2 _ _ (Nat.lt_succ_self _) (Array.getElem?_push_size ..) G0 fun s'' x'' => ?_) fun r s9 h9 => ?_
  · exact ⟨rfl, seg_allStart (Y := X.gblk s3 H2 scope cenv fp A') hA'.symm hc rfl rfl rfl (by show cenv.scope.isCoroutine = false; rw [hsc]; exact hco) aN T pg pe ht (Nat.lt_succ_self _) x''⟩
  · obtain ⟨b, H9, rfl, I9, q9⟩ := h9
    have I10 : Inv X pins σ H9 s9 := I3.call' (ch := fp) I9.os I9.base I9.hok I9.bare fun b hb => ⟨(f2 b hb).2.2.2.1, (f2 b hb).2.1, (f2 b hb).2.2.2.2.1, (f2 b hb).2.2.2.2.2⟩
    exact ⟨.bl b, H9, I10, rfl, q9⟩
end
end L2

end
section
set_option Elab.async false
set_option linter.all false
set_option maxRecDepth 100000
namespace L2
open PySem PySem.Spec PyProof.Rows

/-- over a tuple -/
theorem all_tup {K : PySem.W.Frag} {a : Addr} {xs : List V} {gt : TG} {te : TE} {vs : List Nat} {σ : St} {H1 : Hp} {Q : VK} (Pv : Nat → Hp → Prop) (h0 : Pv 0 H1) (hl : ∀ i H, i ≤ xs.length → Pv i H → SqT K H a xs)
    (hs : ∀ i x H, xs[i]? = some x → Pv i H → gt x (wipe σ vs) H fun σ2 H2 => wipe σ2 vs = wipe σ vs ∧ te σ2 H2 fun y H4 => ∃ b, y = .bl b ∧ (b = false → Q (.bl false) H4) ∧ (b = true → Pv (i + 1) H4)) (hd : ∀ H, Pv xs.length H → Q (.bl true) H) :
    ∃ W : Nat → Nat → Hp → Prop, (∃ m, W 0 m H1) ∧ gTurn (Itt K a) gt te vs σ W Q := by
  refine ⟨fun i m H => m = xs.length - i ∧ i ≤ xs.length ∧ Pv i H, ⟨xs.length, by simp, Nat.zero_le _, h0⟩, ?_⟩
  rintro i m H ⟨rfl, hi, p⟩
  have q := hl i H hi p
  by_cases hlt : i < xs.length
  · refine .inr ⟨⟨xs, xs[i], q, by simp [hlt]⟩, Pv (i + 1), fun H' p' => ⟨xs.length - (i + 1), by omega, rfl, hlt, p'⟩, fun x H' y => ?_⟩
    obtain ⟨e, y⟩ := y
    subst e
    exact hs i x _ (y xs q) p
  · have e : i = xs.length := by omega
    subst e
    exact .inl ⟨⟨xs, q, Nat.le_refl _⟩, hd H p⟩

/-! ### the tables at the law's entry -/
def Tabs (tabs : List Addr) (H : Hp) : Prop := ∀ P ∈ tabs, H P = some (tabH P)
theorem Tabs.mono {tabs : List Addr} {H H' : Hp} (t : Tabs tabs H) (e : Same H H') : Tabs tabs H' := fun P hP => e _ _ (t P hP)
theorem Tabs.monoX {tabs : List Addr} {H H' : Hp} {p : Addr} {xs : List V} (t : Tabs tabs H) (e : SameX p H H') (hp : H p = some (.lst xs)) : Tabs tabs H' := fun P hP => e _ _ (t P hP) fun z => by
  rw [← z, t P hP] at hp
  cases hp
/-- a def whose code has its table among tabs -/
def TabF (base : Heap) (tabs : List Addr) (fd : FuncData) : Prop := ∃ c P, fd.code = .ref c ∧ P ∈ tabs ∧ CodeB base c P
def TabH (h : Heap) (P : Addr) : Prop := ∃ c, h.IsCode c P #[] ∧ h.TableAt c P #[]
theorem TabH.obj {h : Heap} {P : Addr} (x : TabH h P) : h.get? P = some { cls := .none, data := .fields #[] } := let ⟨_, _, t⟩ := x; t.2
theorem tabs_of_top {p : Program} {loose : List Str} {mean : ExcName → Option Value} {mg mb : Str → Option Value} {h : Heap} (T : Top p loose mean mg mb h) : ∀ gs : List Str, (∀ x ∈ gs, ∃ d ∈ recsOf p, d.name = x) →
    ∃ tabs : List Addr, (∀ P ∈ tabs, TabH h P) ∧ ∀ x ∈ gs, ∀ f o fd, mg x = some (.ref f) → h.get? f = some o → o.data = .func fd → ∃ c P, fd.code = .ref c ∧ P ∈ tabs ∧ h.IsCode c P #[] ∧ h.TableAt c P #[]
  | [], _ => ⟨[], ⟨fun P hP => absurd hP (by simp), fun x hx => absurd hx (by simp)⟩⟩
  | x :: r, hg => by
    obtain ⟨tabs, h1, h2⟩ := tabs_of_top T r fun y hy => hg y (List.mem_cons_of_mem _ hy)
    obtain ⟨d, hd, rfl⟩ := hg x List.mem_cons_self
    obtain ⟨a, o, fd, c, P, e1, e2, e3, e4, e5, e6⟩ := T.tab d hd
    refine ⟨P :: tabs, fun P' hP => ?_, fun y hy f o' fd' g1 g2 g3 => ?_⟩
    · rcases List.mem_cons.mp hP with rfl | hP
      · exact ⟨c, e5, e6⟩
      · exact h1 P' hP
    · rcases List.mem_cons.mp hy with rfl | hy
      · rw [e1] at g1; cases g1
        rw [e2] at g2; cases g2
        rw [e3] at g3; cases g3
        exact ⟨c, P, e4, List.mem_cons_self, e5, e6⟩
      · obtain ⟨c', P', k1, k2, k3, k4⟩ := h2 y hy f o' fd' g1 g2 g3
        exact ⟨c', P', k1, List.mem_cons_of_mem _ k2, k3, k4⟩
theorem codeB_of {h base : Heap} {c P : Addr} (hc : h.IsCode c P #[]) (ht : h.TableAt c P #[]) (hb : ∀ o, h.get? c = some o → o.cls = .type "code" → base.get? c = some o) : CodeB base c P := by
  obtain ⟨⟨o, vs, e1, e2, e3, e4⟩, _⟩ := ht
  obtain ⟨o', vs', file, tf, flags, tg, inF, text, tt, op, a1, a2, a3, a4, a5, a6, a7, a8, a9, a10, a11⟩ := hc
  rw [e1] at a1; cases a1
  rw [e3] at a2; cases a2
  have eb := hb o e1 e2
  refine ⟨fun h2 k ps hp tr => ⟨⟨o, vs, file, tf, flags, tg, inF, text, tt, _, k _ _ eb, e3, a3, a4, a5, a6, a7, hp, rfl, tr, a11⟩, ⟨⟨o, vs, k _ _ eb, e2, e3, e4⟩, hp⟩⟩⟩

/-- the head, where defs build generators: their tables are tracked -/
theorem law_callT {P : Program} {w : World} {K : PySem.W.Frag} {mg mb : Str → Option Value} {k : Nat} {fa a : Addr} {fd : FuncData} {x : Str} {sp : List Addr → Sp} {s₁ : Shared} {vs : List Value} {ns : List Int} {tabs : List Addr} {bm : Addr} {ob : Obj}
    (KX : K.In s₁.heap) (hKc : PySem.W.kb_classed K = true) (hns : s₁.heap.Ns mainGlobals mg) (hb : s₁.heap.Ns builtinsNs mb) (hbb : ∀ x : Str, x ≠ "__name__" → mb x = bootBuiltins x) (hlim : s₁.heap.NoLimit) (hg : s₁.gens = #[]) (hM : BMod s₁.heap mainGlobals mg bm ob)
    (htab : ∀ P ∈ tabs, TabH s₁.heap P)
    (ha : s₁.heap.get? a = some { cls := .type "list", data := .seq vs.toArray }) (hi : IntsAre vs ns) (hl : ns.length ≤ sizeLine) (hr : Room k callerA)
    (F : ∀ base : Heap, K.In base → base.Ns mainGlobals mg → BMod base mainGlobals mg bm ob → (∀ c P, P ∈ tabs → s₁.heap.IsCode c P #[] → s₁.heap.TableAt c P #[] → CodeB base c P) → FnOk P w K mg base CX0 k fa fd [x] (sp tabs)) (hbind : ∀ (s : Shared) (u : Value), BindsTo s fd ⟨[u], []⟩ [(x, u)])
    (hsp : ∀ H : Hp, Tabs tabs H → SqL K H a (ns.map V.int) → sp tabs [.ref a] H (fun v H' => v = .bl true ∧ Tabs tabs H') fun _ _ _ => False) :
    codeAny (model P w) callerA (.call (.ref fa) ⟨[.ref a], []⟩) (fun r s' => r = .ok (.ret (.bool true)) ∧ OldK s₁.heap s'.heap ∧ s'.os = s₁.os ∧ AllBare s'.gens) s₁ := by
  have rv := vals_ints hi
  have lenV := hi.length
  have naT : a ∉ tabs := fun h => by
    have := (htab a h).obj
    rw [ha] at this; cases this
  have KT : ∀ P ∈ tabs, K.lookup P = none := fun P hP => by
    cases q : K.lookup P with
    | none => rfl
    | some o =>
      have e := KX P o q
      rw [(htab P hP).obj] at e
      cases e
      have z := List.all_eq_true.mp hKc (P, _) (PySem.W.kb_mem q)
      simp only [Bool.or_eq_true, decide_eq_true_eq, beq_iff_eq] at z
      rcases z with (z | z) | z
      · exact absurd rfl z
      · obtain ⟨_, ⟨o, es, ep, h1, h2, _⟩, _⟩ := hlim
        rw [← z, (htab P hP).obj] at h1; cases h1; cases h2
      · obtain ⟨o, es, ep, h1, h2, _⟩ := hns
        rw [← z, (htab P hP).obj] at h1; cases h1; cases h2
  -- from an abstract heap in which nothing but the script and the tables may be tracked
  have core : ∀ H : Hp, SqL K H a (ns.map V.int) → HOk P w H s₁.heap → (∀ b, H b = none ∨ (b = a ∧ ∃ o xs, H b = some (.frz o (.lst xs))) ∨ (b ∈ tabs ∧ H b = some (tabH b))) → Tabs tabs H → (H a ≠ none → K.lookup a = none) →
      codeAny (model P w) callerA (.call (.ref fa) ⟨[.ref a], []⟩) (fun r s' => r = .ok (.ret (.bool true)) ∧ OldK s₁.heap s'.heap ∧ s'.os = s₁.os ∧ AllBare s'.gens) s₁ := by
    intro H hS hok hA hT hK
    have base_of : ∀ {b : Addr} {o : Obj}, s₁.heap.get? b = some o → H b = none → (hidT s₁.heap H).get? b = some o := fun e n => hidT_get e n
    have no : ∀ {b : Addr} {o : Obj}, s₁.heap.get? b = some o → o.cls ≠ .type "list" → (∀ fs, o.data ≠ .fields fs ∨ o.cls ≠ .none) → H b = none := fun {b o} e c d => by
      rcases hA b with q | ⟨rfl, _⟩ | ⟨q, _⟩
      · exact q
      · rw [ha] at e; cases e; exact absurd rfl c
      · rw [(htab b q).obj] at e; cases e
        rcases d #[] with z | z <;> exact absurd rfl z
    have noD : ∀ {b : Addr} {o : Obj} {es : Array DictEntry} {ep : Nat}, s₁.heap.get? b = some o → o.data = .dict es ep → H b = none := fun {b o es ep} e d => by
      rcases hA b with q | ⟨rfl, _⟩ | ⟨q, _⟩
      · exact q
      · rw [ha] at e; cases e; cases d
      · rw [(htab b q).obj] at e; cases e; cases d
    have nsK : ∀ {b : Addr} {m : Str → Option Value}, s₁.heap.Ns b m → (hidT s₁.heap H).Ns b m := fun {b m} ⟨o, es, ep, e, d, r⟩ => ⟨o, es, ep, base_of e (noD e d), d, r⟩
    have hKb : K.In (hidT s₁.heap H) := fun b o e => base_of (KX b o e) (by
      rcases hA b with q | ⟨rfl, _, _, q⟩ | ⟨q, _⟩
      · exact q
      · rw [hK (by rw [q]; simp)] at e; cases e
      · rw [KT b q] at e; cases e)
    have hMod : Mod K mg (hidT s₁.heap H) := ⟨hKb, nsK hns, ⟨mb, nsK hb, hbb⟩, let ⟨mc, h1, h2⟩ := hlim; ⟨mc, nsK h1, h2⟩⟩
    have hMb : BMod (hidT s₁.heap H) mainGlobals mg bm ob := ⟨nsK hns, hM.name, hM.ne, base_of hM.obj (no hM.obj (by rw [hM.cls]; decide) fun fs => .inl (by rw [hM.data]; intro z; cases z)), hM.cls, hM.dict, hM.data⟩
    have e0 : Env0 P w K mg (hidT s₁.heap H) callerA [] s₁ H := ⟨rfl, hMod, fun b o e => of_hidT e, Nat.le_of_eq (hidT_size _ _), trivial, fun b hb => absurd (show b ∈ ([] : List Addr) from hb) (by simp), hok, .of_eq hg⟩
    have hCB : ∀ c P, P ∈ tabs → s₁.heap.IsCode c P #[] → s₁.heap.TableAt c P #[] → CodeB (hidT s₁.heap H) c P := fun c P _ h1 h2 => codeB_of h1 h2 fun o e1 e2 => base_of e1 (no e1 (by rw [e2]; decide) fun fs => .inr (by rw [e2]; intro z; cases z))
    refine codeAny_mono ((F _ hKb (nsK hns) hMb hCB).run callerA [] s₁ H ⟨[.ref a], []⟩ [.ref a] [.ref a] _ _ hr e0 (hbind s₁ (.ref a)) (.cons rfl .nil) (hsp H hT hS)) fun r s' h => ?_
    cases r with
    | error e => exact h.elim
    | ok fl =>
      cases fl with
      | next => exact False.elim h
      | brk => exact False.elim h
      | cont => exact False.elim h
      | ret u =>
        obtain ⟨v, H', os, bare, un, hok', r', q⟩ := h
        obtain ⟨q', qT⟩ := q
        subst q'
        obtain rfl : u = Value.bool true := r'
        have keep : ∀ b o, s₁.heap.get? b = some o → b ∉ tabs → s'.heap.get? b = some o := fun b o e nt => by
          rcases hA b with z | ⟨_, ob', xs, z⟩ | ⟨z, _⟩
          · exact un.keep b o e z (by intro z; exact absurd (show b ∈ ([] : List Addr) from z) (by simp)) (by simp)
          · have z2 := un.frzs b ob' _ z
            obtain ⟨e1, _⟩ := hok b _ z
            obtain ⟨e2, _⟩ := hok' b _ z2
            rw [e] at e1; cases e1
            exact e2
          · exact absurd z nt
        have tab : ∀ b ∈ tabs, ∃ ps : Array Value, s'.heap.get? b = some { cls := .none, data := .fields ps } := fun b hb => by
          obtain ⟨⟨ps, e, _⟩, _⟩ := hok' b _ (qT b hb)
          exact ⟨ps, e⟩
        refine ⟨rfl, ⟨fun b o e => ?_, fun b o e => ?_⟩, os, bare⟩
        · by_cases hb : b ∈ tabs
          · obtain ⟨ps, e2⟩ := tab b hb
            have e1 := (htab b hb).obj
            rw [e] at e1
            cases e1
            obtain ⟨c, _, t⟩ := htab b hb
            exact .inr (.inl ⟨t.isCodeTable, rfl, #[], ps, rfl, by rw [e2]; simp⟩)
          · exact .inl (keep b o e hb)
        · by_cases hb : b ∈ tabs
          · obtain ⟨ps, e2⟩ := tab b hb
            exact ⟨_, e2⟩
          · exact ⟨o, keep b o e hb⟩
  have okT : ∀ {H : Hp}, ∀ b ∈ tabs, H b = some (tabH b) → ObjOk P w H s₁.heap b (tabH b) := fun {H} b hb _ => ⟨⟨#[], (htab b hb).obj, trivial⟩, ⟨_, (htab b hb).obj⟩, TabAt.stay⟩
  cases hk : K.lookup a with
  | some o =>
    have e := KX a o hk
    rw [ha] at e
    cases e
    refine core (fun b => if b ∈ tabs then some (tabH b) else none) (.inr ⟨_, vs.toArray, _, hk, rfl, rfl, rfl, by rw [List.size_toArray, lenV]; exact hl, by simpa using rv⟩) (fun b u z => ?_) (fun b => ?_) (fun b hb => if_pos hb) fun z => absurd (if_neg naT) z
    · by_cases hb : b ∈ tabs
      · have z' := (if_pos hb).symm.trans z
        cases z'
        exact okT b hb (if_pos hb)
      · have z' := (if_neg hb).symm.trans z
        cases z'
    · by_cases hb : b ∈ tabs
      · exact .inr (.inr ⟨hb, if_pos hb⟩)
      · exact .inl (if_neg hb)
  | none =>
    have nb : ∀ b ∈ tabs, b ≠ a := fun b hb e => naT (e ▸ hb)
    refine core (fun b => if b = a then some (.frz { cls := .type "list", data := .seq vs.toArray } (.lst (ns.map V.int))) else if b ∈ tabs then some (tabH b) else none) (.inl (.inr ⟨{ cls := .type "list", data := .seq vs.toArray }, if_pos rfl⟩)) (fun b u z => ?_) (fun b => ?_) (fun b hb => (if_neg (nb b hb)).trans (if_pos hb)) fun _ => hk
    · by_cases hb : b = a
      · have z' := (if_pos hb).symm.trans z
        cases z'
        subst hb
        exact ⟨ha, by rw [List.length_map]; exact hl, vs, _, rv, ha⟩
      · have z := (if_neg hb).symm.trans z
        by_cases ht : b ∈ tabs
        · have z' := (if_pos ht).symm.trans z
          cases z'
          exact okT b ht ((if_neg hb).trans (if_pos ht))
        · have z' := (if_neg ht).symm.trans z
          cases z'
    · by_cases hb : b = a
      · exact .inr (.inl ⟨hb, _, _, if_pos hb⟩)
      · by_cases ht : b ∈ tabs
        · exact .inr (.inr ⟨ht, (if_neg hb).trans (if_pos ht)⟩)
        · exact .inl ((if_neg hb).trans (if_neg ht))

/-- the goal that k_head leaves, from the law's promise, where defs build generators -/
theorem walk_ofT {l : PySem.W.OpenLaw} {n k : Nat} {q : Program} {loose : List Str} {XP : (Str → Option Value) → Heap → Prop} {YP : World → Heap → Prop} {d : DefRec} {K : Params → PySem.W.Frag} {sp : PySem.W.Frag → List Addr → Sp} {x : Str} (gs : List Str)
    (hn : l.most = some n) (hn2 : n ≤ sizeLine) (hdf : d.params.defaults = []) (hr : Room k callerA)
    (hY : ∀ (w : World) (h : Heap), YP w h → (K w.params).In h) (hKc : ∀ p : Params, PySem.W.kb_classed (K p) = true) (hgs : (gs.all fun x => (recsOf q).any fun e => decide (e.name = x)) = true)
    (F : ∀ (w : World) (mg : Str → Option Value) (fa : Addr) (h : Heap), (K w.params).In h → h.Ns mainGlobals mg → mg d.name = some (.ref fa) →
      ∃ fd : FuncData, (∀ (s : Shared) (u : Value), BindsTo s fd ⟨[u], []⟩ [(x, u)]) ∧
        ∀ (tabs : List Addr) (base : Heap) (bm : Addr) (ob : Obj), (K w.params).In base → base.Ns mainGlobals mg → BMod base mainGlobals mg bm ob → (∀ x ∈ gs, ∀ f o fd, mg x = some (.ref f) → (K w.params).lookup f = some o → o.data = .func fd → TabF base tabs fd) →
          FnOk l.prog w (K w.params) mg base CX0 k fa fd [x] (sp (K w.params) tabs))
    (hsp : ∀ (K : PySem.W.Frag) (tabs : List Addr) (H : Hp) (a : Addr) (ns : List Int), ns.length ≤ n → Tabs tabs H → SqL K H a (ns.map V.int) → sp K tabs [.ref a] H (fun v H' => v = .bl true ∧ Tabs tabs H') fun _ _ _ => False) :
    PySem.W.WalkO q loose XP YP l.row.toRowW d [] (fun f vs => PySem.call f vs) := by
  refine Att.attach_call hn hdf fun w s₀ s₁ mg mb fa o pm cd doc a vs ns G Y ho hd hcd hmg hobj hints hlen hg => ?_
  have KX := hY w _ Y
  obtain ⟨fd, hb, hF⟩ := F w mg fa _ KX G.T.g hmg
  have hgs' : ∀ x ∈ gs, ∃ d ∈ recsOf q, d.name = x := fun x hx => by
    obtain ⟨e, he, h2⟩ := List.any_eq_true.mp (List.all_eq_true.mp hgs x hx)
    exact ⟨e, he, of_decide_eq_true h2⟩
  obtain ⟨tabs, t1, t2⟩ := tabs_of_top G.T gs hgs'
  obtain ⟨bm, ob, hM⟩ := PySem.W.bmod_of_top G.T
  refine law_callT (sp := sp (K w.params)) KX (hKc w.params) G.T.g G.T.b G.T.builtins G.T.nolimit hg hM t1 hobj hints (Nat.le_trans hlen hn2) hr (fun base kb nb mb' cb => hF tabs base bm ob kb nb mb' fun x hx f o fd e1 e2 e3 => ?_) hb fun H hT hS => hsp _ tabs H a ns hlen hT hS
  obtain ⟨c, P, k1, k2, k3, k4⟩ := t2 x hx f o fd e1 (KX _ _ e2) e3
  exact ⟨c, P, k1, k2, cb c P k2 k3 k4⟩

/-- a def of the text whose body asks for its code -/
theorem Fun.okC {P : Program} {w : World} {K : PySem.W.Frag} {mg : Str → Option Value} {base : Heap} {x qual : Str} {st : Stmt} {f : Addr} {fd : FuncData} {N ps : List Str} {k : Nat} {sp : Sp} (F : Fun K x qual st f fd) (S : FnScope N ps (defScope st)) (len : ∀ vs H Q E, sp vs H Q E → vs.length = ps.length)
    (hbody : ∀ (cdv : Value) (A : Around) (outer : List Env) (s : Shared) (H : Hp) (vs : List V) (Q : VK) (E : XK), fd.code = cdv → Room k (A.deeper (envOfC qual (defScope st) s.heap.objs.size f cdv)) → sp vs H Q E →
      ∃ t, PSs (cxOf CX0 P w K mg base N qual (defScope st) f cdv A outer s H E).nox (defBody st) t ∧ t { nx := fun _ H' => Q .non H', rt := Q } (start N vs) H) : FnOk P w K mg base CX0 (k + 1) f fd ps sp := by
  obtain ⟨oc, od, kV, doc, pm, an, cdv, ct, osl, rfl, lk, hcd⟩ := F.ex
  refine fn_of lk hcd S len fun A outer s H vs Q E hr hsp => ?_
  obtain ⟨t, h, q⟩ := hbody cdv A outer s H vs Q E rfl hr hsp
  exact ⟨t, h.nox, q⟩
end L2

end
section
namespace Num
/-! ### the greatest divisor of three, lowest terms -/
def g3 (a b c : Int) : Nat := Nat.gcd (Nat.gcd a.natAbs b.natAbs) c.natAbs
/-- the divisor that brings (a, b, c) down, of c's sign -/
def dv (a b c : Int) : Int := if c < 0 then -(g3 a b c : Int) else (g3 a b c : Int)
theorem g3_pos {a b c : Int} (h : c ≠ 0) : 0 < g3 a b c := Nat.gcd_pos_of_pos_right _ (by omega)
theorem g3_le {a b c : Int} (h : c ≠ 0) : g3 a b c ≤ c.natAbs := Nat.gcd_le_right _ (by omega)
theorem dv_ne {a b c : Int} (h : c ≠ 0) : dv a b c ≠ 0 := by
  have := g3_pos (a := a) (b := b) h
  unfold dv; split <;> omega
theorem dv_abs {a b c : Int} : (dv a b c).natAbs = g3 a b c := by
  unfold dv; split <;> omega
theorem g3_dvd_c (a b c : Int) : (g3 a b c : Int) ∣ c := Int.ofNat_dvd_left.mpr (Nat.gcd_dvd_right _ _)
theorem g3_dvd_a (a b c : Int) : (g3 a b c : Int) ∣ a := Int.ofNat_dvd_left.mpr (Nat.dvd_trans (Nat.gcd_dvd_left _ _) (Nat.gcd_dvd_left _ _))
theorem g3_dvd_b (a b c : Int) : (g3 a b c : Int) ∣ b := Int.ofNat_dvd_left.mpr (Nat.dvd_trans (Nat.gcd_dvd_left _ _) (Nat.gcd_dvd_right _ _))
theorem dv_dvd {a b c x : Int} (h : (g3 a b c : Int) ∣ x) : dv a b c ∣ x := by
  unfold dv; split
  · exact Int.neg_dvd.mpr h
  · exact h
theorem fdiv_dvd {d x : Int} (h : d ∣ x) : d * x.fdiv d = x := Int.mul_fdiv_cancel' h
/-- what lowest terms say -/
theorem low_a (a b c : Int) : dv a b c * a.fdiv (dv a b c) = a := fdiv_dvd (dv_dvd (g3_dvd_a a b c))
theorem low_b (a b c : Int) : dv a b c * b.fdiv (dv a b c) = b := fdiv_dvd (dv_dvd (g3_dvd_b a b c))
theorem low_c (a b c : Int) : dv a b c * c.fdiv (dv a b c) = c := fdiv_dvd (dv_dvd (g3_dvd_c a b c))
theorem low_pos {a b c : Int} (h : c ≠ 0) : 0 < c.fdiv (dv a b c) := by
  have e := low_c a b c
  have hg := g3_pos (a := a) (b := b) h
  generalize c.fdiv (dv a b c) = q at e
  unfold dv at e
  split at e
  · rename_i hc
    rcases Int.lt_or_le 0 q with hq | hq
    · exact hq
    · have : 0 ≤ -(g3 a b c : Int) * q := Int.mul_nonneg_of_nonpos_of_nonpos (by omega) hq
      omega
  · rename_i hc
    rcases Int.lt_or_le 0 q with hq | hq
    · exact hq
    · have : (g3 a b c : Int) * q ≤ 0 := Int.mul_nonpos_of_nonneg_of_nonpos (by omega) hq
      omega
theorem dv_pos {a b c : Int} (h : 0 < c) : 0 < dv a b c := by
  have := g3_pos (a := a) (b := b) (c := c) (by omega)
  unfold dv; rw [if_neg (by omega)]; omega
/-! ### Euclid, turn by turn -/
theorem gcd_turn {x y : Int} (hx : 0 ≤ x) (hy : 0 < y) : Nat.gcd x.natAbs y.natAbs = Nat.gcd y.natAbs (x % y).natAbs := by
  have h1 : (x % y).natAbs = x.natAbs % y.natAbs := by
    have h2 : x = (x.natAbs : Int) := by omega
    have h3 : y = (y.natAbs : Int) := by omega
    rw [h2, h3]
    simp only [Int.natAbs_natCast]
    rw [← Int.natCast_emod]
    exact Int.natAbs_natCast _
  rw [h1, Nat.gcd_comm y.natAbs, ← Nat.gcd_rec, Nat.gcd_comm]
/-! ### squares -/
theorem sq_le {x y : Int} (h0 : 0 ≤ x) (h : x ≤ y) : x * x ≤ y * y := Int.mul_le_mul h h h0 (by omega)
theorem sq_lt {x y : Int} (h0 : 0 ≤ x) (h : x < y) : x * x < y * y := by
  have h1 : x * x ≤ x * y := Int.mul_le_mul_of_nonneg_left (by omega) h0
  have h2 : x * y < y * y := Int.mul_lt_mul_of_pos_right h (by omega)
  omega
theorem lt_of_sq {x y : Int} (hy : 0 ≤ y) (h : x * x < y * y) : x < y := by
  rcases Int.lt_or_le x y with h1 | h1
  · exact h1
  · have := sq_le hy h1; omega
theorem le_of_sq {x y : Int} (hy : 0 ≤ y) (h : x * x ≤ y * y) : x ≤ y := by
  rcases Int.lt_or_le y x with h1 | h1
  · have := sq_lt hy h1; omega
  · exact h1
/-- s is the whole root of n -/
def Rt (n s : Int) : Prop := 0 ≤ s ∧ s * s ≤ n ∧ n < (s + 1) * (s + 1)
theorem newton {n g : Int} (hg : 0 < g) (hn : 0 ≤ n) : n < ((g + n / g) / 2 + 1) * ((g + n / g) / 2 + 1) := by
  have h1 := Int.mul_ediv_add_emod n g
  have h2 := Int.emod_lt_of_pos n hg
  have hq : 0 ≤ n / g := Int.ediv_nonneg hn (by omega)
  generalize n / g = q at *
  generalize n % g = r at *
  have h3 : 2 * ((g + q) / 2 + 1) ≥ g + q + 1 := by omega
  generalize ((g + q) / 2 + 1) = t at *
  have h4 : (g + q + 1) * (g + q + 1) ≤ (2 * t) * (2 * t) := sq_le (by omega) h3
  have h5 : 0 ≤ (g - (q + 1)) * (g - (q + 1)) := by
    rcases Int.le_total 0 (g - (q + 1)) with h | h
    · exact Int.mul_nonneg h h
    · exact Int.mul_nonneg_of_nonpos_of_nonpos h h
  have e1 : (g + q + 1) * (g + q + 1) = (g - (q + 1)) * (g - (q + 1)) + 4 * (g * q) + 4 * g := by grind
  have e2 : (2 * t) * (2 * t) = 4 * (t * t) := by grind
  omega
theorem newton_end {n g : Int} (hg : 0 < g) (hn : 0 ≤ n) (h : g ≤ (g + n / g) / 2) : g * g ≤ n := by
  have h1 := Int.mul_ediv_add_emod n g
  have h2 := Int.emod_nonneg n (show g ≠ 0 by omega)
  generalize n / g = q at *
  have h3 : g ≤ q := by omega
  have h4 : g * g ≤ g * q := Int.mul_le_mul_of_nonneg_left h3 (by omega)
  omega
theorem newton_pos {n g : Int} (hg : 0 < g) (hn : 0 < n) : 0 < (g + n / g) / 2 := by
  have h := newton hg (show 0 ≤ n by omega)
  rcases Int.lt_or_le 0 ((g + n / g) / 2) with h1 | h1
  · exact h1
  · have h2 : 0 ≤ (g + n / g) / 2 := by
      have hq : 0 ≤ n / g := Int.ediv_nonneg (by omega) (by omega)
      omega
    have h3 : (g + n / g) / 2 = 0 := by omega
    rw [h3] at h; omega
/-! ### no root but 0 is a square -/
theorem no_sq_nat (p r : Nat) (hp : 1 < p) (h1 : ∀ m, m < p → m * m % p = 0 → m = 0) (h2 : ∀ m, m < p → r * (m * m) % p = 0 → m = 0) :
    ∀ (n x y : Nat), y ≤ n → x * x = p * r * (y * y) → y = 0 := by
  intro n
  induction n with
  | zero => intro x y hy _; omega
  | succ n ih =>
    intro x y hy e
    have hx : x % p = 0 := by
      apply h1 (x % p) (Nat.mod_lt _ (by omega))
      rw [← Nat.mul_mod, e, Nat.mul_assoc]
      exact Nat.mul_mod_right _ _
    obtain ⟨x', rfl⟩ := Nat.dvd_of_mod_eq_zero hx
    have e2 : p * (x' * x') = r * (y * y) := by
      apply Nat.eq_of_mul_eq_mul_left (show 0 < p by omega)
      calc p * (p * (x' * x')) = p * x' * (p * x') := by grind
        _ = p * r * (y * y) := e
        _ = p * (r * (y * y)) := by grind
    have hy' : y % p = 0 := by
      apply h2 (y % p) (Nat.mod_lt _ (by omega))
      have : r * (y % p * (y % p)) % p = r * (y * y) % p := by
        rw [Nat.mul_mod, ← Nat.mul_mod y y p, ← Nat.mul_mod]
      rw [this, ← e2]
      exact Nat.mul_mod_right _ _
    obtain ⟨y', rfl⟩ := Nat.dvd_of_mod_eq_zero hy'
    rcases Nat.eq_zero_or_pos y' with h0 | h0
    · subst h0; simp
    · have h3 : y' ≤ n := by
        have : 2 * y' ≤ p * y' := Nat.mul_le_mul_right _ hp
        omega
      have e3 : x' * x' = p * r * (y' * y') := by
        apply Nat.eq_of_mul_eq_mul_left (show 0 < p by omega)
        rw [e2]; grind
      have := ih x' y' h3 e3
      omega
def Root (r : Int) : Prop := r = 0 ∨ r = 2 ∨ r = 3 ∨ r = 5 ∨ r = 6 ∨ r = 7 ∨ r = 13
theorem no_sq {r x y : Int} (hr : Root r) (h0 : r ≠ 0) (e : x * x = r * (y * y)) : y = 0 := by
  have key : ∀ (p q : Nat), 1 < p → (∀ m, m < p → m * m % p = 0 → m = 0) → (∀ m, m < p → q * (m * m) % p = 0 → m = 0) → r = ((p * q : Nat) : Int) → y = 0 := by
    intro p q hp h1 h2 hr
    have e' : x.natAbs * x.natAbs = p * q * (y.natAbs * y.natAbs) := by
      have h := congrArg Int.natAbs e
      rw [Int.natAbs_mul, Int.natAbs_mul, Int.natAbs_mul, hr, Int.natAbs_natCast] at h
      exact h
    have := no_sq_nat p q hp h1 h2 _ _ _ (Nat.le_refl _) e'
    omega
  rcases hr with h | h | h | h | h | h | h
  · exact absurd h h0
  · exact key 2 1 (by decide) (by decide) (by decide) h
  · exact key 3 1 (by decide) (by decide) (by decide) h
  · exact key 5 1 (by decide) (by decide) (by decide) h
  · exact key 2 3 (by decide) (by decide) (by decide) h
  · exact key 7 1 (by decide) (by decide) (by decide) h
  · exact key 13 1 (by decide) (by decide) (by decide) h
/-! ### the sign of a + b * root -/
/-- what the law asks the sign of -/
def wor (r a b : Int) : Int := a * (if a < 0 then -a else a) + r * b * (if b < 0 then -b else b)
theorem wor_scale {r a b d : Int} (h : 0 < d) : wor r (d * a) (d * b) = d * d * wor r a b := by
  have e : ∀ z : Int, (if d * z < 0 then -(d * z) else d * z) = d * (if z < 0 then -z else z) := by
    intro z
    by_cases hz : z < 0
    · rw [if_pos hz, if_pos (Int.mul_neg_of_pos_of_neg h hz)]; grind
    · rw [if_neg hz, if_neg (by have := Int.mul_nonneg (show (0 : Int) ≤ d by omega) (show 0 ≤ z by omega); omega)]
  unfold wor
  rw [e, e]; grind
theorem wor_neg_scale {r a b d : Int} (h : 0 < d) : wor r (d * a) (d * b) < 0 ↔ wor r a b < 0 := by
  rw [wor_scale h]
  have hd : 0 < d * d := Int.mul_pos h h
  constructor
  · intro h1
    rcases Int.lt_or_le (wor r a b) 0 with h2 | h2
    · exact h2
    · have := Int.mul_nonneg (show 0 ≤ d * d by omega) h2; omega
  · intro h1; exact Int.mul_neg_of_pos_of_neg hd h1
/-! ### the whole part -/
/-- F is the whole part of b times the root -/
def FlR (r b F : Int) : Prop := ∃ s, Rt (r * b * b) s ∧ F = if 0 ≤ b then s else -s - 1
theorem floor_lo {r a b c F q : Int} (hF : FlR r b F) (hc : 0 < c) (hr : 0 ≤ r) (hq : q = (a + F) / c) : ¬ wor r (a - q * c) b < 0 := by
  obtain ⟨s, ⟨hs0, hs1, hs2⟩, rfl⟩ := hF
  have h1 := Int.mul_ediv_add_emod (a + if 0 ≤ b then s else -s - 1) c
  have h2 := Int.emod_nonneg (a + if 0 ≤ b then s else -s - 1) (show c ≠ 0 by omega)
  rw [← hq] at h1
  have e : c * q = q * c := Int.mul_comm _ _
  generalize hX : a - q * c = X
  unfold wor
  have eb : r * b * b = r * (b * b) := Int.mul_assoc _ _ _
  by_cases hb : 0 ≤ b
  · rw [if_pos hb] at h1 h2
    have hX1 : -s ≤ X := by omega
    rw [if_neg (show ¬ b < 0 by omega)]
    by_cases hx : X < 0
    · rw [if_pos hx]
      have : (-X) * (-X) ≤ s * s := sq_le (by omega) (by omega)
      have e3 : X * -X = -(-X * -X) := by grind
      omega
    · rw [if_neg hx]
      have := Int.mul_nonneg (show 0 ≤ X by omega) (show 0 ≤ X by omega)
      have : 0 ≤ s * s := Int.mul_nonneg hs0 hs0
      omega
  · rw [if_neg hb] at h1 h2
    have hX1 : s + 1 ≤ X := by omega
    rw [if_pos (show b < 0 by omega), if_neg (show ¬ X < 0 by omega)]
    have := sq_le (show 0 ≤ s + 1 by omega) hX1
    have e3 : r * b * -b = -(r * b * b) := by grind
    omega
theorem floor_hi {r a b c F q : Int} (hF : FlR r b F) (hc : 0 < c) (hR : Root r) (hb0 : r = 0 → b = 0) (hq : q = (a + F) / c) : wor r (a - (q + 1) * c) b < 0 := by
  have hr : 0 ≤ r := by rcases hR with h | h | h | h | h | h | h <;> omega
  obtain ⟨s, ⟨hs0, hs1, hs2⟩, rfl⟩ := hF
  have h1 := Int.mul_ediv_add_emod (a + if 0 ≤ b then s else -s - 1) c
  have h2 := Int.emod_lt_of_pos (a + if 0 ≤ b then s else -s - 1) hc
  rw [← hq] at h1
  have e : (q + 1) * c = c * q + c := by grind
  generalize hX : a - (q + 1) * c = X
  unfold wor
  by_cases hb : 0 ≤ b
  · rw [if_pos hb] at h1 h2
    have hX1 : X ≤ -s - 1 := by omega
    rw [if_neg (show ¬ b < 0 by omega), if_pos (show X < 0 by omega)]
    have : (s + 1) * (s + 1) ≤ (-X) * (-X) := sq_le (by omega) (by omega)
    have e3 : X * -X = -(-X * -X) := by grind
    omega
  · rw [if_neg hb] at h1 h2
    have hX1 : X ≤ s := by omega
    rw [if_pos (show b < 0 by omega)]
    have e3 : r * b * -b = -(r * b * b) := by grind
    have hr0 : r ≠ 0 := fun h => by have := hb0 h; omega
    have hlt : s * s < r * b * b := by
      rcases Int.lt_or_eq_of_le hs1 with h | h
      · exact h
      · have := no_sq hR hr0 (x := s) (y := b) (by rw [h]; exact Int.mul_assoc _ _ _)
        omega
    by_cases hx : X < 0
    · rw [if_pos hx]
      have e4 : X * -X = -(-X * -X) := by grind
      have : 0 < (-X) * (-X) := Int.mul_pos (by omega) (by omega)
      have : 0 ≤ s * s := Int.mul_nonneg hs0 hs0
      omega
    · rw [if_neg hx]
      have := sq_le (show 0 ≤ X by omega) hX1
      omega
end Num

end
section
set_option Elab.async false
set_option linter.all false
set_option maxRecDepth 100000
namespace L2
open PySem PyProof.Rows
/-! ### numbers as they stand in the heap -/
abbrev N3 := Int × Int × Int
def vN (x : N3) : List V := [.int x.1, .int x.2.1, .int x.2.2]
def lw (a b c : Int) : N3 := (a.fdiv (Num.dv a b c), b.fdiv (Num.dv a b c), c.fdiv (Num.dv a b c))
def addN (x y : N3) : N3 := lw (x.1 * y.2.2 + y.1 * x.2.2) (x.2.1 * y.2.2 + y.2.1 * x.2.2) (x.2.2 * y.2.2)
def subN (x y : N3) : N3 := lw (x.1 * y.2.2 - y.1 * x.2.2) (x.2.1 * y.2.2 - y.2.1 * x.2.2) (x.2.2 * y.2.2)
theorem subN_eq (x y : N3) : lw (x.1 * y.2.2 + -y.1 * x.2.2) (x.2.1 * y.2.2 + -y.2.1 * x.2.2) (x.2.2 * y.2.2) = subN x y := by
  unfold subN
  rw [Int.neg_mul, Int.neg_mul, ← Int.sub_eq_add_neg, ← Int.sub_eq_add_neg]
/-- a number of the root r, its parts below 2 ^ k -/
structure Ok (r : Int) (k : Nat) (x : N3) : Prop where
  pos : 0 < x.2.2
  low : Num.g3 x.1 x.2.1 x.2.2 = 1
  root : r = 0 → x.2.1 = 0
  za : Sz k x.1
  zb : Sz k x.2.1
  zc : Sz k x.2.2
theorem Ok.mono {r : Int} {k l : Nat} {x : N3} (h : Ok r k x) (hl : k ≤ l) : Ok r l x := ⟨h.pos, h.low, h.root, h.za.mono hl, h.zb.mono hl, h.zc.mono hl⟩
theorem g3_low {a b c : Int} (h : c ≠ 0) : Num.g3 (a.fdiv (Num.dv a b c)) (b.fdiv (Num.dv a b c)) (c.fdiv (Num.dv a b c)) = 1 := by
  have ea := congrArg Int.natAbs (Num.low_a a b c)
  have eb := congrArg Int.natAbs (Num.low_b a b c)
  have ec := congrArg Int.natAbs (Num.low_c a b c)
  rw [Int.natAbs_mul, Num.dv_abs] at ea eb ec
  have hg := Num.g3_pos (a := a) (b := b) h
  have e : Num.g3 a b c = Num.g3 a b c * Num.g3 (a.fdiv (Num.dv a b c)) (b.fdiv (Num.dv a b c)) (c.fdiv (Num.dv a b c)) := by
    show Nat.gcd (Nat.gcd a.natAbs b.natAbs) c.natAbs = _
    rw [← ea, ← eb, ← ec, Nat.gcd_mul_left, Nat.gcd_mul_left]
    rfl
  generalize Num.g3 (a.fdiv (Num.dv a b c)) (b.fdiv (Num.dv a b c)) (c.fdiv (Num.dv a b c)) = q at e
  generalize Num.g3 a b c = g at e hg
  have : g * 1 = g * q := by rw [Nat.mul_one]; exact e
  exact (Nat.eq_of_mul_eq_mul_left hg this).symm
theorem lw_ok {r : Int} {k : Nat} {a b c : Int} (hc : c ≠ 0) (hr : r = 0 → b = 0) (za : Sz k a) (zb : Sz k b) (zc : Sz k c) : Ok r (k + 1) (lw a b c) :=
  ⟨Num.low_pos hc, g3_low hc, fun h => by show b.fdiv _ = 0; rw [hr h, Int.zero_fdiv], Sz.fdiv za, Sz.fdiv zb, Sz.fdiv zc⟩
theorem addN_ok {r : Int} {k l : Nat} {x y : N3} (h : Ok r k x) (g : Ok r l y) : Ok r (k + l + 2) (addN x y) := by
  have e : max (k + l) (l + k) + 1 = k + l + 1 := by omega
  refine lw_ok (k := k + l + 1) (by have := Int.mul_pos h.pos g.pos; omega) (fun e => by rw [h.root e, g.root e]; simp) ?_ ?_ ((h.zc.mul g.zc).mono (by omega))
  · rw [← e]; exact (h.za.mul g.zc).add (g.za.mul h.zc)
  · rw [← e]; exact (h.zb.mul g.zc).add (g.zb.mul h.zc)
theorem subN_ok {r : Int} {k l : Nat} {x y : N3} (h : Ok r k x) (g : Ok r l y) : Ok r (k + l + 2) (subN x y) := by
  have e : max (k + l) (l + k) + 1 = k + l + 1 := by omega
  refine lw_ok (k := k + l + 1) (by have := Int.mul_pos h.pos g.pos; omega) (fun e => by rw [h.root e, g.root e]; simp) ?_ ?_ ((h.zc.mul g.zc).mono (by omega))
  · rw [← e]; exact (h.za.mul g.zc).sub (g.za.mul h.zc)
  · rw [← e]; exact (h.zb.mul g.zc).sub (g.zb.mul h.zc)
theorem lw_self {r : Int} {k : Nat} {x : N3} (h : Ok r k x) : lw x.1 x.2.1 x.2.2 = x := by
  have hp := h.pos
  have e : Num.dv x.1 x.2.1 x.2.2 = 1 := by
    unfold Num.dv
    rw [if_neg (by omega), h.low]
    rfl
  unfold lw
  rw [e, Int.fdiv_one, Int.fdiv_one, Int.fdiv_one]
def zeroN : N3 := (0, 0, 1)
theorem zero_ok (r : Int) (k : Nat) (hk : 1 ≤ k) : Ok r k zeroN := ⟨by decide, by decide, fun _ => rfl, Sz.zero, Sz.zero, (Sz.sm (k := 1) 1 (by decide)).mono hk⟩
/-! ### ends -/
def pre (xs : List N3) (i : Nat) : N3 := (xs.take i).foldl addN zeroN
theorem pre_zero (xs : List N3) : pre xs 0 = zeroN := rfl
theorem pre_succ {xs : List N3} {i : Nat} {x : N3} (h : xs[i]? = some x) : pre xs (i + 1) = addN (pre xs i) x := by
  unfold pre
  rw [List.take_succ, h]
  show (xs.take i ++ [x]).foldl addN zeroN = _
  rw [List.foldl_append]
  rfl
def ends (xs : List N3) (m : Nat) : List N3 := (List.range m).map (pre xs)
theorem ends_succ (xs : List N3) (m : Nat) : ends xs (m + 1) = ends xs m ++ [pre xs m] := by
  unfold ends
  rw [List.range_succ, List.map_append]
  rfl
theorem ends_len (xs : List N3) (m : Nat) : (ends xs m).length = m := by unfold ends; rw [List.length_map, List.length_range]
theorem ends_at {xs : List N3} {m i : Nat} (h : i < m) : (ends xs m)[i]? = some (pre xs i) := by
  unfold ends
  rw [List.getElem?_map, List.getElem?_range h]
  rfl
theorem pre_ok {r : Int} {xs : List N3} (h : ∀ x ∈ xs, Ok r 20 x) : ∀ i, i ≤ xs.length → Ok r (20 + 24 * i) (pre xs i)
  | 0, _ => zero_ok r _ (by decide)
  | i + 1, hi => by
    have hx : xs[i]? = some xs[i] := List.getElem?_eq_getElem (by omega)
    rw [pre_succ hx]
    exact (addN_ok (pre_ok h i (by omega)) (h _ (List.getElem_mem _))).mono (by omega)
theorem pre_okB {r : Int} {xs : List N3} (h : ∀ x ∈ xs, Ok r 20 x) (hl : xs.length ≤ 12) {i : Nat} (hi : i ≤ xs.length) : Ok r 400 (pre xs i) := (pre_ok h i hi).mono (by omega)
/-! ### numbers, rows of numbers in the heap -/
def NumAt (K : PySem.W.Frag) (H : Hp) (v : V) (x : N3) : Prop := ∃ a, v = .ref a ∧ SqT K H a (vN x)
theorem NumAt.mono {K : PySem.W.Frag} {H H' : Hp} {v : V} {x : N3} (h : NumAt K H v x) (s : Same H H') : NumAt K H' v x := let ⟨a, e, q⟩ := h; ⟨a, e, s.tup q⟩
theorem NumAt.monoX {K : PySem.W.Frag} {H H' : Hp} {p : Addr} {ys : List V} {v : V} {x : N3} (h : NumAt K H v x) (s : SameX p H H') (hp : H p = some (.lst ys)) : NumAt K H' v x := let ⟨a, e, q⟩ := h; ⟨a, e, s.tup hp q⟩
def Nums (K : PySem.W.Frag) (H : Hp) (vs : List V) (xs : List N3) : Prop := vs.length = xs.length ∧ ∀ (i : Nat) (v : V) (x : N3), vs[i]? = some v → xs[i]? = some x → NumAt K H v x
theorem Nums.mono {K : PySem.W.Frag} {H H' : Hp} {vs : List V} {xs : List N3} (h : Nums K H vs xs) (s : Same H H') : Nums K H' vs xs := ⟨h.1, fun i v x a b => (h.2 i v x a b).mono s⟩
theorem Nums.monoX {K : PySem.W.Frag} {H H' : Hp} {p : Addr} {ys vs : List V} {xs : List N3} (h : Nums K H vs xs) (s : SameX p H H') (hp : H p = some (.lst ys)) : Nums K H' vs xs := ⟨h.1, fun i v x a b => (h.2 i v x a b).monoX s hp⟩
theorem Nums.nil {K : PySem.W.Frag} {H : Hp} : Nums K H [] [] := ⟨rfl, fun i v x a => by simp at a⟩
theorem Nums.snoc {K : PySem.W.Frag} {H : Hp} {vs : List V} {xs : List N3} {v : V} {x : N3} (h : Nums K H vs xs) (g : NumAt K H v x) : Nums K H (vs ++ [v]) (xs ++ [x]) := by
  refine ⟨by rw [List.length_append, List.length_append, h.1]; rfl, fun i w y a b => ?_⟩
  by_cases hi : i < vs.length
  · rw [List.getElem?_append_left hi] at a
    rw [List.getElem?_append_left (by rw [← h.1]; exact hi)] at b
    exact h.2 i w y a b
  · rw [List.getElem?_append_right (by omega)] at a
    rw [List.getElem?_append_right (by rw [← h.1]; omega)] at b
    rw [h.1] at a
    have hz : i - xs.length = 0 := by
      rcases Nat.eq_zero_or_pos (i - xs.length) with z | z
      · exact z
      · rw [List.getElem?_singleton, if_neg (by omega)] at a; cases a
    rw [hz] at a b
    cases a
    cases b
    exact g
theorem Nums.get {K : PySem.W.Frag} {H : Hp} {vs : List V} {xs : List N3} {i : Nat} {x : N3} (h : Nums K H vs xs) (e : xs[i]? = some x) : ∃ v, vs[i]? = some v ∧ NumAt K H v x := by
  have hi : i < vs.length := by rw [h.1]; exact (List.getElem?_eq_some_iff.mp e).1
  exact ⟨vs[i], List.getElem?_eq_getElem hi, h.2 i _ _ (List.getElem?_eq_getElem hi) e⟩
theorem Nums.getV {K : PySem.W.Frag} {H : Hp} {vs : List V} {xs : List N3} {i : Nat} {v : V} (h : Nums K H vs xs) (e : vs[i]? = some v) : ∃ x, xs[i]? = some x ∧ NumAt K H v x := by
  have hi : i < xs.length := by rw [← h.1]; exact (List.getElem?_eq_some_iff.mp e).1
  exact ⟨xs[i], List.getElem?_eq_getElem hi, h.2 i _ _ e (List.getElem?_eq_getElem hi)⟩
theorem Nums.take {K : PySem.W.Frag} {H : Hp} {vs : List V} {xs : List N3} (h : Nums K H vs xs) (m : Nat) : Nums K H (vs.take m) (xs.take m) := by
  refine ⟨by rw [List.length_take, List.length_take, h.1], fun i v x a b => ?_⟩
  rw [List.getElem?_take] at a b
  split at a
  · rename_i hi
    rw [if_pos hi] at b
    exact h.2 i v x a b
  · cases a
/-- the last one left out -/
theorem cut_last (vs : List V) (h : 0 < vs.length) : cutV vs none (some (-1)) = vs.take (vs.length - 1) := by
  have e : HT.sIx vs.length vs.length (some (-1)) = vs.length - 1 := by
    show (if (-1 : Int) < 0 then (-1 + (vs.length : Int)).toNat else min (-1 : Int).toNat vs.length) = vs.length - 1
    rw [if_pos (by decide)]; omega
  unfold cutV
  rw [e, HT.sIx_none, List.drop_zero, Nat.sub_zero]
theorem at_last {vs : List V} {v : V} (h : vs[vs.length - 1]? = some v) : atI vs (-1) = some v := by
  have hl : 0 < vs.length := by
    rcases Nat.eq_zero_or_pos vs.length with z | z
    · rw [List.length_eq_zero_iff.mp z] at h; cases h
    · exact z
  obtain ⟨hi, e⟩ := List.getElem?_eq_some_iff.mp h
  have e2 : vs = vs.dropLast ++ [v] := by
    have := List.dropLast_concat_getLast (l := vs) (by intro z; rw [z] at hl; exact Nat.lt_irrefl _ hl)
    rw [List.getLast_eq_getElem, e] at this
    exact this.symm
  rw [e2]
  exact atI_last _ _
/-! ### as data -/
def dN (x : N3) : PyData := .tuple [.int x.1, .int x.2.1, .int x.2.2]
theorem NumAt.dp {K : PySem.W.Frag} {H : Hp} {v : V} {x : N3} (h : NumAt K H v x) : Dp K H v (dN x) := by
  obtain ⟨a, rfl, q⟩ := h
  exact .tup q (.cons (.int _) (.cons (.int _) (.cons (.int _) .nil)))
theorem dp_all {K : PySem.W.Frag} {H : Hp} : ∀ {vs : List V} {ds : List PyData}, vs.length = ds.length → (∀ (i : Nat) (v : V) (d : PyData), vs[i]? = some v → ds[i]? = some d → Dp K H v d) → DpAll K H vs ds
  | [], [], _, _ => .nil
  | [], _ :: _, h, _ => by cases h
  | _ :: _, [], h, _ => by cases h
  | v :: vs, d :: ds, h, g => .cons (g 0 v d rfl rfl) (dp_all (Nat.succ.inj h) fun i w e a b => g (i + 1) w e (by simpa using a) (by simpa using b))
theorem Nums.dp {K : PySem.W.Frag} {H : Hp} {vs : List V} {xs : List N3} (h : Nums K H vs xs) : DpAll K H vs (xs.map dN) := dp_all (by rw [List.length_map]; exact h.1) fun i v d a b => by
  rw [List.getElem?_map] at b
  obtain ⟨x, hx, rfl⟩ := Option.map_eq_some_iff.mp b
  exact (h.2 i v x a hx).dp
theorem shaped_dN (x : N3) : SeqAt.shaped (dN x) = true := by rfl
theorem lay_all {ds : List PyData} : (∀ d ∈ ds, d.canLay0 = true) → PyData.canLayAll0 ds = true := by
  intro h
  induction ds with
  | nil => rfl
  | cons d r ih =>
    unfold PyData.canLayAll0
    rw [h d (List.mem_cons_self ..), ih fun e m => h e (List.mem_cons_of_mem _ m)]
    rfl
theorem depth_all {k : Nat} : ∀ {ds : List PyData}, (∀ d ∈ ds, d.depth ≤ k) → PyData.depthAll ds ≤ k
  | [], _ => by unfold PyData.depthAll; exact Nat.zero_le _
  | d :: r, h => by
    unfold PyData.depthAll
    exact Nat.max_le.mpr ⟨h d (List.mem_cons_self ..), depth_all fun e m => h e (List.mem_cons_of_mem _ m)⟩
theorem shaped_list {ds : List PyData} (h : ∀ d ∈ ds, d.canLay0 = true ∧ d.depth ≤ 8) : SeqAt.shaped (.list ds) = true := by
  unfold SeqAt.shaped
  have h1 : PyData.canLay0 (.list ds) = true := by unfold PyData.canLay0; exact lay_all fun d m => (h d m).1
  have h2 : PyData.depth (.list ds) ≤ 64 := by
    unfold PyData.depth
    have := depth_all (k := 8) fun d m => (h d m).2
    omega
  rw [h1, decide_eq_true h2]
  rfl
theorem lay_dN (x : N3) : (dN x).canLay0 = true ∧ (dN x).depth ≤ 8 := ⟨rfl, by show 1 ≤ 8; decide⟩
theorem shaped_nums (xs : List N3) : SeqAt.shaped (.list (xs.map dN)) = true := shaped_list fun d m => by
  obtain ⟨x, _, rfl⟩ := List.mem_map.mp m
  exact lay_dN x
def dP (i : Int) (x : N3) : PyData := .tuple [.int i, dN x]
theorem lay_dP (i : Int) (x : N3) : (dP i x).canLay0 = true ∧ (dP i x).depth ≤ 8 := ⟨rfl, by show 2 ≤ 8; decide⟩
theorem eqv_self {d : PyData} (h : SeqAt.shaped d = true) : PyData.eqv d d = true := SeqAt.eqv_refl d (SeqAt.canLay_of_shaped h)
/-! ### changes -/
def laidL (xs : List N3) (os : List Nat) : List N3 := os.map fun i => xs.getD i zeroN
theorem laidL_ok {r : Int} {k : Nat} {xs : List N3} {os : List Nat} (h : ∀ x ∈ xs, Ok r k x) (hk : 1 ≤ k) : ∀ x ∈ laidL xs os, Ok r k x := fun x m => by
  obtain ⟨i, _, rfl⟩ := List.mem_map.mp m
  by_cases hi : i < xs.length
  · rw [List.getD_eq_getElem?_getD, List.getElem?_eq_getElem hi]
    exact h _ (List.getElem_mem _)
  · rw [List.getD_eq_getElem?_getD, List.getElem?_eq_none (by omega)]
    exact zero_ok r k hk
abbrev vO (os : List Nat) : List V := os.map fun (i : Nat) => V.int (i : Int)
/-- a change of the root r, its longs xs, its order os, stands at c -/
structure ChAt (K : PySem.W.Frag) (H : Hp) (c : Addr) (r : Int) (xs : List N3) (os : List Nat) : Prop where
  at_ : ∃ (L O : Addr) (vs : List V), H c = some (.tup [.int r, .ref L, .ref O]) ∧ H L = some (.tup vs) ∧ H O = some (.tup (vO os)) ∧ Nums K H vs xs
  ok : ∀ x ∈ xs, Ok r 20 x
  len : os.length = xs.length
  pos : 0 < xs.length
  few : xs.length ≤ 12
  perm : os.Perm (List.range xs.length)
theorem ChAt.mono {K : PySem.W.Frag} {H H' : Hp} {c : Addr} {r : Int} {xs : List N3} {os : List Nat} (h : ChAt K H c r xs os) (s : Same H H') : ChAt K H' c r xs os := by
  obtain ⟨⟨L, O, vs, h1, h2, h3, h4⟩, a, b, d, e, f⟩ := h
  exact ⟨⟨L, O, vs, s _ _ h1, s _ _ h2, s _ _ h3, h4.mono s⟩, a, b, d, e, f⟩
theorem ChAt.nd {K : PySem.W.Frag} {H : Hp} {c : Addr} {r : Int} {xs : List N3} {os : List Nat} (h : ChAt K H c r xs os) : os.Nodup := h.perm.nodup_iff.mpr List.nodup_range
theorem ChAt.lt {K : PySem.W.Frag} {H : Hp} {c : Addr} {r : Int} {xs : List N3} {os : List Nat} (h : ChAt K H c r xs os) {i : Nat} (m : i ∈ os) : i < xs.length := List.mem_range.mp (h.perm.mem_iff.mp m)
theorem laidL_len (xs : List N3) (os : List Nat) : (laidL xs os).length = os.length := by unfold laidL; rw [List.length_map]
theorem ends_take (xs : List N3) (m : Nat) : (ends xs (m + 1)).take m = ends xs m := by
  rw [ends_succ]
  have := ends_len xs m
  rw [List.take_append_of_le_length (by omega), List.take_of_length_le (by omega)]
theorem ends_ok {r : Int} {xs : List N3} (h : ∀ x ∈ xs, Ok r 20 x) (hl : xs.length ≤ 12) {m : Nat} (hm : m ≤ xs.length + 1) : ∀ x ∈ ends xs m, Ok r 400 x := fun x hx => by
  unfold ends at hx
  obtain ⟨i, hi, rfl⟩ := List.mem_map.mp hx
  exact pre_okB h hl (by have := List.mem_range.mp hi; omega)
def ZeroK (K : PySem.W.Frag) (a : Addr) : Prop := ∀ H, SqT K H a (vN zeroN)
theorem merge_out : ∀ {kvs acc : List (Key × V)} {k : Key}, k ∉ kvs.map (·.1) → valV (mergeK acc kvs) k = valV acc k
  | [], _, _, _ => rfl
  | p :: r, acc, k, h => by
    have h' : k ≠ p.1 ∧ k ∉ r.map (·.1) := by simpa using h
    show valV (mergeK (putK acc p.1 p.2) r) k = _
    rw [merge_out h'.2, valV_put, if_neg h'.1]
theorem merge_val : ∀ {kvs acc : List (Key × V)} {k : Key} {v : V}, (kvs.map (·.1)).Nodup → (k, v) ∈ kvs → valV (mergeK acc kvs) k = some v
  | [], _, _, _, _, m => by simp at m
  | p :: r, acc, k, v, nd, m => by
    have nd' : p.1 ∉ r.map (·.1) ∧ (r.map (·.1)).Nodup := List.nodup_cons.mp nd
    show valV (mergeK (putK acc p.1 p.2) r) k = _
    rcases List.mem_cons.mp m with e | m
    · subst e
      rw [merge_out nd'.1, valV_put, if_pos rfl]
    · exact merge_val nd'.2 m
theorem paired_of {α β : Type} {R : α → β → Prop} : ∀ {l : List α} {m : List β}, l.length = m.length → (∀ (i : Nat) (a : α) (b : β), l[i]? = some a → m[i]? = some b → R a b) → Paired R l m
  | [], [], _, _ => .nil
  | [], _ :: _, h, _ => by cases h
  | _ :: _, [], h, _ => by cases h
  | a :: l, b :: m, h, g => .cons (g 0 a b rfl rfl) (paired_of (Nat.succ.inj h) fun i a b x y => g (i + 1) a b (by simpa using x) (by simpa using y))
theorem nodup_map {α β : Type} {f : α → β} (hf : ∀ a b, f a = f b → a = b) : ∀ {l : List α}, l.Nodup → (l.map f).Nodup
  | [], _ => List.nodup_nil
  | a :: r, h => by
    have h' := List.nodup_cons.mp h
    refine List.nodup_cons.mpr ⟨fun m => ?_, nodup_map hf h'.2⟩
    obtain ⟨b, hb, e⟩ := List.mem_map.mp m
    exact h'.1 (hf _ _ e ▸ hb)
theorem flat_vO (os : List Nat) : (vO os).all flatV = true := by
  rw [List.all_eq_true]
  intro v m
  obtain ⟨i, _, rfl⟩ := List.mem_map.mp m
  rfl
theorem eqV_int (i : Int) : eqV (.int i) (.int i) = true := by simp [eqV]
theorem eqV_ne {i j : Int} (h : i ≠ j) : eqV (.int i) (.int j) = false := by simp [eqV]; exact h
theorem seq_ix {k n : Nat} (h : k < n) : seqIndex? (k : Int) n = some k := by
  unfold seqIndex?
  simp
  omega
theorem erase_map : ∀ (ls : List Nat) (k : Nat), (vO ls).eraseIdx k = vO (ls.eraseIdx k)
  | [], k => by cases k <;> rfl
  | a :: r, 0 => rfl
  | a :: r, k + 1 => by
    show _ :: (vO r).eraseIdx k = _ :: vO (r.eraseIdx k)
    rw [erase_map r k]
theorem erase_perm : ∀ {ls : List Nat} {k : Nat} (h : k < ls.length), ([ls[k]] ++ ls.eraseIdx k).Perm ls
  | [], _, h => absurd h (Nat.not_lt_zero _)
  | a :: r, 0, _ => List.Perm.refl _
  | a :: r, k + 1, h => by
    have h' : k < r.length := Nat.lt_of_succ_lt_succ h
    exact (List.Perm.swap a r[k] (r.eraseIdx k)).trans ((erase_perm h').cons a)
/-! ### pairs of a whole number and a number -/
def PrAt (K : PySem.W.Frag) (H : Hp) (v : V) (p : Int × N3) : Prop := ∃ T u, v = .ref T ∧ H T = some (.tup [.int p.1, u]) ∧ NumAt K H u p.2
def Prs (K : PySem.W.Frag) (H : Hp) (vs : List V) (ps : List (Int × N3)) : Prop := vs.length = ps.length ∧ ∀ (i : Nat) (v : V) (p : Int × N3), vs[i]? = some v → ps[i]? = some p → PrAt K H v p
theorem PrAt.mono {K : PySem.W.Frag} {H H' : Hp} {v : V} {p : Int × N3} (h : PrAt K H v p) (s : Same H H') : PrAt K H' v p := let ⟨T, u, e, a, b⟩ := h; ⟨T, u, e, s _ _ a, b.mono s⟩
theorem PrAt.monoX {K : PySem.W.Frag} {H H' : Hp} {q : Addr} {ys : List V} {v : V} {p : Int × N3} (h : PrAt K H v p) (s : SameX q H H') (hp : H q = some (.lst ys)) : PrAt K H' v p :=
  let ⟨T, u, e, a, b⟩ := h; ⟨T, u, e, s _ _ a (ne_of a hp (by intro z; cases z)), b.monoX s hp⟩
theorem PrAt.dp {K : PySem.W.Frag} {H : Hp} {v : V} {p : Int × N3} (h : PrAt K H v p) : Dp K H v (dP p.1 p.2) := by
  obtain ⟨T, u, rfl, a, b⟩ := h
  exact .tup (SqT.of a) (.cons (.int _) (.cons b.dp .nil))
theorem Prs.mono {K : PySem.W.Frag} {H H' : Hp} {vs : List V} {ps : List (Int × N3)} (h : Prs K H vs ps) (s : Same H H') : Prs K H' vs ps := ⟨h.1, fun i v p a b => (h.2 i v p a b).mono s⟩
theorem Prs.monoX {K : PySem.W.Frag} {H H' : Hp} {q : Addr} {ys vs : List V} {ps : List (Int × N3)} (h : Prs K H vs ps) (s : SameX q H H') (hp : H q = some (.lst ys)) : Prs K H' vs ps := ⟨h.1, fun i v p a b => (h.2 i v p a b).monoX s hp⟩
theorem Prs.nil {K : PySem.W.Frag} {H : Hp} : Prs K H [] [] := ⟨rfl, fun i v x a => by simp at a⟩
theorem Prs.snoc {K : PySem.W.Frag} {H : Hp} {vs : List V} {xs : List (Int × N3)} {v : V} {x : Int × N3} (h : Prs K H vs xs) (g : PrAt K H v x) : Prs K H (vs ++ [v]) (xs ++ [x]) := by
  refine ⟨by rw [List.length_append, List.length_append, h.1]; rfl, fun i w y a b => ?_⟩
  by_cases hi : i < vs.length
  · rw [List.getElem?_append_left hi] at a
    rw [List.getElem?_append_left (by rw [← h.1]; exact hi)] at b
    exact h.2 i w y a b
  · rw [List.getElem?_append_right (by omega)] at a
    rw [List.getElem?_append_right (by rw [← h.1]; omega)] at b
    rw [h.1] at a
    have hz : i - xs.length = 0 := by
      rcases Nat.eq_zero_or_pos (i - xs.length) with z | z
      · exact z
      · rw [List.getElem?_singleton, if_neg (by omega)] at a; cases a
    rw [hz] at a b
    cases a
    cases b
    exact g
theorem Prs.getV {K : PySem.W.Frag} {H : Hp} {vs : List V} {xs : List (Int × N3)} {i : Nat} {v : V} (h : Prs K H vs xs) (e : vs[i]? = some v) : ∃ x, xs[i]? = some x ∧ PrAt K H v x := by
  have hi : i < xs.length := by rw [← h.1]; exact (List.getElem?_eq_some_iff.mp e).1
  exact ⟨xs[i], List.getElem?_eq_getElem hi, h.2 i _ _ e (List.getElem?_eq_getElem hi)⟩
theorem Prs.dp {K : PySem.W.Frag} {H : Hp} {vs : List V} {ps : List (Int × N3)} (h : Prs K H vs ps) : DpAll K H vs (ps.map fun p => dP p.1 p.2) := dp_all (by rw [List.length_map]; exact h.1) fun i v d a b => by
  rw [List.getElem?_map] at b
  obtain ⟨x, hx, rfl⟩ := Option.map_eq_some_iff.mp b
  exact (h.2 i v x a hx).dp
theorem shaped_prs (ps : List (Int × N3)) : SeqAt.shaped (.list (ps.map fun p => dP p.1 p.2)) = true := shaped_list fun d m => by
  obtain ⟨x, _, rfl⟩ := List.mem_map.mp m
  exact lay_dP _ _
/-- the pieces as they lie -/
def laidP (xs : List N3) (os : List Nat) : List (Int × N3) := os.map fun (o : Nat) => ((o : Int), pre (laidL xs os) (os.idxOf o))
theorem laidP_at {xs : List N3} {os : List Nat} (nd : os.Nodup) {i : Nat} {o : Nat} (h : os[i]? = some o) : (laidP xs os)[i]? = some ((o : Int), pre (laidL xs os) i) := by
  obtain ⟨hi, e⟩ := List.getElem?_eq_some_iff.mp h
  have ei : os.idxOf o = i := by
    have m : o ∈ os := List.mem_of_getElem? h
    have hj : os.idxOf o < os.length := List.idxOf_lt_length_of_mem m
    exact nd_ix nd (by rw [List.getElem?_eq_getElem hj, List.getElem_idxOf hj]) h
  unfold laidP
  rw [List.getElem?_map, h]
  show some ((o : Int), pre (laidL xs os) (os.idxOf o)) = _
  rw [ei]
theorem laidP_len (xs : List N3) (os : List Nat) : (laidP xs os).length = os.length := by unfold laidP; rw [List.length_map]
end L2

end
section
namespace Num
/-! ### the order of a + b * root: signs by norms -/
def nrm (r a b : Int) : Int := a * a - r * (b * b)
/-- a + b * root is above 0 -/
def Pos (r a b : Int) : Prop := (0 < nrm r a b ∧ 0 < a) ∨ (nrm r a b < 0 ∧ 0 < b)
/-- no square but 0 is r times a square -/
def Irr (r : Int) : Prop := 0 ≤ r ∧ ∀ x y : Int, r ≠ 0 → x * x = r * (y * y) → y = 0
def Val (r b : Int) : Prop := r = 0 → b = 0
theorem Root.irr {r : Int} (h : Root r) : Irr r := ⟨by rcases h with h | h | h | h | h | h | h <;> omega, fun _ _ h0 e => no_sq h h0 e⟩
theorem sq_nn (x : Int) : 0 ≤ x * x := by
  rcases Int.le_total 0 x with h | h
  · exact Int.mul_nonneg h h
  · exact Int.mul_nonneg_of_nonpos_of_nonpos h h
theorem sq_zero {x : Int} (h : x * x = 0) : x = 0 := by
  rcases Int.mul_eq_zero.mp h with h | h <;> exact h
theorem nrm_zero {r a b : Int} (I : Irr r) (v : Val r b) (h : nrm r a b = 0) : a = 0 ∧ b = 0 := by
  unfold nrm at h
  have hb : b = 0 := by
    by_cases h0 : r = 0
    · exact v h0
    · exact I.2 a b h0 (by omega)
  subst hb
  exact ⟨sq_zero (by simpa using h), rfl⟩
theorem nrm_neg (r a b : Int) : nrm r (-a) (-b) = nrm r a b := by unfold nrm; grind
theorem nrm_mul (r a b c d : Int) : nrm r (a * c + r * (b * d)) (a * d + b * c) = nrm r a b * nrm r c d := by unfold nrm; grind
theorem Pos.not_zero {r a b : Int} (h : Pos r a b) : ¬ (a = 0 ∧ b = 0) := by
  rintro ⟨rfl, rfl⟩
  rcases h with ⟨_, h⟩ | ⟨_, h⟩ <;> omega
theorem Pos.not_neg {r a b : Int} (h : Pos r a b) : ¬ Pos r (-a) (-b) := by
  intro g
  unfold Pos at h g
  rw [nrm_neg] at g
  omega
theorem tri {r a b : Int} (I : Irr r) (v : Val r b) : (a = 0 ∧ b = 0) ∨ Pos r a b ∨ Pos r (-a) (-b) := by
  rcases Int.lt_trichotomy (nrm r a b) 0 with h | h | h
  · right
    have hb : b ≠ 0 := by
      rintro rfl
      have := sq_nn a
      unfold nrm at h
      simp at h
      omega
    rcases Int.lt_or_le 0 b with g | g
    · exact .inl (.inr ⟨h, g⟩)
    · exact .inr (.inr ⟨by rw [nrm_neg]; exact h, by omega⟩)
  · exact .inl (nrm_zero I v h)
  · right
    have ha : a ≠ 0 := by
      rintro rfl
      have := Int.mul_nonneg I.1 (sq_nn b)
      unfold nrm at h
      omega
    rcases Int.lt_or_le 0 a with g | g
    · exact .inl (.inl ⟨h, g⟩)
    · exact .inr (.inl ⟨by rw [nrm_neg]; exact h, by omega⟩)
/-- |y| < x from the squares -/
theorem abs_lt_sq {x y : Int} (hx : 0 ≤ x) (h : y * y < x * x) : -x < y ∧ y < x := by
  refine ⟨?_, lt_of_sq hx h⟩
  have : -y < x := lt_of_sq hx (by rw [Int.neg_mul_neg]; exact h)
  omega
theorem mul_lt_mul' {a b c d : Int} (ha : 0 ≤ a) (hc : 0 ≤ c) (h : a < b) (g : c < d) : a * c < b * d := by
  have h1 : a * c ≤ a * d := Int.mul_le_mul_of_nonneg_left (Int.le_of_lt g) ha
  have h2 : a * d < b * d := Int.mul_lt_mul_of_pos_right h (by omega)
  omega
/-- both norms above 0: a * c is above r * |b * d| -/
theorem pp {r a b c d : Int} (hr : 0 ≤ r) (h : 0 < nrm r a b) (ha : 0 < a) (g : 0 < nrm r c d) (hc : 0 < c) : -(a * c) < r * (b * d) ∧ r * (b * d) < a * c := by
  unfold nrm at h g
  refine abs_lt_sq (Int.le_of_lt (Int.mul_pos ha hc)) ?_
  have h1 := mul_lt_mul' (Int.mul_nonneg hr (sq_nn b)) (Int.mul_nonneg hr (sq_nn d)) (show r * (b * b) < a * a by omega) (show r * (d * d) < c * c by omega)
  have e1 : r * (b * d) * (r * (b * d)) = r * (b * b) * (r * (d * d)) := by grind
  have e2 : a * c * (a * c) = a * a * (c * c) := by grind
  omega
/-- both below: r * b * d is above |a * c| -/
theorem nn {r a b c d : Int} (h : nrm r a b < 0) (hb : 0 < b) (g : nrm r c d < 0) (hd : 0 < d) (hr : 0 ≤ r) : -(r * (b * d)) < a * c ∧ a * c < r * (b * d) := by
  unfold nrm at h g
  refine abs_lt_sq (Int.mul_nonneg hr (Int.le_of_lt (Int.mul_pos hb hd))) ?_
  have h1 := mul_lt_mul' (sq_nn a) (sq_nn c) (show a * a < r * (b * b) by omega) (show c * c < r * (d * d) by omega)
  have e1 : r * (b * d) * (r * (b * d)) = r * (b * b) * (r * (d * d)) := by grind
  have e2 : a * c * (a * c) = a * a * (c * c) := by grind
  omega
/-- one above, the other below: a * d is above |b * c| -/
theorem pn {r a b c d : Int} (hr : 0 ≤ r) (h : 0 < nrm r a b) (ha : 0 < a) (g : nrm r c d < 0) (hd : 0 < d) : -(a * d) < b * c ∧ b * c < a * d := by
  unfold nrm at h g
  have hr0 : 0 < r := by
    rcases Int.lt_or_le 0 r with q | q
    · exact q
    · have : r = 0 := by omega
      subst this
      have := sq_nn c
      simp at g
      omega
  refine abs_lt_sq (Int.le_of_lt (Int.mul_pos ha hd)) ?_
  have h1 := mul_lt_mul' (Int.mul_nonneg hr (sq_nn b)) (sq_nn c) (show r * (b * b) < a * a by omega) (show c * c < r * (d * d) by omega)
  have e1 : r * (b * b) * (c * c) = r * (b * c * (b * c)) := by grind
  have e2 : a * a * (r * (d * d)) = r * (a * d * (a * d)) := by grind
  rw [e1, e2] at h1
  exact Int.lt_of_mul_lt_mul_left h1 hr
theorem Pos.mul {r a b c d : Int} (hr : 0 ≤ r) (h : Pos r a b) (g : Pos r c d) : Pos r (a * c + r * (b * d)) (a * d + b * c) := by
  unfold Pos
  rw [nrm_mul]
  rcases h with ⟨h1, h2⟩ | ⟨h1, h2⟩
  · rcases g with ⟨g1, g2⟩ | ⟨g1, g2⟩
    · exact .inl ⟨Int.mul_pos h1 g1, by have := pp hr h1 h2 g1 g2; omega⟩
    · exact .inr ⟨Int.mul_neg_of_pos_of_neg h1 g1, by have := pn hr h1 h2 g1 g2; omega⟩
  · rcases g with ⟨g1, g2⟩ | ⟨g1, g2⟩
    · refine .inr ⟨Int.mul_neg_of_neg_of_pos h1 g1, ?_⟩
      have := pn hr g1 g2 h1 h2
      have e1 : d * a = a * d := Int.mul_comm _ _
      have e2 : c * b = b * c := Int.mul_comm _ _
      omega
    · exact .inl ⟨Int.mul_pos_of_neg_of_neg h1 g1, by have := nn h1 h2 g1 g2 hr; omega⟩
theorem nrm_add (r a b c d : Int) : nrm r (a + c) (b + d) = nrm r a b + nrm r c d + 2 * (a * c - r * (b * d)) := by unfold nrm; grind
theorem add_pp {r a b c d : Int} (hr : 0 ≤ r) (h : 0 < nrm r a b ∧ 0 < a) (g : 0 < nrm r c d ∧ 0 < c) : 0 < nrm r (a + c) (b + d) ∧ 0 < a + c := by
  have := pp hr h.1 h.2 g.1 g.2
  rw [nrm_add]
  omega
theorem add_nn {r a b c d : Int} (hr : 0 ≤ r) (h : nrm r a b < 0 ∧ 0 < b) (g : nrm r c d < 0 ∧ 0 < d) : nrm r (a + c) (b + d) < 0 ∧ 0 < b + d := by
  have := nn h.1 h.2 g.1 g.2 hr
  rw [nrm_add]
  omega
theorem add_pn {r a b c d : Int} (I : Irr r) (vb : Val r b) (vd : Val r d) (h : 0 < nrm r a b ∧ 0 < a) (g : nrm r c d < 0 ∧ 0 < d) : Pos r (a + c) (b + d) := by
  rcases Int.lt_trichotomy (nrm r (a + c) (b + d)) 0 with q | q | q
  · refine .inr ⟨q, ?_⟩
    rcases Int.lt_trichotomy 0 (b + d) with z | z | z
    · exact z
    · exfalso
      rw [← z] at q
      have := sq_nn (a + c)
      unfold nrm at q
      simp at q
      omega
    · exfalso
      have := add_nn I.1 g (c := -(a + c)) (d := -(b + d)) ⟨by rw [nrm_neg]; exact q, by omega⟩
      have e1 : c + -(a + c) = -a := by omega
      have e2 : d + -(b + d) = -b := by omega
      rw [e1, e2, nrm_neg] at this
      omega
  · exfalso
    have ⟨z1, z2⟩ := nrm_zero I (show Val r (b + d) from fun e => by rw [vb e, vd e]; rfl) q
    have e1 : c = -a := by omega
    have e2 : d = -b := by omega
    rw [e1, e2, nrm_neg] at g
    omega
  · refine .inl ⟨q, ?_⟩
    rcases Int.lt_trichotomy 0 (a + c) with z | z | z
    · exact z
    · exfalso
      rw [← z] at q
      have := Int.mul_nonneg I.1 (sq_nn (b + d))
      unfold nrm at q
      omega
    · exfalso
      have := add_pp I.1 h (c := -(a + c)) (d := -(b + d)) ⟨by rw [nrm_neg]; exact q, by omega⟩
      have e1 : a + -(a + c) = -c := by omega
      have e2 : b + -(b + d) = -d := by omega
      rw [e1, e2, nrm_neg] at this
      omega
theorem Pos.add {r a b c d : Int} (I : Irr r) (vb : Val r b) (vd : Val r d) (h : Pos r a b) (g : Pos r c d) : Pos r (a + c) (b + d) := by
  rcases h with h | h
  · rcases g with g | g
    · exact .inl (add_pp I.1 h g)
    · exact add_pn I vb vd h g
  · rcases g with g | g
    · have := add_pn I vd vb g h
      rw [Int.add_comm a c, Int.add_comm b d]
      exact this
    · exact .inr (add_nn I.1 h g)
theorem Pos.nat {r n : Int} (h : 0 < n) : Pos r n 0 := .inl ⟨by unfold nrm; have := Int.mul_pos h h; simp; omega, h⟩
theorem Pos.scale {r a b n : Int} (hr : 0 ≤ r) (h : 0 < n) (g : Pos r a b) : Pos r (n * a) (n * b) := by
  have := Pos.mul hr (Pos.nat (r := r) h) g
  simpa using this
theorem Pos.unscale {r a b n : Int} (I : Irr r) (v : Val r b) (h : 0 < n) (g : Pos r (n * a) (n * b)) : Pos r a b := by
  rcases tri (a := a) I v with ⟨rfl, rfl⟩ | q | q
  · exact absurd ⟨by simp, by simp⟩ g.not_zero
  · exact q
  · have := Pos.scale I.1 h q
    rw [Int.mul_neg, Int.mul_neg] at this
    exact absurd this g.not_neg
/-- what stands by a factor above 0 -/
theorem Pos.of_mul {r a b c d : Int} (I : Irr r) (va : Val r b) (h : Pos r c d) (g : Pos r (a * c + r * (b * d)) (a * d + b * c)) : Pos r a b := by
  rcases tri (a := a) I va with ⟨rfl, rfl⟩ | q | q
  · exact absurd ⟨by simp, by simp⟩ g.not_zero
  · exact q
  · have := Pos.mul I.1 q h
    have e1 : -a * c + r * (-b * d) = -(a * c + r * (b * d)) := by grind
    have e2 : -a * d + -b * c = -(a * d + b * c) := by grind
    rw [e1, e2] at this
    exact absurd this g.not_neg
/-! ### the law's sign, the program's test -/
theorem wor_pos {r a b : Int} (I : Irr r) (v : Val r b) (h : Pos r a b) : 0 < wor r a b := by
  unfold wor
  have hr := I.1
  have hbb := Int.mul_nonneg hr (sq_nn b)
  have eb : r * b * b = r * (b * b) := Int.mul_assoc _ _ _
  have en : r * b * -b = -(r * (b * b)) := by grind
  have ea : a * -a = -(a * a) := by grind
  rcases h with ⟨h1, h2⟩ | ⟨h1, h2⟩
  · unfold nrm at h1
    rw [if_neg (by omega)]
    split
    · rw [en]; omega
    · rw [eb]; have := Int.mul_pos h2 h2; omega
  · unfold nrm at h1
    rw [if_neg (show ¬ b < 0 by omega), eb]
    split
    · rw [ea]; omega
    · have := sq_nn a; omega
theorem wor_neg_eq (r a b : Int) : wor r (-a) (-b) = -wor r a b := by
  unfold wor
  have e : ∀ z : Int, (if -z < 0 then - -z else -z) = (if z < 0 then -z else z) := by
    intro z
    by_cases h : z < 0
    · rw [if_neg (by omega), if_pos h]
    · by_cases h2 : z = 0
      · subst h2; simp
      · rw [if_pos (by omega), if_neg h]; omega
  rw [e, e]; grind
theorem wor_lt_iff {r a b : Int} (I : Irr r) (v : Val r b) : wor r a b < 0 ↔ Pos r (-a) (-b) := by
  constructor
  · intro h
    rcases tri (a := a) I v with ⟨rfl, rfl⟩ | q | q
    · unfold wor at h; simp at h
    · have := wor_pos I v q; omega
    · exact q
  · intro h
    have := wor_pos I (fun e => by rw [v e]; rfl) h
    rw [wor_neg_eq] at this
    omega
/-- is_below_zero, as the program asks it -/
def below (r a b : Int) : Bool := if a < 0 then decide (b ≤ 0) || decide (r * b * b < a * a) else decide (b < 0) && decide (a * a < r * b * b)
theorem below_iff {r a b : Int} (I : Irr r) (v : Val r b) : below r a b = true ↔ Pos r (-a) (-b) := by
  have eb : r * b * b = r * (b * b) := Int.mul_assoc _ _ _
  have hbb := Int.mul_nonneg I.1 (sq_nn b)
  unfold below Pos
  rw [nrm_neg, eb]
  unfold nrm
  by_cases ha : a < 0
  · rw [if_pos ha]
    simp only [Bool.or_eq_true, decide_eq_true_eq]
    constructor
    · rintro (h | h)
      · rcases Int.lt_trichotomy (a * a - r * (b * b)) 0 with q | q | q
        · have hb : b ≠ 0 := by
            rintro rfl
            have := Int.mul_pos_of_neg_of_neg ha ha
            simp at q
            omega
          exact .inr ⟨q, by omega⟩
        · have := nrm_zero I v (show nrm r a b = 0 from q)
          omega
        · exact .inl ⟨q, by omega⟩
      · exact .inl ⟨by omega, by omega⟩
    · rintro (⟨h1, _⟩ | ⟨_, h2⟩)
      · exact .inr (by omega)
      · exact .inl (by omega)
  · rw [if_neg ha]
    simp only [Bool.and_eq_true, decide_eq_true_eq]
    constructor
    · rintro ⟨h1, h2⟩
      exact .inr ⟨by omega, by omega⟩
    · rintro (⟨_, h2⟩ | ⟨h1, h2⟩)
      · omega
      · exact ⟨by omega, by omega⟩
end Num

end
section
set_option Elab.async false
set_option linter.all false
/-! worths: pairs of fractions p + q·√r -/
namespace Wo
open Num
abbrev W := Rat × Rat
def ad (x y : W) : W := (x.1 + y.1, x.2 + y.2)
def sb (x y : W) : W := (x.1 - y.1, x.2 - y.2)
def ml (r : Int) (x y : W) : W := (x.1 * y.1 + r * (x.2 * y.2), x.1 * y.2 + x.2 * y.1)
def z : W := (0, 0)
theorem ext2 {x y : W} (h1 : x.1 = y.1) (h2 : x.2 = y.2) : x = y := Prod.ext h1 h2
def nr (r : Int) (x : W) : Rat := x.1 * x.1 - r * (x.2 * x.2)
/-- above 0 -/
def Ps (r : Int) (x : W) : Prop := (0 < nr r x ∧ 0 < x.1) ∨ (nr r x < 0 ∧ 0 < x.2)
def Vl (r : Int) (x : W) : Prop := r = 0 → x.2 = 0
def of3 (a b c : Int) : W := ((a : Rat) / c, (b : Rat) / c)
theorem castne {c : Int} (h : c ≠ 0) : (c : Rat) ≠ 0 := by exact_mod_cast h
theorem castpos {c : Int} (h : 0 < c) : (0 : Rat) < c := by exact_mod_cast h
theorem divpos {a c : Rat} (hc : 0 < c) : 0 < a / c ↔ 0 < a := by
  have hne : c ≠ 0 := by grind
  constructor
  · intro h
    have := Rat.mul_pos h hc
    have e : a / c * c = a := by grind
    rw [e] at this; exact this
  · intro h
    have hi : 0 < c⁻¹ := Rat.inv_pos.mpr hc
    have := Rat.mul_pos h hi
    have e : a * c⁻¹ = a / c := by grind
    rw [e] at this; exact this
theorem nr_of {r a b c : Int} (hc : 0 < c) : nr r (of3 a b c) = ((nrm r a b : Int) : Rat) / ((c : Rat) * c) := by
  have h0 := castne (c := c) (by omega)
  unfold nr of3 nrm
  simp only [Rat.intCast_sub, Rat.intCast_mul]
  grind
theorem ps_of {r a b c : Int} (hc : 0 < c) : Ps r (of3 a b c) ↔ Pos r a b := by
  have hcp := castpos hc
  have hcc : (0 : Rat) < (c : Rat) * c := Rat.mul_pos hcp hcp
  have ng : ∀ {x y : Rat}, 0 < y → (x / y < 0 ↔ x < 0) := fun {x y} hy => by
    have := divpos (a := -x) hy
    have e : -x / y = -(x / y) := by grind
    rw [e] at this
    constructor
    · intro h
      have := this.mp (by grind)
      grind
    · intro h
      have := this.mpr (by grind)
      grind
  unfold Ps Pos
  rw [nr_of hc, divpos hcc, ng hcc]
  show _ ∧ 0 < (a : Rat) / c ∨ _ ∧ 0 < (b : Rat) / c ↔ _
  rw [divpos hcp, divpos hcp]
  constructor
  · rintro (⟨h1, h2⟩ | ⟨h1, h2⟩)
    · exact .inl ⟨by exact_mod_cast h1, by exact_mod_cast h2⟩
    · exact .inr ⟨by exact_mod_cast h1, by exact_mod_cast h2⟩
  · rintro (⟨h1, h2⟩ | ⟨h1, h2⟩)
    · exact .inl ⟨by exact_mod_cast h1, by exact_mod_cast h2⟩
    · exact .inr ⟨by exact_mod_cast h1, by exact_mod_cast h2⟩
theorem vl_of {r a b c : Int} (hc : 0 < c) : Vl r (of3 a b c) ↔ Val r b := by
  have h0 := castne (c := c) (by omega)
  unfold Vl Val of3
  constructor
  · intro h e
    have := h e
    have e2 : (b : Rat) = 0 := by
      have : (b : Rat) / c = 0 := this
      grind
    exact_mod_cast e2
  · intro h e
    rw [h e]
    show ((0 : Int) : Rat) / (c : Rat) = 0
    simp only [Rat.intCast_zero]
    grind
theorem as3 (x : W) : ∃ a b c : Int, 0 < c ∧ x = of3 a b c := by
  obtain ⟨p, q⟩ := x
  have hp : (p.den : Rat) ≠ 0 := by have := p.den_nz; exact_mod_cast this
  have hq : (q.den : Rat) ≠ 0 := by have := q.den_nz; exact_mod_cast this
  have ep : p = (p.num : Rat) / (p.den : Rat) := by rw [← Rat.mkRat_eq_div, Rat.mkRat_self]
  have eq : q = (q.num : Rat) / (q.den : Rat) := by rw [← Rat.mkRat_eq_div, Rat.mkRat_self]
  refine ⟨p.num * (q.den : Int), q.num * (p.den : Int), (p.den : Int) * (q.den : Int), ?_, ?_⟩
  · have h1 := p.den_pos
    have h2 := q.den_pos
    exact Int.mul_pos (by omega) (by omega)
  · unfold of3
    refine ext2 ?_ ?_
    · show p = _
      simp only [Rat.intCast_mul, Rat.intCast_natCast]
      grind
    · show q = _
      simp only [Rat.intCast_mul, Rat.intCast_natCast]
      grind
theorem ad_of {a b c d e f : Int} (hc : 0 < c) (hf : 0 < f) : ad (of3 a b c) (of3 d e f) = of3 (a * f + d * c) (b * f + e * c) (c * f) := by
  have h0 := castne (c := c) (by omega)
  have h1 := castne (c := f) (by omega)
  unfold ad of3
  simp only [Rat.intCast_add, Rat.intCast_mul]
  refine ext2 ?_ ?_ <;> grind
theorem sb_of {a b c d e f : Int} (hc : 0 < c) (hf : 0 < f) : sb (of3 a b c) (of3 d e f) = of3 (a * f - d * c) (b * f - e * c) (c * f) := by
  have h0 := castne (c := c) (by omega)
  have h1 := castne (c := f) (by omega)
  unfold sb of3
  simp only [Rat.intCast_sub, Rat.intCast_mul]
  refine ext2 ?_ ?_ <;> grind
theorem ml_of {r a b c d e f : Int} (hc : 0 < c) (hf : 0 < f) : ml r (of3 a b c) (of3 d e f) = of3 (a * d + r * b * e) (a * e + b * d) (c * f) := by
  have h0 := castne (c := c) (by omega)
  have h1 := castne (c := f) (by omega)
  unfold ml of3
  simp only [Rat.intCast_add, Rat.intCast_mul]
  refine ext2 ?_ ?_ <;> grind
theorem Ps.ad {r : Int} {x y : W} (I : Irr r) (vx : Vl r x) (vy : Vl r y) (hx : Ps r x) (hy : Ps r y) : Ps r (ad x y) := by
  obtain ⟨a, b, c, hc, rfl⟩ := as3 x
  obtain ⟨d, e, f, hf, rfl⟩ := as3 y
  have p1 := (ps_of hc).mp hx
  have p2 := (ps_of hf).mp hy
  have v1 := (vl_of hc).mp vx
  have v2 := (vl_of hf).mp vy
  rw [ad_of hc hf, ps_of (Int.mul_pos hc hf)]
  have q1 := p1.scale I.1 hf
  have q2 := p2.scale I.1 hc
  have := q1.add I (fun e => by rw [v1 e]; simp) (fun e => by rw [v2 e]; simp) q2
  rw [Int.mul_comm a f, Int.mul_comm b f, Int.mul_comm d c, Int.mul_comm e c]
  exact this
theorem Ps.ml {r : Int} {x y : W} (I : Irr r) (hx : Ps r x) (hy : Ps r y) : Ps r (ml r x y) := by
  obtain ⟨a, b, c, hc, rfl⟩ := as3 x
  obtain ⟨d, e, f, hf, rfl⟩ := as3 y
  rw [ml_of hc hf, ps_of (Int.mul_pos hc hf), Int.mul_assoc r b e]
  exact ((ps_of hc).mp hx).mul I.1 ((ps_of hf).mp hy)
theorem tric {r : Int} {x : W} (I : Irr r) (v : Vl r x) : x = z ∨ Ps r x ∨ Ps r (sb z x) := by
  obtain ⟨a, b, c, hc, rfl⟩ := as3 x
  have h0 := castne (c := c) (by omega)
  have en : sb z (of3 a b c) = of3 (-a) (-b) c := by
    unfold sb z of3
    simp only [Rat.intCast_neg]
    refine ext2 ?_ ?_ <;> grind
  rw [en, ps_of hc, ps_of hc]
  rcases tri I ((vl_of hc).mp v) (a := a) with ⟨rfl, rfl⟩ | h | h
  · left
    unfold of3 z
    simp only [Rat.intCast_zero]
    exact ext2 (by show (0 : Rat) / c = 0; grind) (by show (0 : Rat) / c = 0; grind)
  · exact .inr (.inl h)
  · exact .inr (.inr h)
theorem Ps.irr {r : Int} (h : Ps r z) : False := by
  rcases h with ⟨_, h⟩ | ⟨_, h⟩ <;> exact absurd h (by unfold z; grind)
/-- less -/
def Lt (r : Int) (x y : W) : Prop := Ps r (sb y x)
theorem Lt.irr {r : Int} {x : W} (h : Lt r x x) : False := by
  refine Ps.irr (r := r) ?_
  have e : sb x x = z := by unfold sb z; exact ext2 (by grind) (by grind)
  rw [← e]; exact h
theorem Vl.ad {r : Int} {x y : W} (a : Vl r x) (b : Vl r y) : Vl r (ad x y) := fun e => by show x.2 + y.2 = 0; rw [a e, b e]; grind
theorem Vl.sb {r : Int} {x y : W} (a : Vl r x) (b : Vl r y) : Vl r (sb x y) := fun e => by show x.2 - y.2 = 0; rw [a e, b e]; grind
theorem Vl.ml {r : Int} {x y : W} (a : Vl r x) (b : Vl r y) : Vl r (ml r x y) := fun e => by show x.1 * y.2 + x.2 * y.1 = 0; rw [a e, b e]; grind
theorem Vl.z {r : Int} : Vl r z := fun _ => rfl
theorem Lt.trans {r : Int} {x y w : W} (I : Irr r) (vx : Vl r x) (vy : Vl r y) (vw : Vl r w) (a : Lt r x y) (b : Lt r y w) : Lt r x w := by
  have := Ps.ad I (vw.sb vy) (vy.sb vx) b a
  have e : Wo.ad (Wo.sb w y) (Wo.sb y x) = Wo.sb w x := by unfold Wo.ad Wo.sb; exact ext2 (by grind) (by grind)
  rw [e] at this
  exact this
theorem Lt.asym {r : Int} {x y : W} (I : Irr r) (vx : Vl r x) (vy : Vl r y) (a : Lt r x y) (b : Lt r y x) : False := (a.trans I vx vy vx b).irr
theorem Lt.tri {r : Int} {x y : W} (I : Irr r) (vx : Vl r x) (vy : Vl r y) : x = y ∨ Lt r x y ∨ Lt r y x := by
  rcases tric I (vy.sb vx) with h | h | h
  · left
    have h1 := congrArg Prod.fst h
    have h2 := congrArg Prod.snd h
    simp only [Wo.sb, Wo.z] at h1 h2
    exact ext2 (by grind) (by grind)
  · exact .inr (.inl h)
  · refine .inr (.inr ?_)
    have e : Wo.sb Wo.z (Wo.sb y x) = Wo.sb x y := by unfold Wo.sb Wo.z; exact ext2 (by grind) (by grind)
    rw [e] at h
    exact h
theorem Lt.adR {r : Int} {x y w : W} (a : Lt r x y) : Lt r (ad x w) (ad y w) := by
  have e : sb (ad y w) (ad x w) = sb y x := by unfold sb ad; exact ext2 (by grind) (by grind)
  unfold Lt
  rw [e]; exact a
/-- not above -/
def Le (r : Int) (x y : W) : Prop := ¬ Lt r y x
theorem Le.lt {r : Int} {x y w : W} (I : Irr r) (vx : Vl r x) (vy : Vl r y) (vw : Vl r w) (a : Le r x y) (b : Lt r y w) : Lt r x w := by
  rcases Lt.tri I vx vy with rfl | h | h
  · exact b
  · exact h.trans I vx vy vw b
  · exact absurd h a
theorem Lt.le {r : Int} {x y w : W} (I : Irr r) (vx : Vl r x) (vy : Vl r y) (vw : Vl r w) (a : Lt r x y) (b : Le r y w) : Lt r x w := by
  rcases Lt.tri I vy vw with rfl | h | h
  · exact a
  · exact a.trans I vx vy vw h
  · exact absurd h b
theorem Lt.toLe {r : Int} {x y : W} (I : Irr r) (vx : Vl r x) (vy : Vl r y) (a : Lt r x y) : Le r x y := fun b => a.asym I vx vy b
theorem Le.refl {r : Int} (x : W) : Le r x x := fun h => h.irr
theorem Le.trans {r : Int} {x y w : W} (I : Irr r) (vx : Vl r x) (vy : Vl r y) (vw : Vl r w) (a : Le r x y) (b : Le r y w) : Le r x w := fun h => b (h.le I vw vx vy a)
theorem Le.adR {r : Int} {x y w : W} (a : Le r x y) : Le r (ad x w) (ad y w) := fun h => a (by
  have e : sb (ad x w) (ad y w) = sb x y := by unfold sb ad; exact ext2 (by grind) (by grind)
  unfold Lt at h ⊢
  rw [e] at h; exact h)
end Wo

end
section
set_option Elab.async false
set_option linter.all false
set_option maxRecDepth 100000
namespace L2
open PySem PySem.Spec PyProof.Rows Num Wo
def wN (x : N3) : W := of3 x.1 x.2.1 x.2.2
theorem of3_scale {a b c d : Int} (hd : d ≠ 0) (hc : c ≠ 0) : of3 (d * a) (d * b) (d * c) = of3 a b c := by
  have h0 := castne hd
  have h1 := castne hc
  unfold of3
  simp only [Rat.intCast_mul]
  refine ext2 ?_ ?_ <;> grind
theorem wN_lw {a b c : Int} (hc : c ≠ 0) : wN (lw a b c) = of3 a b c := by
  have e := of3_scale (a := a.fdiv (dv a b c)) (b := b.fdiv (dv a b c)) (c := c.fdiv (dv a b c)) (dv_ne (a := a) (b := b) hc) (by have := low_pos (a := a) (b := b) hc; omega)
  rw [low_a, low_b, low_c] at e
  exact e.symm
theorem wN_add {x y : N3} (hx : 0 < x.2.2) (hy : 0 < y.2.2) : wN (addN x y) = ad (wN x) (wN y) := by
  unfold addN
  rw [wN_lw (by have := Int.mul_pos hx hy; omega)]
  exact (ad_of hx hy).symm
theorem wN_sub {x y : N3} (hx : 0 < x.2.2) (hy : 0 < y.2.2) : wN (subN x y) = sb (wN x) (wN y) := by
  unfold subN
  rw [wN_lw (by have := Int.mul_pos hx hy; omega)]
  exact (sb_of hx hy).symm
def mulN (r : Int) (x y : N3) : N3 := lw (x.1 * y.1 + r * x.2.1 * y.2.1) (x.1 * y.2.1 + x.2.1 * y.1) (x.2.2 * y.2.2)
theorem wN_mul {r : Int} {x y : N3} (hx : 0 < x.2.2) (hy : 0 < y.2.2) : wN (mulN r x y) = ml r (wN x) (wN y) := by
  unfold mulN
  rw [wN_lw (by have := Int.mul_pos hx hy; omega)]
  exact (ml_of hx hy).symm
theorem mulN_ok {r : Int} {k l : Nat} {x y : N3} (hr : Sz 10 r) (h : Ok r k x) (g : Ok r l y) : Ok r (k + l + 12) (mulN r x y) := by
  refine (lw_ok (k := k + l + 11) (by have := Int.mul_pos h.pos g.pos; omega) (fun e => by rw [h.root e, g.root e]; simp) ?_ ?_ ?_).mono (by omega)
  · exact ((h.za.mul g.za).add ((hr.mul h.zb).mul g.zb)).mono (by omega)
  · exact ((h.za.mul g.zb).add (h.zb.mul g.za)).mono (by omega)
  · exact (h.zc.mul g.zc).mono (by omega)
theorem lw_scale {r : Int} {k : Nat} {x : N3} (h : Ok r k x) {n : Int} (hn : 0 < n) : lw (n * x.1) (n * x.2.1) (n * x.2.2) = x := by
  have hc := h.pos
  have e3 : g3 (n * x.1) (n * x.2.1) (n * x.2.2) = n.natAbs := by
    unfold g3
    simp only [Int.natAbs_mul, Nat.gcd_mul_left]
    have := h.low
    unfold g3 at this
    rw [this, Nat.mul_one]
  have e4 : dv (n * x.1) (n * x.2.1) (n * x.2.2) = n := by
    unfold dv
    rw [e3, if_neg (by have := Int.mul_pos hn hc; omega)]
    omega
  unfold lw
  rw [e4, Int.mul_fdiv_cancel_left _ (by omega), Int.mul_fdiv_cancel_left _ (by omega), Int.mul_fdiv_cancel_left _ (by omega)]
theorem wN_inj {r : Int} {k l : Nat} {x y : N3} (hx : Ok r k x) (hy : Ok r l y) (e : wN x = wN y) : x = y := by
  have h0 := castne (c := x.2.2) (by have := hx.pos; omega)
  have h1 := castne (c := y.2.2) (by have := hy.pos; omega)
  have e1 : (x.1 : Rat) / x.2.2 = y.1 / y.2.2 := congrArg Prod.fst e
  have e2 : (x.2.1 : Rat) / x.2.2 = y.2.1 / y.2.2 := congrArg Prod.snd e
  have f1 : y.2.2 * x.1 = x.2.2 * y.1 := by
    have : (y.2.2 : Rat) * x.1 = x.2.2 * y.1 := by grind
    exact_mod_cast this
  have f2 : y.2.2 * x.2.1 = x.2.2 * y.2.1 := by
    have : (y.2.2 : Rat) * x.2.1 = x.2.2 * y.2.1 := by grind
    exact_mod_cast this
  have a1 := lw_scale hx hy.pos
  have a2 := lw_scale hy hx.pos
  rw [f1, f2, Int.mul_comm y.2.2 x.2.2, a2] at a1
  exact a1.symm
theorem Ok.vl {r : Int} {k : Nat} {x : N3} (h : Ok r k x) : Vl r (wN x) := (vl_of h.pos).mpr h.root
/-- the program's less -/
def ltN (r : Int) (x y : N3) : Bool := below r (x.1 * y.2.2 - y.1 * x.2.2) (x.2.1 * y.2.2 - y.2.1 * x.2.2)
theorem ltN_iff {r : Int} {k l : Nat} {x y : N3} (I : Irr r) (hx : Ok r k x) (hy : Ok r l y) : ltN r x y = true ↔ Lt r (wN x) (wN y) := by
  have e : sb (wN y) (wN x) = of3 (y.1 * x.2.2 - x.1 * y.2.2) (y.2.1 * x.2.2 - x.2.1 * y.2.2) (y.2.2 * x.2.2) := sb_of hy.pos hx.pos
  unfold ltN Lt
  rw [e, ps_of (Int.mul_pos hy.pos hx.pos), below_iff I (fun e => by rw [hx.root e, hy.root e]; simp)]
  rw [show -(x.1 * y.2.2 - y.1 * x.2.2) = y.1 * x.2.2 - x.1 * y.2.2 by omega, show -(x.2.1 * y.2.2 - y.2.1 * x.2.2) = y.2.1 * x.2.2 - x.2.1 * y.2.2 by omega]
theorem wN_zero : wN zeroN = z := by
  unfold wN of3 z zeroN
  simp only [Rat.intCast_zero, Rat.intCast_one]
  exact ext2 (by grind) (by grind)
end L2

end
section
set_option Elab.async false
set_option linter.all false
set_option maxRecDepth 100000
namespace L2
open Num Wo
/-! ### sums -/
theorem ad_comm (x y : W) : ad x y = ad y x := ext2 (by unfold ad; grind) (by unfold ad; grind)
theorem ad_assoc (x y w : W) : ad (ad x y) w = ad x (ad y w) := ext2 (by unfold ad; grind) (by unfold ad; grind)
theorem ad_zero (x : W) : ad x z = x := ext2 (by unfold ad z; grind) (by unfold ad z; grind)
theorem zero_ad (x : W) : ad z x = x := ext2 (by unfold ad z; grind) (by unfold ad z; grind)
def sumL (h : Nat → W) (l : List Nat) : W := l.foldl (fun t j => ad t (h j)) z
theorem sumL_snoc (h : Nat → W) (l : List Nat) (j : Nat) : sumL h (l ++ [j]) = ad (sumL h l) (h j) := by unfold sumL; rw [List.foldl_append]; rfl
theorem sumL_perm {h : Nat → W} {l m : List Nat} (p : l.Perm m) : sumL h l = sumL h m := by
  unfold sumL
  refine p.foldl_eq' (fun x _ y _ t => ?_) _
  rw [ad_assoc, ad_comm (h x), ← ad_assoc]
def sumR (h : Nat → W) (n : Nat) : W := sumL h (List.range n)
theorem sumR_succ (h : Nat → W) (n : Nat) : sumR h (n + 1) = ad (sumR h n) (h n) := by unfold sumR; rw [List.range_succ, sumL_snoc]
theorem sumR_zero (h : Nat → W) : sumR h 0 = z := rfl
theorem sumR_congr {h g : Nat → W} : ∀ {n : Nat}, (∀ i, i < n → h i = g i) → sumR h n = sumR g n
  | 0, _ => rfl
  | n + 1, e => by rw [sumR_succ, sumR_succ, sumR_congr fun i hi => e i (by omega), e n (by omega)]
theorem sumL_ix (h : Nat → W) (l : List Nat) : ∀ m, m ≤ l.length → sumL h (l.take m) = sumR (fun k => h (l.getD k 0)) m
  | 0, _ => by rw [List.take_zero]; rfl
  | m + 1, hm => by
    have e : l[m]? = some l[m] := List.getElem?_eq_getElem (by omega)
    rw [List.take_succ, e, sumR_succ, ← sumL_ix h l m (by omega)]
    show sumL h (l.take m ++ [l[m]]) = _
    rw [sumL_snoc, List.getD_eq_getElem?_getD, e]
    rfl
theorem sumR_sub (h g : Nat → W) : ∀ n, sumR (fun i => sb (h i) (g i)) n = sb (sumR h n) (sumR g n)
  | 0 => ext2 (by show (0 : Rat) = 0 - 0; grind) (by show (0 : Rat) = 0 - 0; grind)
  | n + 1 => by
    rw [sumR_succ, sumR_succ, sumR_succ, sumR_sub h g n]
    exact ext2 (by unfold ad sb; grind) (by unfold ad sb; grind)
/-- twice the products of unlike ones, and the squares: the square of the sum -/
theorem cross (r : Int) (w : Nat → W) : ∀ n, ad (ad (sumR (fun i => ml r (w i) (sumR w i)) n) (sumR (fun i => ml r (w i) (sumR w i)) n)) (sumR (fun i => ml r (w i) (w i)) n) = ml r (sumR w n) (sumR w n)
  | 0 => ext2 (by show (0 : Rat) + 0 + 0 = 0 * 0 + r * (0 * 0); grind) (by show (0 : Rat) + 0 + 0 = 0 * 0 + 0 * 0; grind)
  | n + 1 => by
    have ih := cross r w n
    simp only [sumR_succ]
    generalize sumR (fun i => ml r (w i) (sumR w i)) n = A at ih ⊢
    generalize sumR (fun i => ml r (w i) (w i)) n = B at ih ⊢
    generalize sumR w n = S at ih ⊢
    generalize w n = x
    have i1 := congrArg Prod.fst ih
    have i2 := congrArg Prod.snd ih
    simp only [ad, ml] at i1 i2
    refine ext2 ?_ ?_
    · simp only [ad, ml]
      grind
    · simp only [ad, ml]
      grind
/-! ### longs -/
abbrev Xw (xs : List N3) (i : Nat) : W := wN (xs.getD i zeroN)
abbrev Bw (xs : List N3) (i : Nat) : W := wN (pre xs i)
theorem getD_at {xs : List N3} {i : Nat} (h : i < xs.length) : xs[i]? = some (xs.getD i zeroN) := by rw [List.getD_eq_getElem?_getD, List.getElem?_eq_getElem h]; rfl
section
variable {r : Int} {xs : List N3}
theorem getD_ok (hok : ∀ x ∈ xs, Ok r 20 x) (i : Nat) : Ok r 20 (xs.getD i zeroN) := by
  by_cases h : i < xs.length
  · exact hok _ (List.mem_of_getElem? (getD_at h))
  · rw [List.getD_eq_getElem?_getD, List.getElem?_eq_none (by omega)]; exact zero_ok r 20 (by decide)
theorem Bw_succ (hok : ∀ x ∈ xs, Ok r 20 x) {i : Nat} (h : i < xs.length) : Bw xs (i + 1) = ad (Bw xs i) (Xw xs i) := by
  show wN (pre xs (i + 1)) = _
  rw [pre_succ (getD_at h)]
  exact wN_add (pre_ok hok i (by omega)).pos (getD_ok hok i).pos
theorem Bw_zero : Bw xs 0 = z := wN_zero
theorem Bw_sum (hok : ∀ x ∈ xs, Ok r 20 x) : ∀ {i : Nat}, i ≤ xs.length → Bw xs i = sumR (Xw xs) i
  | 0, _ => Bw_zero
  | i + 1, h => by rw [Bw_succ hok (by omega), sumR_succ, Bw_sum hok (by omega)]
theorem Bw_vl (hok : ∀ x ∈ xs, Ok r 20 x) {i : Nat} (h : i ≤ xs.length) : Vl r (Bw xs i) := (pre_ok hok i h).vl
theorem Bw_lt (I : Irr r) (hok : ∀ x ∈ xs, Ok r 20 x) (hp : ∀ x ∈ xs, Ps r (wN x)) {i : Nat} (h : i < xs.length) : Lt r (Bw xs i) (Bw xs (i + 1)) := by
  unfold Lt
  rw [Bw_succ hok h]
  have e : sb (ad (Bw xs i) (Xw xs i)) (Bw xs i) = Xw xs i := ext2 (by unfold sb ad; grind) (by unfold sb ad; grind)
  rw [e]
  exact hp _ (List.mem_of_getElem? (getD_at h))
theorem Bw_mono (I : Irr r) (hok : ∀ x ∈ xs, Ok r 20 x) (hp : ∀ x ∈ xs, Ps r (wN x)) {i : Nat} : ∀ {j : Nat}, i ≤ j → j ≤ xs.length → Le r (Bw xs i) (Bw xs j)
  | 0, h, _ => by
    have : i = 0 := by omega
    subst this
    exact Le.refl _
  | j + 1, h, hj => by
    rcases Nat.lt_or_ge i (j + 1) with q | q
    · exact (Bw_mono I hok hp (by omega : i ≤ j) (by omega)).trans I (Bw_vl hok (by omega)) (Bw_vl hok (by omega)) (Bw_vl hok hj) ((Bw_lt I hok hp (by omega)).toLe I (Bw_vl hok (by omega)) (Bw_vl hok hj))
    · have : i = j + 1 := by omega
      subst this
      exact Le.refl _
/-- the piece of a point -/
structure In (r : Int) (xs : List N3) (i : Nat) (x : W) : Prop where
  lt : i < xs.length
  lo : Le r (Bw xs i) x
  hi : Lt r x (Bw xs (i + 1))
theorem In.uniq (I : Irr r) (hok : ∀ x ∈ xs, Ok r 20 x) (hp : ∀ x ∈ xs, Ps r (wN x)) {i j : Nat} {x : W} (vx : Vl r x) (a : In r xs i x) (b : In r xs j x) : i = j := by
  have key : ∀ {i j : Nat}, In r xs i x → In r xs j x → ¬ i < j := fun {i j} a b h => by
    have h1 := Bw_mono I hok hp (i := i + 1) (j := j) (by omega) (by have := b.lt; omega)
    have v1 := Bw_vl (r := r) hok (i := i + 1) (by have := a.lt; omega)
    have v2 := Bw_vl (r := r) hok (i := j) (by have := b.lt; omega)
    exact b.lo (a.hi.le I vx v1 v2 h1)
  have := key a b
  have := key b a
  omega
theorem In.bounds (I : Irr r) (hok : ∀ x ∈ xs, Ok r 20 x) (hp : ∀ x ∈ xs, Ps r (wN x)) {i : Nat} {x : W} (vx : Vl r x) (a : In r xs i x) : Le r z x ∧ Lt r x (Bw xs xs.length) := by
  have h := a.lt
  have v0 := Bw_vl (r := r) hok (i := 0) (by omega)
  have vi := Bw_vl (r := r) hok (i := i) (by omega)
  have vj := Bw_vl (r := r) hok (i := i + 1) (by omega)
  have vn := Bw_vl (r := r) hok (i := xs.length) (Nat.le_refl _)
  have m1 := Bw_mono I hok hp (i := 0) (j := i) (by omega) (by omega)
  have m2 := Bw_mono I hok hp (i := i + 1) (j := xs.length) (by omega) (by omega)
  rw [Bw_zero] at m1
  exact ⟨m1.trans I Vl.z vi vx a.lo, a.hi.le I vx vj vn m2⟩
theorem In.start (I : Irr r) (hok : ∀ x ∈ xs, Ok r 20 x) (hp : ∀ x ∈ xs, Ps r (wN x)) {i : Nat} (h : i < xs.length) : In r xs i (Bw xs i) := ⟨h, Le.refl _, Bw_lt I hok hp h⟩
/-- moved along -/
theorem In.move {ys : List N3} (I : Irr r) (hok : ∀ x ∈ xs, Ok r 20 x) (hoy : ∀ x ∈ ys, Ok r 20 x) {i k : Nat} {x : W} (a : In r xs i x) (hk : k < ys.length) (e : Xw ys k = Xw xs i) : In r ys k (ad x (sb (Bw ys k) (Bw xs i))) := by
  have e0 : ad (Bw xs i) (sb (Bw ys k) (Bw xs i)) = Bw ys k := ext2 (by unfold sb ad; grind) (by unfold sb ad; grind)
  have e1 : ad (Bw xs (i + 1)) (sb (Bw ys k) (Bw xs i)) = Bw ys (k + 1) := by
    rw [Bw_succ hok a.lt, Bw_succ hoy hk, e]
    exact ext2 (by unfold sb ad; grind) (by unfold sb ad; grind)
  refine ⟨hk, ?_, ?_⟩
  · have := Le.adR (w := sb (Bw ys k) (Bw xs i)) a.lo
    rw [e0] at this
    exact this
  · have := Lt.adR (w := sb (Bw ys k) (Bw xs i)) a.hi
    rw [e1] at this
    exact this
end
/-! ### orders -/
section
variable {r : Int} {xs : List N3} {os : List Nat}
theorem perm_get (hp : os.Perm (List.range xs.length)) {i : Nat} (h : i < xs.length) : os.idxOf i < os.length ∧ os.getD (os.idxOf i) 0 = i := by
  have m : i ∈ os := hp.mem_iff.mpr (List.mem_range.mpr h)
  have h1 := List.idxOf_lt_length_of_mem m
  refine ⟨h1, ?_⟩
  rw [List.getD_eq_getElem?_getD, List.getElem?_eq_getElem h1]
  exact List.getElem_idxOf h1
theorem laid_X (xs : List N3) (os : List Nat) {k : Nat} (h : k < os.length) : Xw (laidL xs os) k = Xw xs (os.getD k 0) := by
  unfold Xw laidL
  rw [List.getD_eq_getElem?_getD, List.getElem?_map, List.getElem?_eq_getElem h, List.getD_eq_getElem?_getD (l := os), List.getElem?_eq_getElem h]
  rfl
theorem laid_pos (hl : os.length = xs.length) (hq : os.Perm (List.range xs.length)) (hp : ∀ x ∈ xs, Ps r (wN x)) : ∀ x ∈ laidL xs os, Ps r (wN x) := fun x m => by
  unfold laidL at m
  obtain ⟨i, hi, rfl⟩ := List.mem_map.mp m
  have h : i < xs.length := List.mem_range.mp (hq.mem_iff.mp hi)
  exact hp _ (List.mem_of_getElem? (getD_at h))
/-- where piece i begins behind a go, how far it moves -/
abbrev Lw (xs : List N3) (os : List Nat) (i : Nat) : W := Bw (laidL xs os) (os.idxOf i)
abbrev Mw (xs : List N3) (os : List Nat) (i : Nat) : W := sb (Lw xs os i) (Bw xs i)
theorem whole_laid (hl : os.length = xs.length) (hok : ∀ x ∈ xs, Ok r 20 x) (hq : os.Perm (List.range xs.length)) : Bw (laidL xs os) os.length = Bw xs xs.length := by
  rw [Bw_sum (r := r) (laidL_ok hok (by decide)) (by rw [laidL_len]; exact Nat.le_refl _), Bw_sum hok (Nat.le_refl _)]
  rw [sumR_congr fun i hi => laid_X xs os hi]
  rw [← sumL_ix (Xw xs) os os.length (Nat.le_refl _), List.take_of_length_le (Nat.le_refl _)]
  exact sumL_perm hq
theorem balanced (hl : os.length = xs.length) (hok : ∀ x ∈ xs, Ok r 20 x) (hq : os.Perm (List.range xs.length)) : sumR (fun i => ml r (Xw xs i) (Mw xs os i)) xs.length = z := by
  have nd : os.Nodup := hq.nodup_iff.mpr List.nodup_range
  have e1 : ∀ i, ml r (Xw xs i) (Mw xs os i) = sb (ml r (Xw xs i) (Lw xs os i)) (ml r (Xw xs i) (Bw xs i)) := fun i => ext2 (by unfold Mw ml sb; grind) (by unfold Mw ml sb; grind)
  rw [sumR_congr fun i _ => e1 i, sumR_sub]
  -- the laid ones, in their order
  have e2 : sumR (fun i => ml r (Xw xs i) (Lw xs os i)) xs.length = sumR (fun k => ml r (Xw (laidL xs os) k) (sumR (Xw (laidL xs os)) k)) os.length := by
    show sumL _ (List.range xs.length) = _
    rw [← sumL_perm hq, ← List.take_of_length_le (Nat.le_refl os.length), sumL_ix _ os _ (Nat.le_refl _), List.take_of_length_le (Nat.le_refl _)]
    refine sumR_congr fun k hk => ?_
    have ek : os.idxOf (os.getD k 0) = k := by
      rw [List.getD_eq_getElem?_getD, List.getElem?_eq_getElem hk]
      exact nd.idxOf_getElem k hk
    rw [laid_X xs os hk]
    show ml r _ (Bw (laidL xs os) (os.idxOf (os.getD k 0))) = _
    rw [ek, Bw_sum (r := r) (laidL_ok hok (by decide)) (by rw [laidL_len]; omega)]
  have e3 : sumR (fun i => ml r (Xw xs i) (Bw xs i)) xs.length = sumR (fun i => ml r (Xw xs i) (sumR (Xw xs) i)) xs.length := sumR_congr fun i hi => by rw [Bw_sum hok (by omega)]
  rw [e2, e3]
  have c1 := cross r (Xw (laidL xs os)) os.length
  have c2 := cross r (Xw xs) xs.length
  have s1 : sumR (Xw (laidL xs os)) os.length = sumR (Xw xs) xs.length := by
    have := whole_laid hl hok hq
    rw [Bw_sum (r := r) (laidL_ok hok (by decide)) (by rw [laidL_len]; exact Nat.le_refl _), Bw_sum hok (Nat.le_refl _)] at this
    exact this
  have s2 : sumR (fun i => ml r (Xw (laidL xs os) i) (Xw (laidL xs os) i)) os.length = sumR (fun i => ml r (Xw xs i) (Xw xs i)) xs.length := by
    rw [sumR_congr (g := fun k => (fun i => ml r (Xw xs i) (Xw xs i)) (os.getD k 0)) fun i hi => by rw [laid_X xs os hi]]
    rw [← sumL_ix (fun i => ml r (Xw xs i) (Xw xs i)) os os.length (Nat.le_refl _), List.take_of_length_le (Nat.le_refl _)]
    exact sumL_perm hq
  rw [s1, s2, ← c2] at c1
  generalize sumR (fun k => ml r (Xw (laidL xs os) k) (sumR (Xw (laidL xs os)) k)) os.length = A at c1 ⊢
  generalize sumR (fun i => ml r (Xw xs i) (sumR (Xw xs) i)) xs.length = B at c1 ⊢
  have h1 := congrArg Prod.fst c1
  have h2 := congrArg Prod.snd c1
  simp only [ad] at h1 h2
  exact ext2 (by show A.1 - B.1 = 0; grind) (by show A.2 - B.2 = 0; grind)
end
end L2

end
section
set_option Elab.async false
set_option linter.all false
set_option maxRecDepth 100000
namespace L2
open Num Wo
def mvN (xs : List N3) (os : List Nat) (i : Nat) : N3 := subN (pre (laidL xs os) (os.idxOf i)) (pre xs i)
theorem Root.sz {r : Int} (h : Root r) : Sz 10 r := Sz.sm 13 (by rcases h with h | h | h | h | h | h | h <;> omega)
theorem z_sb (x y : W) : sb (ad x y) y = x := ext2 (by unfold sb ad; grind) (by unfold sb ad; grind)
theorem sb_ad (x y : W) : ad (sb x y) y = x := ext2 (by unfold sb ad; grind) (by unfold sb ad; grind)
theorem ad_sb (x y : W) : sb (ad x y) x = y := ext2 (by unfold sb ad; grind) (by unfold sb ad; grind)
theorem goes_back {r : Int} {k l : Nat} {x m : N3} (hx : Ok r k x) (hm : Ok r l m) : subN (addN x m) m = x :=
  wN_inj (subN_ok (addN_ok hx hm) hm) hx (by rw [wN_sub (addN_ok hx hm).pos hm.pos, wN_add hx.pos hm.pos, z_sb])
theorem back_goes {r : Int} {k l : Nat} {x m : N3} (hx : Ok r k x) (hm : Ok r l m) : addN (subN x m) m = x :=
  wN_inj (addN_ok (subN_ok hx hm) hm) hx (by rw [wN_add (subN_ok hx hm).pos hm.pos, wN_sub hx.pos hm.pos, sb_ad])
theorem goes_by {r : Int} {k l : Nat} {x m : N3} (hx : Ok r k x) (hm : Ok r l m) : subN (addN x m) x = m :=
  wN_inj (subN_ok (addN_ok hx hm) hx) hm (by rw [wN_sub (addN_ok hx hm).pos hx.pos, wN_add hx.pos hm.pos, ad_sb])
section
variable {r : Int} {xs : List N3} {os : List Nat}
theorem mvN_ok (hok : ∀ x ∈ xs, Ok r 20 x) (h12 : xs.length ≤ 12) (hl : os.length = xs.length) (hq : os.Perm (List.range xs.length)) {i : Nat} (h : i < xs.length) : Ok r 802 (mvN xs os i) :=
  subN_ok (pre_okB (laidL_ok hok (by decide)) (by rw [laidL_len]; omega) (by rw [laidL_len]; exact Nat.le_of_lt (perm_get hq h).1)) (pre_okB hok h12 (by omega))
theorem mvN_w (hok : ∀ x ∈ xs, Ok r 20 x) (h12 : xs.length ≤ 12) (hl : os.length = xs.length) (hq : os.Perm (List.range xs.length)) {i : Nat} (h : i < xs.length) : wN (mvN xs os i) = Mw xs os i :=
  wN_sub (pre_okB (r := r) (laidL_ok hok (by decide)) (by rw [laidL_len]; omega) (by rw [laidL_len]; exact Nat.le_of_lt (perm_get hq h).1)).pos (pre_okB hok h12 (by omega)).pos
theorem laid_at (hq : os.Perm (List.range xs.length)) {i : Nat} (h : i < xs.length) : Xw (laidL xs os) (os.idxOf i) = Xw xs i := by
  obtain ⟨h1, h2⟩ := perm_get hq h
  rw [laid_X xs os h1, h2]
theorem goes_in (I : Irr r) (hok : ∀ x ∈ xs, Ok r 20 x) (h12 : xs.length ≤ 12) (hl : os.length = xs.length) (hq : os.Perm (List.range xs.length)) {i k : Nat} {x : N3} (hx : Ok r k x) (a : In r xs i (wN x)) :
    In r (laidL xs os) (os.idxOf i) (wN (addN x (mvN xs os i))) := by
  rw [wN_add hx.pos (mvN_ok hok h12 hl hq a.lt).pos, mvN_w hok h12 hl hq a.lt]
  exact In.move I hok (laidL_ok hok (by decide)) a (by rw [laidL_len]; exact (perm_get hq a.lt).1) (laid_at hq a.lt)
theorem got_lt (hl : os.length = xs.length) (hq : os.Perm (List.range xs.length)) {k : Nat} (h : k < os.length) : os.getD k 0 < xs.length ∧ os.idxOf (os.getD k 0) = k ∧ os[k]? = some (os.getD k 0) := by
  have nd : os.Nodup := hq.nodup_iff.mpr List.nodup_range
  have e : os.getD k 0 = os[k] := by rw [List.getD_eq_getElem?_getD, List.getElem?_eq_getElem h]; rfl
  rw [e]
  exact ⟨List.mem_range.mp (hq.mem_iff.mp (List.getElem_mem h)), nd.idxOf_getElem k h, List.getElem?_eq_getElem h⟩
theorem came_in (I : Irr r) (hok : ∀ x ∈ xs, Ok r 20 x) (h12 : xs.length ≤ 12) (hl : os.length = xs.length) (hq : os.Perm (List.range xs.length)) {k l : Nat} {x : N3} (hx : Ok r l x) (a : In r (laidL xs os) k (wN x)) :
    In r xs (os.getD k 0) (wN (subN x (mvN xs os (os.getD k 0)))) := by
  have hk : k < os.length := by have := a.lt; rw [laidL_len] at this; exact this
  obtain ⟨h1, h2, _⟩ := got_lt hl hq hk
  rw [wN_sub hx.pos (mvN_ok hok h12 hl hq h1).pos, mvN_w hok h12 hl hq h1]
  have e : sb (wN x) (Mw xs os (os.getD k 0)) = ad (wN x) (sb (Bw xs (os.getD k 0)) (Bw (laidL xs os) k)) := by
    have : Mw xs os (os.getD k 0) = sb (Bw (laidL xs os) k) (Bw xs (os.getD k 0)) := by
      show sb (Bw (laidL xs os) (os.idxOf (os.getD k 0))) _ = _
      rw [h2]
    rw [this]
    exact ext2 (by unfold sb ad; grind) (by unfold sb ad; grind)
  rw [e]
  exact In.move I (laidL_ok hok (by decide)) hok a h1 (laid_X xs os hk).symm
end
end L2
namespace L2
open Num Wo
theorem wor_up {r a b : Int} (I : Irr r) (v : Val r b) (h : 0 < wor r a b) : Pos r a b := by
  rcases tri I v (a := a) with ⟨rfl, rfl⟩ | h1 | h1
  · exact absurd h (by simp [wor])
  · exact h1
  · have := (wor_lt_iff I v).mpr h1
    omega
theorem long_up {r a b c : Int} (hR : Root r) (ha : 1 ≤ a) (hc : 1 ≤ c) (h1 : -3 ≤ b) (h2 : b ≤ 3) : Pos r (a * 1 + 12 * c) (b * 1 + 0 * c) := by
  have hn : 13 * 13 ≤ (a * 1 + 12 * c) * (a * 1 + 12 * c) := Int.mul_le_mul (by omega) (by omega) (by decide) (by omega)
  refine .inl ⟨?_, by omega⟩
  unfold nrm
  have hb : b * 1 + 0 * c = b := by omega
  rw [hb]
  have hbb : b * b ≤ 9 ∧ 0 ≤ b * b := by
    have : b = -3 ∨ b = -2 ∨ b = -1 ∨ b = 0 ∨ b = 1 ∨ b = 2 ∨ b = 3 := by omega
    rcases this with rfl | rfl | rfl | rfl | rfl | rfl | rfl <;> decide
  generalize b * b = q at *
  generalize (a * 1 + 12 * c) * (a * 1 + 12 * c) = m at *
  rcases hR with h | h | h | h | h | h | h <;> subst h <;> omega
/-- a share of a long -/
theorem share_in {r a b c s t : Int} (I : Irr r) (hc : 0 < c) (v : Val r b) (hp : Pos r a b) (hs : 0 ≤ s) (ht : s < t) : Le r z (of3 (a * s) (b * s) (c * t)) ∧ Lt r (of3 (a * s) (b * s) (c * t)) (of3 a b c) := by
  have hct : 0 < c * t := Int.mul_pos hc (by omega)
  constructor
  · intro h
    rcases Int.lt_or_eq_of_le hs with h0 | h0
    · have p1 : Ps r (of3 (a * s) (b * s) (c * t)) := (ps_of hct).mpr (by rw [Int.mul_comm a, Int.mul_comm b]; exact hp.scale I.1 h0)
      have e : sb z (of3 (a * s) (b * s) (c * t)) = of3 (-(a * s)) (-(b * s)) (c * t) := by
        have h0 := castne (c := c * t) (by omega)
        unfold sb z of3
        simp only [Rat.intCast_neg]
        refine ext2 ?_ ?_ <;> grind
      unfold Lt at h
      rw [e, ps_of hct] at h
      exact ((ps_of hct).mp p1).not_neg h
    · subst h0
      rw [Int.mul_zero, Int.mul_zero] at h
      refine Lt.irr (r := r) (x := z) ?_
      have e : of3 0 0 (c * t) = z := by
        have h0 := castne (c := c * t) (by omega)
        unfold of3 z
        simp only [Rat.intCast_zero]
        exact ext2 (by show (0 : Rat) / _ = 0; grind) (by show (0 : Rat) / _ = 0; grind)
      rw [e] at h
      exact h
  · unfold Lt
    rw [sb_of hc hct, ps_of (Int.mul_pos hc hct)]
    have e1 : a * (c * t) - a * s * c = c * (t - s) * a := by grind
    have e2 : b * (c * t) - b * s * c = c * (t - s) * b := by grind
    rw [e1, e2]
    exact hp.scale I.1 (Int.mul_pos hc (by omega))
end L2
namespace L2
open Num Wo PySem
theorem ChAt.monoX {K : PySem.W.Frag} {H H' : Hp} {c p : Addr} {ys : List V} {r : Int} {xs : List N3} {os : List Nat} (h : ChAt K H c r xs os) (s : SameX p H H') (hp : H p = some (.lst ys)) : ChAt K H' c r xs os := by
  obtain ⟨⟨L, O, vs, h1, h2, h3, h4⟩, a, b, d, e, f⟩ := h
  exact ⟨⟨L, O, vs, s _ _ h1 (ne_of h1 hp (by intro z; cases z)), s _ _ h2 (ne_of h2 hp (by intro z; cases z)), s _ _ h3 (ne_of h3 hp (by intro z; cases z)), h4.monoX s hp⟩, a, b, d, e, f⟩
theorem dN_ne {x y : N3} (h : x ≠ y) : PyData.eqv (dN x) (dN y) = false := by
  obtain ⟨a, b, c⟩ := x
  obtain ⟨d, e, f⟩ := y
  show (PyData.eqvAll [.int a, .int b, .int c] [.int d, .int e, .int f]) = false
  by_cases h1 : a = d
  · by_cases h2 : b = e
    · by_cases h3 : c = f
      · subst h1; subst h2; subst h3; exact absurd rfl h
      · simp [PyData.eqvAll, PyData.eqv, h3]
    · simp [PyData.eqvAll, PyData.eqv, h2]
  · simp [PyData.eqvAll, PyData.eqv, h1]
theorem dN_eqv (x y : N3) : PyData.eqv (dN x) (dN y) = decide (x = y) := by
  by_cases h : x = y
  · subst h
    rw [eqv_self (shaped_dN x), decide_eq_true rfl]
  · rw [dN_ne h, decide_eq_false h]
end L2
namespace L2
open Num Wo PySem
theorem dp_ints {K : PySem.W.Frag} {H : Hp} : ∀ ns : List Int, DpAll K H (ns.map V.int) (ns.map PyData.int)
  | [] => .nil
  | n :: r => .cons (.int n) (dp_ints r)
theorem shaped_ints (ns : List Int) : SeqAt.shaped (.list (ns.map PyData.int)) = true := shaped_list fun d m => by
  obtain ⟨i, _, rfl⟩ := List.mem_map.mp m
  exact ⟨rfl, by show 0 ≤ 8; decide⟩
theorem sorted_range {n : Nat} {os : List Nat} {ns : List Int} (hp : os.Perm (List.range n)) (h1 : ns.Perm (os.map fun (i : Nat) => (i : Int))) (h2 : ns.Pairwise (· ≤ ·)) : ns = (List.range n).map fun (i : Nat) => (i : Int) := by
  refine List.Perm.eq_of_pairwise (le := (· ≤ ·)) (fun a b _ _ h g => by omega) h2 ?_ (h1.trans (hp.map _))
  rw [List.pairwise_map]
  exact (List.pairwise_lt_range).imp fun h => by omega
theorem vO_eq (os : List Nat) : vO os = (os.map fun (i : Nat) => (i : Int)).map V.int := by rw [List.map_map]; rfl
section
variable {r : Int} {xs : List N3} {os : List Nat}
/-- the begins of the pieces go to the begins of the laid ones -/
theorem begin_goes (hok : ∀ x ∈ xs, Ok r 20 x) (h12 : xs.length ≤ 12) (hl : os.length = xs.length) (hq : os.Perm (List.range xs.length)) {o : Nat} (h : o < xs.length) : addN (pre xs o) (mvN xs os o) = pre (laidL xs os) (os.idxOf o) := by
  have o1 := pre_okB hok h12 (i := o) (by omega)
  have o2 := mvN_ok hok h12 hl hq h
  have o3 := pre_okB (r := r) (laidL_ok (os := os) hok (by decide)) (by rw [laidL_len]; omega) (i := os.idxOf o) (by rw [laidL_len]; exact Nat.le_of_lt (perm_get hq h).1)
  refine wN_inj (addN_ok o1 o2) o3 ?_
  rw [wN_add o1.pos o2.pos, mvN_w hok h12 hl hq h]
  exact ext2 (by unfold Mw sb ad; grind) (by unfold Mw sb ad; grind)
theorem laid_came (hok : ∀ x ∈ xs, Ok r 20 x) (h12 : xs.length ≤ 12) (hl : os.length = xs.length) (hq : os.Perm (List.range xs.length)) {o : Nat} (h : o < xs.length) : subN (pre (laidL xs os) (os.idxOf o)) (mvN xs os o) = pre xs o := by
  rw [← begin_goes hok h12 hl hq h]
  exact goes_back (pre_okB hok h12 (i := o) (by omega)) (mvN_ok hok h12 hl hq h)
end
end L2
namespace L2
open Num Wo PySem
theorem Nums.two {K : PySem.W.Frag} {H : Hp} {vs : List V} {xs : List N3} (h : Nums K H vs xs) (hl : xs.length = 2) : ∃ v u x y, vs = [v, u] ∧ xs = [x, y] ∧ NumAt K H v x ∧ NumAt K H u y := by
  match xs, hl with
  | [x, y], _ =>
    match vs, h.1 with
    | [v, u], _ => exact ⟨v, u, x, y, rfl, rfl, h.2 0 v x rfl rfl, h.2 1 u y rfl rfl⟩
theorem goes_inj {r : Int} {xs : List N3} {os : List Nat} (I : Irr r) (hok : ∀ x ∈ xs, Ok r 20 x) (hp : ∀ x ∈ xs, Ps r (wN x)) (h12 : xs.length ≤ 12) (hl : os.length = xs.length) (hq : os.Perm (List.range xs.length)) {i j k l : Nat} {x y : N3} (hx : Ok r k x) (hy : Ok r l y) (a : In r xs i (wN x)) (b : In r xs j (wN y)) :
    addN x (mvN xs os i) = addN y (mvN xs os j) ↔ x = y := by
  constructor
  · intro e
    have a' := goes_in (os := os) I hok h12 hl hq hx a
    have b' := goes_in (os := os) I hok h12 hl hq hy b
    rw [← e] at b'
    have okg := addN_ok hx (mvN_ok hok h12 hl hq a.lt)
    have h1 := a'.uniq I (laidL_ok hok (by decide)) (laid_pos hl hq hp) okg.vl b'
    have h2 : i = j := by
      have e1 := (perm_get hq a.lt).2
      have e2 := (perm_get hq b.lt).2
      rw [h1, e2] at e1
      exact e1.symm
    subst h2
    rw [← goes_back hx (mvN_ok hok h12 hl hq a.lt), e, goes_back hy (mvN_ok hok h12 hl hq a.lt)]
  · rintro rfl
    rw [a.uniq I hok hp hx.vl b]
end L2

end
set_option Elab.async false
set_option linter.all false
set_option maxRecDepth 100000
namespace My
open PySem L2

local macro_rules | `(tactic| walk_at "szz") => `(tactic| first
  | assumption
  | exact Sz.sm (k := 64) _ (Nat.le_refl _) (by decide)
  | (refine Sz.neg ?_; walk_at "szz")
  | (refine Sz.mul ?_ ?_ <;> walk_at "szz")
  | (refine Sz.add ?_ ?_ <;> walk_at "szz")
  | (refine Sz.sub ?_ ?_ <;> walk_at "szz")
  | (refine Sz.fdiv ?_ ; walk_at "szz"))
local macro_rules | `(tactic| walk_at "sz") => `(tactic| (refine Sz.mono ?sz1 ?sz2; (case sz1 => walk_at "szz"); (case sz2 => decide)))
local macro_rules | `(tactic| walk_at "cm") => `(tactic| (refine ⟨⟨?cm1, ?cm2⟩, ?_⟩; (case cm1 => walk_at "sz"); (case cm2 => walk_at "sz")))
local macro_rules | `(tactic| walk_at "rd") => `(tactic| repeat (first | refine ⟨_, rfl, ?_⟩ | refine ⟨_, _, rfl, rfl, ?_⟩ | refine ⟨rfl, ?_⟩ | refine ⟨_, _, rfl, ?_⟩ | (with_reducible walk_at "cm")))

def top (i : Nat) : Stmt := PySem.Challenge.pw_cutexchange_k14_whole_goes_are_one_to_on.main.body.getD i (.Pass ⟨0, 0, 0, 0⟩)
abbrev s__law_cell : Stmt := top 27
abbrev s__law_box : Stmt := top 28
abbrev s__law_take : Stmt := top 29
abbrev s__law_low : Stmt := top 30
abbrev s__law_sign : Stmt := top 32
abbrev s__law_plus : Stmt := top 31
abbrev s__law_number : Stmt := top 34
abbrev s__law_with : Stmt := top 35
abbrev s__law_root : Stmt := top 33
abbrev s__law_ends : Stmt := top 36
abbrev s__law_point : Stmt := top 37
abbrev s_divisor_of_both : Stmt := top 14
abbrev s_divisor_of_all : Stmt := top 13
abbrev s_in_lowest_terms : Stmt := top 12
abbrev s_plus : Stmt := top 7
abbrev s_edges_of : Stmt := top 23
abbrev s_laid_edges_of : Stmt := top 24
abbrev s_laid_of : Stmt := top 19
abbrev s_minus : Stmt := top 8
abbrev s_begins_of : Stmt := top 17
abbrev s_moves_of : Stmt := top 18
abbrev s_times : Stmt := top 9
abbrev s__law_balanced : Stmt := top 38
abbrev s_is_below_zero : Stmt := top 11
abbrev s_less : Stmt := top 10
abbrev s_is_whole : Stmt := top 5
abbrev s_is_number : Stmt := top 6
abbrev s_place_between : Stmt := top 25
abbrev s_piece_at : Stmt := top 20
abbrev s_goes : Stmt := top 21
abbrev s_came : Stmt := top 22
abbrev s__law_laid_right : Stmt := top 39
abbrev s_whole_of : Stmt := top 16
abbrev s__law_point_right : Stmt := top 40
abbrev s_law : Stmt := top 41

abbrev tri (a b c : Int) : List V := [.int a, .int b, .int c]
def lowV (a b c : Int) : List V := tri (a.fdiv (Num.dv a b c)) (b.fdiv (Num.dv a b c)) (c.fdiv (Num.dv a b c))

def spCell (K : PySem.W.Frag) : Sp := fun vs H Q _ => ∃ (a : Addr) (ns : List Int) (k : Int), vs = [.ref a, .int k] ∧ SqL K H a (ns.map V.int) ∧ ns.length ≤ 63 ∧ 0 ≤ k ∧ k ≤ 1000 ∧ ∀ z : Int, Q (.int z) H
def spBox (K : PySem.W.Frag) : Sp := fun vs H Q _ => ∃ (a : Addr) (ns : List Int) (k : Int), vs = [.ref a, .int k] ∧ SqL K H a (ns.map V.int) ∧ ns.length ≤ 63 ∧ 0 ≤ k ∧ k ≤ 1000 ∧
  ∀ (p : Addr) (n : Int) (H' : Hp), H p = none → Same H H' → H' p = some (.lst [.int n]) → Q (.ref p) H' 
def spTake : Sp := fun vs H Q _ => ∃ (p : Addr) (n m : Int), vs = [.ref p, .int m] ∧ H p = some (.lst [.int n]) ∧ 0 < m ∧ Sz 8900 m ∧
  ∀ (n' d : Int), 0 ≤ d → d < m → Q (.int d) (upd H p (.lst [.int n']))
def spLow : Sp := fun vs H Q _ => ∃ (a b c : Int), vs = tri a b c ∧ c ≠ 0 ∧ Sz 8900 c ∧ ∀ p, H p = none → Q (.ref p) (upd H p (.tup (lowV a b c)))
def sgn (x : Int) : Int := (if decide (0 < x) = true then 1 else 0) - (if decide (x < 0) = true then 1 else 0)
def spSign (K : PySem.W.Frag) : Sp := fun vs H Q _ => ∃ (r : Int) (p : Addr) (a b c : Int), vs = [.int r, .ref p] ∧ SqT K H p (tri a b c) ∧ Sz 100 r ∧ Sz 9000 a ∧ Sz 9000 b ∧ Q (.int (sgn (Num.wor r a b))) H
def spPlus (K : PySem.W.Frag) : Sp := fun vs H Q _ => ∃ (p r : Addr) (a b c d e f : Int), vs = [.ref p, .ref r] ∧ SqT K H p (tri a b c) ∧ SqT K H r (tri d e f) ∧ c * f ≠ 0 ∧ Sz 4000 a ∧ Sz 4000 b ∧ Sz 4000 c ∧ Sz 4000 d ∧ Sz 4000 e ∧ Sz 4000 f ∧
  ∀ t, H t = none → Q (.ref t) (upd H t (.tup (lowV (a * f + d * c) (b * f + e * c) (c * f))))
def spNumber (K : PySem.W.Frag) : Sp := fun vs H Q _ => ∃ (p : Addr) (n r : Int), vs = [.ref p, .int r] ∧ H p = some (.lst [.int n]) ∧ Num.Root r ∧
  ∀ (v : V) (x : N3) (n' : Int) (H' : Hp), Ok r 20 x ∧ Wo.Ps r (wN x) → SameX p H H' → H' p = some (.lst [.int n']) → NumAt K H' v x → Q v H' 
def spWith (K : PySem.W.Frag) : Sp := fun vs H Q _ => ∃ (p : Addr) (n r m : Int), vs = [.ref p, .int r, .int m] ∧ H p = some (.lst [.int n]) ∧ Num.Root r ∧ 1 ≤ m ∧ m ≤ 12 ∧
  ∀ (c : Addr) (xs : List N3) (os : List Nat) (n' : Int) (H' : Hp), SameX p H H' → H' p = some (.lst [.int n']) → ChAt K H' c r xs os ∧ (∀ x ∈ xs, Wo.Ps r (wN x)) ∧ (xs.length : Int) ≤ m → Q (.ref c) H' 
def spRoot : Sp := fun vs H Q _ => ∃ (p : Addr) (n : Int), vs = [.ref p] ∧ H p = some (.lst [.int n]) ∧
  ∀ (r n' : Int) (H' : Hp), Num.Root r → SameX p H H' → H' p = some (.lst [.int n']) → Q (.int r) H' 
def spEnds (K : PySem.W.Frag) : Sp := fun vss H Q _ => (∃  (a : Addr) (vs : List V) (xs : List N3) (r : Int), vss = [.ref a] ∧ SqT K H a vs ∧ Nums K H vs xs ∧ (∀ x ∈ xs, Ok r 20 x) ∧ xs.length ≤ 12 ∧ ∀ (l : Addr) (us : List V) (H' : Hp), H l = none → Same H H' → H' l = some (.lst us) → Nums K H' us (ends xs (xs.length + 1)) → Q (.ref l) H') ∨ (∃  (a : Addr) (vs : List V) (xs : List N3) (r : Int), vss = [.ref a] ∧ SqL K H a vs ∧ Nums K H vs xs ∧ (∀ x ∈ xs, Ok r 20 x) ∧ xs.length ≤ 12 ∧ ∀ (l : Addr) (us : List V) (H' : Hp), H l = none → Same H H' → H' l = some (.lst us) → Nums K H' us (ends xs (xs.length + 1)) → Q (.ref l) H')
def spPoint (K : PySem.W.Frag) : Sp := fun vss H Q _ => ∃ (p c : Addr) (n r : Int) (xs : List N3) (os : List Nat), vss = [.ref p, .ref c] ∧ H p = some (.lst [.int n]) ∧ ChAt K H c r xs os ∧ Num.Root r ∧ (∀ x ∈ xs, Wo.Ps r (wN x)) ∧
  ∀ (v : V) (x : N3) (i : Nat) (n' : Int) (H' : Hp), SameX p H H' → H' p = some (.lst [.int n']) → NumAt K H' v x → Ok r 500 x → In r xs i (wN x) → Q v H' 
def spGcd : Sp := fun vs H Q _ => ∃ a b : Int, vs = [.int a, .int b] ∧ Q (.int ((Nat.gcd a.natAbs b.natAbs : Nat) : Int)) H
def spDiv : Sp := fun vs H Q _ => ∃ a b c : Int, vs = tri a b c ∧ Q (.int ((Num.g3 a b c : Nat) : Int)) H
def spLowP : Sp := fun vs H Q _ => ∃ (a b c : Int), vs = tri a b c ∧ c ≠ 0 ∧ Sz 8900 c ∧ ∀ p, H p = none → Q (.ref p) (upd H p (.tup (lowV a b c)))
def spPlusP (K : PySem.W.Frag) : Sp := fun vs H Q _ => ∃ (v : V) (p r : Addr) (x y : N3), vs = [v, .ref p, .ref r] ∧ SqT K H p (vN x) ∧ SqT K H r (vN y) ∧ x.2.2 * y.2.2 ≠ 0 ∧ Sz 7900 x.1 ∧ Sz 7900 x.2.1 ∧ Sz 7900 x.2.2 ∧ Sz 900 y.1 ∧ Sz 900 y.2.1 ∧ Sz 900 y.2.2 ∧
  ∀ t, H t = none → Q (.ref t) (upd H t (.tup (vN (addN x y))))
def spEdges (K : PySem.W.Frag) : Sp := fun vss H Q _ => (∃ (v0 : V) (a : Addr) (vs : List V) (xs : List N3) (r : Int), vss = [v0, .ref a] ∧ SqT K H a vs ∧ Nums K H vs xs ∧ (∀ x ∈ xs, Ok r 20 x) ∧ xs.length ≤ 12 ∧ ∀ (l : Addr) (us : List V) (H' : Hp), H l = none → Same H H' → H' l = some (.lst us) → Nums K H' us (ends xs (xs.length + 1)) → Q (.ref l) H') ∨ (∃ (v0 : V) (a : Addr) (vs : List V) (xs : List N3) (r : Int), vss = [v0, .ref a] ∧ SqL K H a vs ∧ Nums K H vs xs ∧ (∀ x ∈ xs, Ok r 20 x) ∧ xs.length ≤ 12 ∧ ∀ (l : Addr) (us : List V) (H' : Hp), H l = none → Same H H' → H' l = some (.lst us) → Nums K H' us (ends xs (xs.length + 1)) → Q (.ref l) H')
def spLaidE (K : PySem.W.Frag) : Sp := fun vss H Q _ => ∃ (c : Addr) (r : Int) (xs : List N3) (os : List Nat), vss = [.ref c] ∧ ChAt K H c r xs os ∧ ∀ (l : Addr) (us : List V) (H' : Hp), H l = none → Same H H' → H' l = some (.lst us) → Nums K H' us (ends (laidL xs os) (os.length + 1)) → Q (.ref l) H'
def spLaidOf (K : PySem.W.Frag) : Sp := fun vss H Q _ => ∃ (c : Addr) (r : Int) (xs : List N3) (os : List Nat), vss = [.ref c] ∧ ChAt K H c r xs os ∧ ∀ (l : Addr) (ts : List Addr) (us : List V) (H' : Hp), H l = none → Same H H' → H' l = some (.lst (ts.map V.ref)) → ts.length = os.length → Nums K H' us (ends (laidL xs os) os.length) → (∀ (i : Nat) (T : Addr) (o : Nat) (u : V), ts[i]? = some T → os[i]? = some o → us[i]? = some u → H' T = some (.tup [.int (o : Int), u])) → Q (.ref l) H'
def spMinusP (K : PySem.W.Frag) : Sp := fun vs H Q _ => ∃ (v : V) (p r : Addr) (x y : N3), vs = [v, .ref p, .ref r] ∧ SqT K H p (vN x) ∧ SqT K H r (vN y) ∧ x.2.2 * y.2.2 ≠ 0 ∧ Sz 7900 x.1 ∧ Sz 7900 x.2.1 ∧ Sz 7900 x.2.2 ∧ Sz 900 y.1 ∧ Sz 900 y.2.1 ∧ Sz 900 y.2.2 ∧
  ∀ t, H t = none → Q (.ref t) (upd H t (.tup (vN (subN x y))))
def spBegins (K : PySem.W.Frag) : Sp := fun vss H Q _ => ∃ (c : Addr) (r : Int) (xs : List N3) (os : List Nat), vss = [.ref c] ∧ ChAt K H c r xs os ∧ ∀ (t : Addr) (us : List V) (H' : Hp), Same H H' → H' t = some (.tup us) → Nums K H' us (ends xs xs.length) → Q (.ref t) H'
def spMoves (K : PySem.W.Frag) : Sp := fun vss H Q _ => ∃ (c : Addr) (r : Int) (xs : List N3) (os : List Nat), vss = [.ref c] ∧ ChAt K H c r xs os ∧ ∀ (t : Addr) (us : List V) (H' : Hp), Same H H' → H' t = some (.tup us) → Nums K H' us ((List.range xs.length).map fun i => subN (pre (laidL xs os) (os.idxOf i)) (pre xs i)) → Q (.ref t) H'
def spTimes (K : PySem.W.Frag) : Sp := fun vs H Q _ => ∃ (r : Int) (p t : Addr) (x y : N3), vs = [.int r, .ref p, .ref t] ∧ SqT K H p (vN x) ∧ SqT K H t (vN y) ∧ x.2.2 * y.2.2 ≠ 0 ∧ Sz 100 r ∧ Sz 4000 x.1 ∧ Sz 4000 x.2.1 ∧ Sz 4000 x.2.2 ∧ Sz 4000 y.1 ∧ Sz 4000 y.2.1 ∧ Sz 4000 y.2.2 ∧
  ∀ u, H u = none → Q (.ref u) (upd H u (.tup (vN (mulN r x y))))
def spBalanced (K : PySem.W.Frag) : Sp := fun vss H Q _ => ∃ (c : Addr) (r : Int) (xs : List N3) (os : List Nat), vss = [.ref c] ∧ ChAt K H c r xs os ∧ Num.Root r ∧ xs.length ≤ 8 ∧ ∀ H', Same H H' → Q (.bl true) H' 
def spBelow : Sp := fun vs H Q _ => ∃ r a b : Int, vs = tri r a b ∧ Sz 100 r ∧ Sz 16000 a ∧ Sz 16000 b ∧ Q (.bl (Num.below r a b)) H
def spLessP (K : PySem.W.Frag) : Sp := fun vs H Q _ => ∃ (r : Int) (p t : Addr) (x y : N3), vs = [.int r, .ref p, .ref t] ∧ SqT K H p (vN x) ∧ SqT K H t (vN y) ∧ Sz 100 r ∧ Sz 7900 x.1 ∧ Sz 7900 x.2.1 ∧ Sz 7900 x.2.2 ∧ Sz 7900 y.1 ∧ Sz 7900 y.2.1 ∧ Sz 7900 y.2.2 ∧ Q (.bl (ltN r x y)) H
def spIsWhole : Sp := fun vs H Q _ => ∃ i : Int, vs = [.int i] ∧ Q (.bl true) H
def spIsNumberP (K : PySem.W.Frag) (tabs : List Addr) : Sp := fun vs H Q _ => ∃ (r : Int) (v : V) (x : N3), vs = [.int r, v] ∧ NumAt K H v x ∧ Ok r 8000 x ∧ Tabs tabs H ∧ ∀ H', Same H H' → Q (.bl true) H' 
def spPlace (K : PySem.W.Frag) (tabs : List Addr) : Sp := fun vs H Q _ => ∃ (r : Int) (l : Addr) (us : List V) (v : V) (x : N3) (ys : List N3), vs = [.int r, .ref l, v] ∧ H l = some (.lst us) ∧ Nums K H us (ends ys (ys.length + 1)) ∧ Num.Root r ∧ (∀ y ∈ ys, Ok r 20 y) ∧ (∀ y ∈ ys, Wo.Ps r (wN y)) ∧ ys.length ≤ 12 ∧
  NumAt K H v x ∧ Ok r 3000 x ∧ Tabs tabs H ∧ Wo.Le r Wo.z (wN x) ∧ Wo.Lt r (wN x) (Bw ys ys.length) ∧ ∀ (i : Nat) (H' : Hp), Same H H' → In r ys i (wN x) → Q (.int (i : Int)) H' 
def spPieceAt (K : PySem.W.Frag) (tabs : List Addr) : Sp := fun vss H Q _ => ∃ (c : Addr) (r : Int) (xs : List N3) (os : List Nat) (v : V) (x : N3), vss = [.ref c, v] ∧ ChAt K H c r xs os ∧ Num.Root r ∧ (∀ y ∈ xs, Wo.Ps r (wN y)) ∧ NumAt K H v x ∧ Ok r 3000 x ∧ Tabs tabs H ∧ Wo.Le r Wo.z (wN x) ∧ Wo.Lt r (wN x) (Bw xs xs.length) ∧ ∀ (i : Nat) (H' : Hp), Same H H' → In r xs i (wN x) → Q (.int (i : Int)) H'
def spGoes (K : PySem.W.Frag) (tabs : List Addr) : Sp := fun vss H Q _ => ∃ (c : Addr) (r : Int) (xs : List N3) (os : List Nat) (v : V) (x : N3), vss = [.ref c, v] ∧ ChAt K H c r xs os ∧ Num.Root r ∧ (∀ y ∈ xs, Wo.Ps r (wN y)) ∧ NumAt K H v x ∧ Ok r 3000 x ∧ Tabs tabs H ∧ Wo.Le r Wo.z (wN x) ∧ Wo.Lt r (wN x) (Bw xs xs.length) ∧ ∀ (i : Nat) (t : Addr) (H' : Hp), Same H H' → In r xs i (wN x) → NumAt K H' (.ref t) (addN x (mvN xs os i)) → Q (.ref t) H'
def spCame (K : PySem.W.Frag) (tabs : List Addr) : Sp := fun vss H Q _ => ∃ (c : Addr) (r : Int) (xs : List N3) (os : List Nat) (v : V) (x : N3), vss = [.ref c, v] ∧ ChAt K H c r xs os ∧ Num.Root r ∧ (∀ y ∈ xs, Wo.Ps r (wN y)) ∧ NumAt K H v x ∧ Ok r 3000 x ∧ Tabs tabs H ∧ Wo.Le r Wo.z (wN x) ∧ Wo.Lt r (wN x) (Bw xs xs.length) ∧ ∀ (k : Nat) (t : Addr) (H' : Hp), Same H H' → In r (laidL xs os) k (wN x) → NumAt K H' (.ref t) (subN x (mvN xs os (os.getD k 0))) → Q (.ref t) H'
def spLaidRight (K : PySem.W.Frag) (tabs : List Addr) : Sp := fun vss H Q _ => ∃ (c : Addr) (r : Int) (xs : List N3) (os : List Nat), vss = [.ref c] ∧ ChAt K H c r xs os ∧ Num.Root r ∧ (∀ y ∈ xs, Wo.Ps r (wN y)) ∧ Tabs tabs H ∧ ∀ H', Same H H' → Q (.bl true) H' 
def spWholeOf (K : PySem.W.Frag) : Sp := fun vss H Q _ => ∃ (c : Addr) (r : Int) (xs : List N3) (os : List Nat), vss = [.ref c] ∧ ChAt K H c r xs os ∧ ∀ (v : V) (H' : Hp), Same H H' → NumAt K H' v (pre xs xs.length) → Q v H'
def spPointRight (K : PySem.W.Frag) (tabs : List Addr) : Sp := fun vss H Q _ => ∃ (c : Addr) (r : Int) (xs : List N3) (os : List Nat) (v : V) (x : N3) (i : Nat), vss = [.ref c, v] ∧ ChAt K H c r xs os ∧ Num.Root r ∧ (∀ y ∈ xs, Wo.Ps r (wN y)) ∧ Tabs tabs H ∧ NumAt K H v x ∧ Ok r 500 x ∧ In r xs i (wN x) ∧ ∀ H', Same H H' → Q (.bl true) H' 
def spLaw (K : PySem.W.Frag) (tabs : List Addr) : Sp := fun vs H Q _ => ∃ (a : Addr) (ns : List Int), vs = [.ref a] ∧ SqL K H a (ns.map V.int) ∧ ns.length ≤ 63 ∧ Tabs tabs H ∧ ∀ H', Tabs tabs H' → Q (.bl true) H' 
section
variable {P : Program} {w : World} {K : PySem.W.Frag} {mg : Str → Option Value} {base : Heap} {tabs : List Addr} {bm : Addr} {ob : Obj}
theorem sc__law_cell : FnScope ["_law_script", "_law_k"] ["_law_script", "_law_k"] (defScope s__law_cell) := ⟨rfl, rfl, rfl, by decide +kernel, rfl, by decide +kernel, by decide +kernel⟩
set_option maxHeartbeats 4000000 in
theorem ok__law_cell {f : Addr} {fd : FuncData} {n : Nat}  (F : Fun K "_law_cell" "_law_cell" s__law_cell f fd) (m_len : mg "len" = none) :
    FnOk P w K mg base CX0 (n + 1) f fd ["_law_script", "_law_k"] (spCell K) := by
  refine F.ok sc__law_cell (fun vs H Q E h => ?_) (fun cdv A outer s H vs Q E hr h => ?_)
  · obtain ⟨a, ns, k, rfl, _⟩ := h
    rfl
  obtain ⟨a, ns, k, rfl, hS, h63, h0, h1, q⟩ := h
  refine ⟨_, (pss_cons (ps_if (pt_cmpR op_lt (pv 1) (pe_callB call_len_seq (by rfl) m_len (by decide +kernel) (pa_cons (pv 0) pa_nil)) (nomark _)) (pss_one (ps_ret (pe_ix ix_list (pv 0) (pv 1) (fun _ _ => rfl)))) pss_nil)
      (pss_one (ps_ret (pe_op op_add (pe_op op_mulB pe_int (pv 1)) pe_int)))), ?_⟩
  refine ⟨_, rfl, _, rfl, a, _, rfl, .inl hS, _, _, rfl, rfl, _, rfl, ?_⟩
  refine ite2 (fun c => ?_) (fun c => ?_)
  · have c' : k < ((ns.map V.int).length : Int) := of_decide_eq_true c
    rw [List.length_map] at c'
    have hk : k.toNat < ns.length := by omega
    exact ⟨_, rfl, _, rfl, a, _, _, .int ns[k.toNat], rfl, rfl, hS, at_of (j := k.toNat) (by omega) (by rw [List.getElem?_map, List.getElem?_eq_getElem hk]; rfl), q _⟩
  · exact ⟨_, rfl, _, _, rfl, rfl, ⟨Sz.of_nat 6151 (by decide), Sz.of_nat 1000 (by omega)⟩, _, _, rfl, rfl, q _⟩
theorem sc__law_box : FnScope ["_law_script", "_law_k", "_law_cell_here", "_law_number_here", "_law_mixed", "_law_j"] ["_law_script", "_law_k"] (defScope s__law_box) := ⟨rfl, rfl, rfl, by decide +kernel, rfl, by decide +kernel, by decide +kernel⟩
set_option maxHeartbeats 4000000 in
theorem ok__law_box {f : Addr} {fd : FuncData} {n : Nat}  (F : Fun K "_law_box" "_law_box" s__law_box f fd) (C__law_cell : Cal P w K mg base n "_law_cell" ["_law_script", "_law_k"] (spCell K)) (m_range : mg "range" = none) :
    FnOk P w K mg base CX0 (n + 1) f fd ["_law_script", "_law_k"] (spBox K) := by
  obtain ⟨f__law_cell, fd__law_cell, G__law_cell, b__law_cell, k__law_cell, m__law_cell⟩ := C__law_cell.ex
  refine F.ok sc__law_box (fun vs H Q E h => ?_) (fun cdv A outer s H vs Q E hr h => ?_)
  · obtain ⟨a, ns, k, rfl, _⟩ := h
    rfl
  obtain ⟨a, ns, k, rfl, hS, h63, h0, h1, q⟩ := h
  refine ⟨_, (pss_cons (ps_set (i := 2) sc__law_box.nd rfl (by first | exact Or.inl rfl | exact Or.inr rfl) (pe_call G__law_cell hr (by rfl) m__law_cell k__law_cell b__law_cell .nil pass0 (pa_cons (pv 0) (pa_cons (pv 1) pa_nil))))
      (pss_cons (ps_if (pt_cmpR op_eq (pe_op op_mod (pv 2) pe_int) pe_int (nomark _)) (pss_one (ps_ret (pe_lst (pa_cons (pe_op op_fdivP (pv 2) pe_int) pa_nil)))) pss_nil)
      (pss_cons (ps_set (i := 3) sc__law_box.nd rfl (by first | exact Or.inl rfl | exact Or.inr rfl) pe_int)
      (pss_cons (ps_set (i := 4) sc__law_box.nd rfl (by first | exact Or.inl rfl | exact Or.inr rfl) (pe_op op_mod (pv 2) pe_int))
      (pss_cons (ps_for PassesOwn.never (by rfl) (pi_range1 (by rfl) m_range (pa_cons pe_int pa_nil)) (pg_name (i := 5) sc__law_box.nd rfl (by first | exact Or.inl rfl | exact Or.inr rfl)) (pss_cons (ps_set (i := 4) sc__law_box.nd rfl (by first | exact Or.inl rfl | exact Or.inr rfl) (pe_op op_mod (pe_op op_add (pe_op op_add (pe_op op_add (pe_op op_mulS (pv 4) pe_int) (pe_op op_mulS (pe_op op_mulS pe_int (pv 5)) (pv 5))) (pe_op op_mulS pe_int (pv 1))) pe_int) pe_int))
      (pss_one (ps_set (i := 3) sc__law_box.nd rfl (by first | exact Or.inl rfl | exact Or.inr rfl) (pe_op op_add (pe_op op_mulS (pv 3) pe_int) (pv 4))))))
      (pss_one (ps_ret (pe_lst (pa_cons (pv 3) pa_nil))))))))), ?_⟩
  refine ⟨_, rfl, _, rfl, a, ns, k, rfl, hS, h63, h0, h1, fun z => ?_⟩
  refine ⟨_, rfl, _, _, rfl, rfl, (by show (0 : Int) < 2; decide), rfl, _, rfl, ?_⟩
  refine ite2 (fun c => ?_) (fun c => ?_)
  · exact ⟨_, rfl, _, _, rfl, rfl, ⟨by decide, Sz.of_nat 2 (by decide)⟩, smallB rfl, fun p hp => q p _ _ hp (Same.new hp _) upd_same⟩
  refine ⟨_, rfl, _, _, rfl, rfl, (by show (0 : Int) < 2147483647; decide), ?_⟩
  refine ⟨24, rfl, by decide, by decide, for_range (n := 24) (fun i σ H' => ∃ (num mix : Int) (v : Option V), σ = [some (.ref a), some (.int k), some (.int z), some (.int num), some (.int mix), v] ∧ H = H')
    ⟨_, _, _, rfl, rfl⟩ ?_ ?_⟩
  · rintro i σ H' hi ⟨num, mix, v, rfl, rfl⟩
    have hi' : Sz 64 (0 + (i : Int)) := Sz.sm 24 (by omega)
    refine ⟨_, rfl, _, _, rfl, rfl, .inr (Sz.sm 48271 (by decide)), _, rfl, _, _, rfl, rfl, .inr hi', _, rfl, _, _, rfl, rfl, .inr hi', _, _, rfl, rfl, ?_⟩
    refine ⟨_, rfl, _, _, rfl, rfl, .inl (Sz.sm 11 (by decide)), _, _, rfl, rfl, _, _, rfl, rfl, _, _, rfl, rfl, (by show (0 : Int) < 2147483647; decide), ?_⟩
    exact ⟨_, rfl, _, _, rfl, rfl, .inr (Sz.sm 2147483647 (by decide)), _, rfl, _, _, rfl, rfl, _, _, _, rfl, rfl⟩
  · rintro σ H' ⟨num, mix, v, rfl, rfl⟩
    exact ⟨_, rfl, smallB rfl, fun p hp => q p _ _ hp (Same.new hp _) upd_same⟩
theorem sc__law_take : FnScope ["_law_box_here", "_law_many", "_law_digit"] ["_law_box_here", "_law_many"] (defScope s__law_take) := ⟨rfl, rfl, rfl, by decide +kernel, rfl, by decide +kernel, by decide +kernel⟩
set_option maxHeartbeats 4000000 in
theorem ok__law_take {f : Addr} {fd : FuncData} {n : Nat}  (F : Fun K "_law_take" "_law_take" s__law_take f fd) :
    FnOk P w K mg base CX0 (n + 1) f fd ["_law_box_here", "_law_many"] spTake := by
  refine F.ok sc__law_take (fun vs H Q E h => ?_) (fun cdv A outer s H vs Q E hr h => ?_)
  · obtain ⟨p, n, m, rfl, _⟩ := h
    rfl
  obtain ⟨p, n, m, rfl, hp, hm, hz, q⟩ := h
  refine ⟨_, (pss_cons (ps_set (i := 2) sc__law_take.nd rfl (by first | exact Or.inl rfl | exact Or.inr rfl) (pe_op op_mod (pe_ix ix_list (pv 0) pe_int (fun _ _ => rfl)) (pv 1)))
      (pss_cons (ps_asg (pe_op op_fdivP (pe_ix ix_list (pv 0) pe_int (fun _ _ => rfl)) (pv 1)) (pg_sub (pv 0) pe_int set_list))
      (pss_one (ps_ret (pv 2))))), ?_⟩
  refine ⟨_, rfl, p, _, _, _, rfl, rfl, SqL.of hp, at0, _, rfl, _, _, rfl, rfl, hm, ?_⟩
  refine ⟨_, rfl, p, _, _, _, rfl, rfl, SqL.of hp, at0, _, rfl, _, _, rfl, rfl, ⟨hm, hz⟩, ?_⟩
  refine ⟨_, rfl, p, _, _, 0, rfl, rfl, hp, rfl, ?_⟩
  exact ⟨_, rfl, q (n / m) (n % m) (Int.emod_nonneg _ (by omega)) (Int.emod_lt_of_pos _ hm)⟩
theorem sc__law_low : FnScope ["_law_a", "_law_b", "_law_c", "_law_one", "_law_other"] ["_law_a", "_law_b", "_law_c"] (defScope s__law_low) := ⟨rfl, rfl, rfl, by decide +kernel, rfl, by decide +kernel, by decide +kernel⟩
set_option maxHeartbeats 4000000 in
theorem ok__law_low {f : Addr} {fd : FuncData} {n : Nat}  (F : Fun K "_law_low" "_law_low" s__law_low f fd) (m_abs : mg "abs" = none) :
    FnOk P w K mg base CX0 (n + 1) f fd ["_law_a", "_law_b", "_law_c"] spLow := by
  refine F.ok sc__law_low (fun vs H Q E h => ?_) (fun cdv A outer s H vs Q E hr h => ?_)
  · obtain ⟨a, b, c, rfl, _⟩ := h
    rfl
  obtain ⟨a, b, c, rfl, hc, hz, q⟩ := h
  refine ⟨_, (pss_cons (ps_par (by rfl) sc__law_low.nd (i := 3) (j := 4) rfl rfl (by decide) rfl rfl (pa_cons (pe_callB call_abs (by rfl) m_abs (by decide +kernel) (pa_cons (pv 0) pa_nil)) (pa_cons (pe_callB call_abs (by rfl) m_abs (by decide +kernel) (pa_cons (pv 1) pa_nil)) pa_nil)) (by rfl))
      (pss_cons (ps_while PassesOwn.never (pt_cmpR op_gt (pv 4) pe_int (nomark _)) (pss_one (ps_par (by rfl) sc__law_low.nd (i := 3) (j := 4) rfl rfl (by decide) rfl rfl (pa_cons (pv 4) (pa_cons (pe_op op_mod (pv 3) (pv 4)) pa_nil)) (by rfl))))
      (pss_cons (ps_set (i := 4) sc__law_low.nd rfl (by first | exact Or.inl rfl | exact Or.inr rfl) (pe_callB call_abs (by rfl) m_abs (by decide +kernel) (pa_cons (pv 2) pa_nil)))
      (pss_cons (ps_while PassesOwn.never (pt_cmpR op_gt (pv 4) pe_int (nomark _)) (pss_one (ps_par (by rfl) sc__law_low.nd (i := 3) (j := 4) rfl rfl (by decide) rfl rfl (pa_cons (pv 4) (pa_cons (pe_op op_mod (pv 3) (pv 4)) pa_nil)) (by rfl))))
      (pss_cons (ps_if (pt_cmpR op_lt (pv 2) pe_int (nomark _)) (pss_one (ps_set (i := 3) sc__law_low.nd rfl (by first | exact Or.inl rfl | exact Or.inr rfl) (pe_un un_neg (pv 3)))) pss_nil)
      (pss_one (ps_ret (pe_tup (pa_cons (pe_op op_fdivB (pv 0) (pv 3)) (pa_cons (pe_op op_fdivB (pv 1) (pv 3)) (pa_cons (pe_op op_fdivB (pv 2) (pv 3)) pa_nil))))))))))), ?_⟩
  refine ⟨_, rfl, _, rfl, _, rfl, _, rfl, _, _, rfl, ?_⟩
  refine while_by (fun σ H' => ∃ x y : Int, σ = [some (.int a), some (.int b), some (.int c), some (.int x), some (.int y)] ∧ H = H' ∧ 0 ≤ x ∧ 0 ≤ y ∧ Nat.gcd x.natAbs y.natAbs = Nat.gcd a.natAbs b.natAbs)
    (fun σ _ => match σ with | [_, _, _, _, some (.int y)] => y.toNat | _ => 0) ?_ ?_ (fun σ H Q Q' hQ h => by
      obtain ⟨v, hv, i, j, e1, e2, k, e3, hq⟩ := h
      exact ⟨v, hv, i, j, e1, e2, k, e3, hQ _ _ hq⟩)
  · exact ⟨_, _, rfl, rfl, if_nn a, if_nn b, by rw [nat_if, nat_if]⟩
  rintro σ H' ⟨x, y, rfl, rfl, hx, hy, hg⟩
  refine ⟨_, rfl, _, _, rfl, rfl, _, rfl, ?_⟩
  refine ite2 (fun ct => ?_) (fun ct => ?_)
  · have hy' : 0 < y := of_decide_eq_true ct
    refine ⟨_, rfl, _, rfl, _, rfl, _, _, rfl, rfl, hy', _, _, rfl, ⟨_, _, rfl, rfl, hy, Int.emod_nonneg _ (by omega), ?_⟩, ?_⟩
    · rw [← hg, Num.gcd_turn hx hy']
    · show (x % y).toNat < y.toNat
      have := Int.emod_lt_of_pos x hy'
      omega
  have hy0 : y = 0 := by have h1 : ¬ 0 < y := of_decide_eq_false (Bool.eq_false_iff.mpr ct); omega
  subst hy0
  rw [Int.natAbs_zero, Nat.gcd_zero_right] at hg
  
  refine ⟨_, rfl, _, rfl, ?_⟩
  refine while_by (fun σ H' => ∃ x y : Int, σ = [some (.int a), some (.int b), some (.int c), some (.int x), some (.int y)] ∧ H = H' ∧ 0 ≤ x ∧ 0 ≤ y ∧ Nat.gcd x.natAbs y.natAbs = Num.g3 a b c)
    (fun σ _ => match σ with | [_, _, _, _, some (.int y)] => y.toNat | _ => 0) ?_ ?_ (fun σ H Q Q' hQ h => by
      obtain ⟨v, hv, i, j, e1, e2, k, e3, hq⟩ := h
      exact ⟨v, hv, i, j, e1, e2, k, e3, hQ _ _ hq⟩)
  · exact ⟨_, _, rfl, rfl, hx, if_nn c, by rw [nat_if, hg]; rfl⟩
  rintro σ H' ⟨x, y, rfl, rfl, hx, hy, hg⟩
  refine ⟨_, rfl, _, _, rfl, rfl, _, rfl, ?_⟩
  refine ite2 (fun ct => ?_) (fun ct => ?_)
  · have hy' : 0 < y := of_decide_eq_true ct
    refine ⟨_, rfl, _, rfl, _, rfl, _, _, rfl, rfl, hy', _, _, rfl, ⟨_, _, rfl, rfl, hy, Int.emod_nonneg _ (by omega), ?_⟩, ?_⟩
    · rw [← hg, Num.gcd_turn hx hy']
    · show (x % y).toNat < y.toNat
      have := Int.emod_lt_of_pos x hy'
      omega
  have hy0 : y = 0 := by have h1 : ¬ 0 < y := of_decide_eq_false (Bool.eq_false_iff.mpr ct); omega
  subst hy0
  rw [Int.natAbs_zero, Nat.gcd_zero_right] at hg
  
  have hg3 : x = (Num.g3 a b c : Int) := by omega
  have fin : ∀ o : Int, o = Num.dv a b c → (tRet (tTup (tCons (tOp (rI CDivB fun i j => .int (i.fdiv j)) (tVar 0) (tVar 3)) (tCons (tOp (rI CDivB fun i j => .int (i.fdiv j)) (tVar 1) (tVar 3)) (tCons (tOp (rI CDivB fun i j => .int (i.fdiv j)) (tVar 2) (tVar 3)) tNil))))) { nx := fun _ H' => Q .non H', rt := Q } [some (.int a), some (.int b), some (.int c), some (.int o), some (.int 0)] H := by
    rintro o rfl
    have hd : CDivB 0 (Num.dv a b c) := ⟨Num.dv_ne hc, hz.of_le (by rw [Num.dv_abs]; exact Num.g3_le hc)⟩
    exact ⟨_, rfl, _, rfl, _, _, rfl, rfl, hd, _, rfl, _, rfl, _, _, rfl, rfl, hd, _, rfl, _, rfl, _, _, rfl, rfl, hd, smallB rfl, q⟩
  refine ⟨_, rfl, _, _, rfl, rfl, _, rfl, ?_⟩
  refine ite2 (fun cc => ?_) (fun cc => ?_)
  · have h0 : c < 0 := of_decide_eq_true cc
    refine ⟨_, rfl, _, rfl, ?_⟩
    exact fin (-x) (by unfold Num.dv; rw [if_pos h0, hg3])
  · have h0 : ¬ c < 0 := of_decide_eq_false (Bool.eq_false_iff.mpr cc)
    exact fin x (by unfold Num.dv; rw [if_neg h0, hg3])
theorem sc__law_sign : FnScope ["_law_root_here", "_law_one", "_law_worth"] ["_law_root_here", "_law_one"] (defScope s__law_sign) := ⟨rfl, rfl, rfl, by decide +kernel, rfl, by decide +kernel, by decide +kernel⟩
set_option maxHeartbeats 4000000 in
theorem ok__law_sign {f : Addr} {fd : FuncData} {n : Nat}  (F : Fun K "_law_sign" "_law_sign" s__law_sign f fd) (m_int : mg "int" = none) (m_abs : mg "abs" = none) :
    FnOk P w K mg base CX0 (n + 1) f fd ["_law_root_here", "_law_one"] (spSign K) := by
  refine F.ok sc__law_sign (fun vs H Q E h => ?_) (fun cdv A outer s H vs Q E hr h => ?_)
  · obtain ⟨r, p, a, b, c, rfl, _⟩ := h
    rfl
  obtain ⟨r, p, a, b, c, rfl, h1, zr, za, zb, q⟩ := h
  refine ⟨_, (pss_cons (ps_set (i := 2) sc__law_sign.nd rfl (by first | exact Or.inl rfl | exact Or.inr rfl) (pe_op op_add (pe_op op_mulB (pe_ix ix_tup (pv 1) pe_int (fun _ _ => rfl)) (pe_callB call_abs (by rfl) m_abs (by decide +kernel) (pa_cons (pe_ix ix_tup (pv 1) pe_int (fun _ _ => rfl)) pa_nil))) (pe_op op_mulB (pe_op op_mulB (pv 0) (pe_ix ix_tup (pv 1) pe_int (fun _ _ => rfl))) (pe_callB call_abs (by rfl) m_abs (by decide +kernel) (pa_cons (pe_ix ix_tup (pv 1) pe_int (fun _ _ => rfl)) pa_nil)))))
      (pss_one (ps_ret (pe_op op_sub (pe_callTy call_int1 (by rfl) m_int (by decide +kernel) (pa_cons (pe_cmpR op_gt (pv 2) pe_int (nomark _)) pa_nil)) (pe_callTy call_int1 (by rfl) m_int (by decide +kernel) (pa_cons (pe_cmpR op_lt (pv 2) pe_int (nomark _)) pa_nil)))))), ?_⟩
  refine ⟨_, rfl, p, _, _, _, rfl, rfl, h1, at0, _, rfl, p, _, _, _, rfl, rfl, h1, at0, _, rfl, _, _, rfl, rfl, ⟨za.mono, za.abs.mono⟩, ?_⟩
  refine ⟨_, rfl, _, rfl, p, _, _, _, rfl, rfl, h1, at1, _, _, rfl, rfl, ⟨zr.mono, zb.mono⟩, _, rfl, p, _, _, _, rfl, rfl, h1, at1, _, rfl, _, _, rfl, rfl, ⟨(zr.mul zb).mono, zb.abs.mono⟩, _, _, rfl, rfl, ?_⟩
  exact ⟨_, rfl, _, _, rfl, rfl, .inr ⟨_, rfl, _, rfl, _, _, rfl, rfl, .inr ⟨_, rfl, _, _, rfl, rfl, q⟩⟩⟩
theorem sc__law_plus : FnScope ["_law_one", "_law_other", "_law_a", "_law_b", "_law_c", "_law_d", "_law_e", "_law_f"] ["_law_one", "_law_other"] (defScope s__law_plus) := ⟨rfl, rfl, rfl, by decide +kernel, rfl, by decide +kernel, by decide +kernel⟩
set_option maxHeartbeats 4000000 in
theorem ok__law_plus {f : Addr} {fd : FuncData} {n : Nat}  (F : Fun K "_law_plus" "_law_plus" s__law_plus f fd) (C__law_low : Cal P w K mg base n "_law_low" ["_law_a", "_law_b", "_law_c"] spLow) :
    FnOk P w K mg base CX0 (n + 1) f fd ["_law_one", "_law_other"] (spPlus K) := by
  obtain ⟨f__law_low, fd__law_low, G__law_low, b__law_low, k__law_low, m__law_low⟩ := C__law_low.ex
  refine F.ok sc__law_plus (fun vs H Q E h => ?_) (fun cdv A outer s H vs Q E hr h => ?_)
  · obtain ⟨p, r, a, b, c, d, e, f, rfl, _⟩ := h
    rfl
  obtain ⟨p, r, a, b, c, d, e, f', rfl, h1, h2, hcf, za, zb, zc, zd, ze, zf, q⟩ := h
  refine ⟨_, (pss_cons (ps_asg (pv 0) (pg_tup (n := 3) (by rfl) (pgs_cons (pg_name (i := 2) sc__law_plus.nd rfl (by first | exact Or.inl rfl | exact Or.inr rfl)) (pgs_cons (pg_name (i := 3) sc__law_plus.nd rfl (by first | exact Or.inl rfl | exact Or.inr rfl)) (pgs_cons (pg_name (i := 4) sc__law_plus.nd rfl (by first | exact Or.inl rfl | exact Or.inr rfl)) pgs_nil)))))
      (pss_cons (ps_asg (pv 1) (pg_tup (n := 3) (by rfl) (pgs_cons (pg_name (i := 5) sc__law_plus.nd rfl (by first | exact Or.inl rfl | exact Or.inr rfl)) (pgs_cons (pg_name (i := 6) sc__law_plus.nd rfl (by first | exact Or.inl rfl | exact Or.inr rfl)) (pgs_cons (pg_name (i := 7) sc__law_plus.nd rfl (by first | exact Or.inl rfl | exact Or.inr rfl)) pgs_nil)))))
      (pss_one (ps_ret (pe_call G__law_low hr (by rfl) m__law_low k__law_low b__law_low .nil pass0 (pa_cons (pe_op op_add (pe_op op_mulB (pv 2) (pv 7)) (pe_op op_mulB (pv 5) (pv 4))) (pa_cons (pe_op op_add (pe_op op_mulB (pv 3) (pv 7)) (pe_op op_mulB (pv 6) (pv 4))) (pa_cons (pe_op op_mulB (pv 4) (pv 7)) pa_nil)))))))), ?_⟩
  refine ⟨_, rfl, p, _, rfl, h1, rfl, ?_⟩
  refine ⟨_, _, rfl, _, _, rfl, _, _, rfl, rfl, ?_⟩
  refine ⟨_, rfl, r, _, rfl, h2, rfl, ?_⟩
  refine ⟨_, _, rfl, _, _, rfl, _, _, rfl, rfl, ?_⟩
  refine ⟨_, rfl, _, rfl, _, _, rfl, rfl, ⟨za.mono, zf.mono⟩, _, rfl, _, rfl, _, _, rfl, rfl, ⟨zd.mono, zc.mono⟩, _, _, rfl, rfl, ?_⟩
  refine ⟨_, rfl, _, rfl, _, _, rfl, rfl, ⟨zb.mono, zf.mono⟩, _, rfl, _, rfl, _, _, rfl, rfl, ⟨ze.mono, zc.mono⟩, _, _, rfl, rfl, ?_⟩
  refine ⟨_, rfl, _, rfl, _, _, rfl, rfl, ⟨zc.mono, zf.mono⟩, _, _, _, rfl, hcf, (zc.mul zf).mono, q⟩
theorem sc__law_number : FnScope ["_law_box_here", "_law_root_here", "_law_b", "_law_found"] ["_law_box_here", "_law_root_here"] (defScope s__law_number) := ⟨rfl, rfl, rfl, by decide +kernel, rfl, by decide +kernel, by decide +kernel⟩
set_option maxHeartbeats 4000000 in
theorem ok__law_number {f : Addr} {fd : FuncData} {n : Nat}  (F : Fun K "_law_number" "_law_number" s__law_number f fd) (C__law_low : Cal P w K mg base n "_law_low" ["_law_a", "_law_b", "_law_c"] spLow) (C__law_sign : Cal P w K mg base n "_law_sign" ["_law_root_here", "_law_one"] (spSign K)) (C__law_plus : Cal P w K mg base n "_law_plus" ["_law_one", "_law_other"] (spPlus K)) (C__law_take : Cal P w K mg base n "_law_take" ["_law_box_here", "_law_many"] spTake) (m_int : mg "int" = none) :
    FnOk P w K mg base CX0 (n + 1) f fd ["_law_box_here", "_law_root_here"] (spNumber K) := by
  obtain ⟨f__law_low, fd__law_low, G__law_low, b__law_low, k__law_low, m__law_low⟩ := C__law_low.ex
  obtain ⟨f__law_sign, fd__law_sign, G__law_sign, b__law_sign, k__law_sign, m__law_sign⟩ := C__law_sign.ex
  obtain ⟨f__law_plus, fd__law_plus, G__law_plus, b__law_plus, k__law_plus, m__law_plus⟩ := C__law_plus.ex
  obtain ⟨f__law_take, fd__law_take, G__law_take, b__law_take, k__law_take, m__law_take⟩ := C__law_take.ex
  refine F.ok sc__law_number (fun vs H Q E h => ?_) (fun cdv A outer s H vs Q E hr h => ?_)
  · obtain ⟨p, n, r, rfl, _⟩ := h
    rfl
  obtain ⟨p, n, r, rfl, hp, hR, q⟩ := h
  refine ⟨_, (pss_cons (ps_set (i := 2) sc__law_number.nd rfl (by first | exact Or.inl rfl | exact Or.inr rfl) (pe_op op_mulB (pe_op op_sub (pe_call G__law_take hr (by rfl) m__law_take k__law_take b__law_take .nil pass0 (pa_cons (pv 0) (pa_cons pe_int pa_nil))) pe_int) (pe_callTy call_int1 (by rfl) m_int (by decide +kernel) (pa_cons (pe_cmpR op_gt (pv 1) pe_int (nomark _)) pa_nil))))
      (pss_cons (ps_set (i := 3) sc__law_number.nd rfl (by first | exact Or.inl rfl | exact Or.inr rfl) (pe_call G__law_low hr (by rfl) m__law_low k__law_low b__law_low .nil pass0 (pa_cons (pe_op op_add pe_int (pe_call G__law_take hr (by rfl) m__law_take k__law_take b__law_take .nil pass0 (pa_cons (pv 0) (pa_cons pe_int pa_nil)))) (pa_cons (pv 2) (pa_cons (pe_op op_add pe_int (pe_call G__law_take hr (by rfl) m__law_take k__law_take b__law_take .nil pass0 (pa_cons (pv 0) (pa_cons pe_int pa_nil)))) pa_nil)))))
      (pss_cons (ps_if (pt_cmpR op_lt (pe_call G__law_sign hr (by rfl) m__law_sign k__law_sign b__law_sign .nil pass0 (pa_cons (pv 1) (pa_cons (pv 3) pa_nil))) pe_int (nomark _)) (pss_one (ps_set (i := 3) sc__law_number.nd rfl (by first | exact Or.inl rfl | exact Or.inr rfl) (pe_call G__law_plus hr (by rfl) m__law_plus k__law_plus b__law_plus .nil pass0 (pa_cons (pv 3) (pa_cons (pe_tup (pa_cons pe_int (pa_cons pe_int (pa_cons pe_int pa_nil)))) pa_nil))))) pss_nil)
      (pss_one (ps_ret (pv 3)))))), ?_⟩
  have zr : Sz 100 r := Sz.of_nat 13 (by rcases hR with h | h | h | h | h | h | h <;> omega)
  refine ⟨_, rfl, p, n, 7, rfl, hp, by decide, Sz.of_nat 7 (by decide), fun n1 d1 h10 h11 => ?_⟩
  refine ⟨_, _, rfl, rfl, _, rfl, _, _, rfl, rfl, .inr ⟨_, rfl, ?_⟩⟩
  have zd1 : Sz 5 (d1 - 3) := Sz.sm 4 (by omega)
  have zi : Sz 5 (if decide (0 < r) = true then (1 : Int) else 0) := by
    split
    · exact Sz.sm 1 (by decide)
    · exact Sz.zero
  have zb : Sz 5 ((d1 - 3) * (if decide (0 < r) = true then 1 else 0)) := by
    split
    · rw [Int.mul_one]; exact zd1
    · rw [Int.mul_zero]; exact Sz.zero
  have hb0 : r = 0 → ((d1 - 3) * (if decide (0 < r) = true then 1 else 0)) = 0 := by
    rintro rfl; rw [if_neg (by decide), Int.mul_zero]
  have hb3 : -3 ≤ ((d1 - 3) * (if decide (0 < r) = true then 1 else 0)) ∧ ((d1 - 3) * (if decide (0 < r) = true then 1 else 0)) ≤ 3 := by
    split
    · omega
    · omega
  refine ⟨_, _, rfl, rfl, ⟨zd1.mono, zi.mono⟩, ?_⟩
  dsimp only
  generalize ((d1 - 3) * (if decide (0 < r) = true then 1 else 0)) = b at *
  refine ⟨_, rfl, p, n1, 9, rfl, upd_same, by decide, Sz.of_nat 9 (by decide), fun n2 d2 h20 h21 => ?_⟩
  refine ⟨_, _, rfl, rfl, _, rfl, _, rfl, p, n2, 4, rfl, upd_same, by decide, Sz.of_nat 4 (by decide), fun n3 d3 h30 h31 => ?_⟩
  have za : Sz 5 (1 + d2) := Sz.sm 10 (by omega)
  have zc : Sz 5 (1 + d3) := Sz.sm 5 (by omega)
  have ok := lw_ok (r := r) (a := 1 + d2) (b := b) (c := 1 + d3) (by omega) hb0 za zb zc
  have sx : SameX p H (upd (upd (upd H p (.lst [.int n1])) p (.lst [.int n2])) p (.lst [.int n3])) := (SameX.upd _).trans ((SameX.upd _).trans (SameX.upd _))
  have hp3 : (upd (upd (upd H p (.lst [.int n1])) p (.lst [.int n2])) p (.lst [.int n3])) p = some (.lst [.int n3]) := upd_same
  generalize upd (upd (upd H p (.lst [.int n1])) p (.lst [.int n2])) p (.lst [.int n3]) = H3 at *
  refine ⟨_, _, rfl, rfl, _, _, _, rfl, by omega, zc.mono, fun t ht => ?_⟩
  have gt := Same.new ht (.tup (vN (lw (1 + d2) b (1 + d3))))
  have hpt : (upd H3 t (.tup (vN (lw (1 + d2) b (1 + d3))))) p = some (.lst [.int n3]) := gt _ _ hp3
  refine ⟨_, rfl, _, rfl, r, t, (lw (1 + d2) b (1 + d3)).1, (lw (1 + d2) b (1 + d3)).2.1, (lw (1 + d2) b (1 + d3)).2.2, rfl, SqT.of upd_same, zr, Sz.mono (l := 9000) ok.za, Sz.mono (l := 9000) ok.zb, _, _, rfl, rfl, _, rfl, ?_⟩
  refine ite2 (fun _ => ?_) (fun c1 => ?_)
  · refine ⟨_, rfl, smallB rfl, fun u hu => ?_⟩
    have gu := Same.new hu (.tup (tri 12 0 1))
    have o12 : Ok r 5 ((12, 0, 1) : N3) := ⟨by decide, by decide, fun _ => rfl, Sz.sm 12 (by decide), Sz.zero, Sz.sm 1 (by decide)⟩
    refine ⟨t, u, _, _, _, _, _, _, rfl, gu.tup (SqT.of upd_same), SqT.of upd_same, (Int.ne_of_gt (Int.mul_pos ok.pos o12.pos)), ok.za.mono (by decide), ok.zb.mono (by decide), ok.zc.mono (by decide), o12.za.mono (by decide), o12.zb.mono (by decide), o12.zc.mono (by decide), fun t2 ht2 => ?_⟩
    have g2 := Same.new ht2 (.tup (vN (addN (lw (1 + d2) b (1 + d3)) (12, 0, 1))))
    exact ⟨_, rfl, q _ _ n3 _ ⟨(addN_ok ok o12).mono (by decide), by
      rw [wN_add ok.pos o12.pos, wN_lw (by omega)]
      show Wo.Ps r (Wo.ad (Wo.of3 _ _ _) (Wo.of3 12 0 1))
      rw [Wo.ad_of (by omega) (by decide), Wo.ps_of (by omega)]
      exact long_up hR (by omega) (by omega) hb3.1 hb3.2⟩ (sx.trans ((gt.trans (gu.trans g2)).x p)) ((gu.trans g2) _ _ hpt) ⟨t2, rfl, SqT.of upd_same⟩⟩
  · have c2 : ¬ sgn (Num.wor r (lw (1 + d2) b (1 + d3)).1 (lw (1 + d2) b (1 + d3)).2.1) < 1 := of_decide_eq_false (Bool.eq_false_iff.mpr c1)
    have c3 : 0 < Num.wor r (lw (1 + d2) b (1 + d3)).1 (lw (1 + d2) b (1 + d3)).2.1 := by
      unfold sgn at c2
      simp only [decide_eq_true_eq] at c2
      split at c2
      · assumption
      · split at c2 <;> omega
    exact ⟨_, rfl, q _ _ n3 _ ⟨ok.mono (by decide), (Wo.ps_of ok.pos).mpr (wor_up (Num.Root.irr hR) ok.root c3)⟩ (sx.trans (gt.x p)) hpt ⟨t, rfl, SqT.of upd_same⟩⟩
theorem sc__law_with : FnScope ["_law_box_here", "_law_root_here", "_law_most", "_law_many", "_law_longs", "_law_left", "_law_piece"] ["_law_box_here", "_law_root_here", "_law_most"] (defScope s__law_with) := ⟨rfl, rfl, rfl, by decide +kernel, rfl, by decide +kernel, by decide +kernel⟩
set_option maxHeartbeats 4000000 in
theorem ok__law_with {f : Addr} {fd : FuncData} {n : Nat}  (F : Fun K "_law_with" "_law_with" s__law_with f fd) (C__law_take : Cal P w K mg base n "_law_take" ["_law_box_here", "_law_many"] spTake) (C__law_number : Cal P w K mg base n "_law_number" ["_law_box_here", "_law_root_here"] (spNumber K)) (m_tuple : mg "tuple" = none) (m_list : mg "list" = none) (m_range : mg "range" = none) (m_len : mg "len" = none) :
    FnOk P w K mg base CX0 (n + 1) f fd ["_law_box_here", "_law_root_here", "_law_most"] (spWith K) := by
  obtain ⟨f__law_take, fd__law_take, G__law_take, b__law_take, k__law_take, m__law_take⟩ := C__law_take.ex
  obtain ⟨f__law_number, fd__law_number, G__law_number, b__law_number, k__law_number, m__law_number⟩ := C__law_number.ex
  refine F.ok sc__law_with (fun vs H Q E h => ?_) (fun cdv A outer s H vs Q E hr h => ?_)
  · obtain ⟨p, n, r, m, rfl, _⟩ := h
    rfl
  obtain ⟨p, n, r, m, rfl, hp, hR, hm1, hm2, q⟩ := h
  refine ⟨_, (pss_cons (ps_set (i := 3) sc__law_with.nd rfl (by first | exact Or.inl rfl | exact Or.inr rfl) (pe_op op_add pe_int (pe_call G__law_take hr (by rfl) m__law_take k__law_take b__law_take .nil pass0 (pa_cons (pv 0) (pa_cons (pv 2) pa_nil)))))
      (pss_cons (ps_set (i := 4) sc__law_with.nd rfl (by first | exact Or.inl rfl | exact Or.inr rfl) (pe_callTy call_tuple_of (by rfl) m_tuple (by decide +kernel) (pa_cons (pe_lc (own := [("_law_piece", 6)]) (g := gName 6) (by rfl) sc__law_with.nd (pi_range1 (by rfl) m_range (pa_cons (pv 3) pa_nil)) (blkOk_by (own := [("_law_piece", 6)]) (N := ["_law_box_here", "_law_root_here", "_law_most", "_law_many", "_law_longs", "_law_left", "_law_piece"]) (sc := defScope s__law_with) (by decide +kernel)) (fun _ _ _ _ _ => (pg_name (i := 6) sc__law_with.nd rfl (by first | exact Or.inl rfl | exact Or.inr rfl))) (fun _ _ _ _ _ => pts_nil) (fun _ _ _ _ _ => (pe_call G__law_number hr (by rfl) m__law_number k__law_number b__law_number .nil pass0 (pa_cons (pv 0) (pa_cons (pv 1) pa_nil))))) pa_nil)))
      (pss_cons (ps_set (i := 5) sc__law_with.nd rfl (by first | exact Or.inl rfl | exact Or.inr rfl) (pe_callTy (call_list_rng rfl) (by rfl) m_list (by decide +kernel) (pa_cons (pe_callTy call_rng1 (by rfl) m_range (by decide +kernel) (pa_cons (pv 3) pa_nil)) pa_nil)))
      (pss_one (ps_ret (pe_tup (pa_cons (pv 1) (pa_cons (pv 4) (pa_cons (pe_callTy call_tuple_of (by rfl) m_tuple (by decide +kernel) (pa_cons (pe_lc (own := [("_law_piece", 6)]) (g := gName 6) (by rfl) sc__law_with.nd (pi_range1 (by rfl) m_range (pa_cons (pv 3) pa_nil)) (blkOk_by (own := [("_law_piece", 6)]) (N := ["_law_box_here", "_law_root_here", "_law_most", "_law_many", "_law_longs", "_law_left", "_law_piece"]) (sc := defScope s__law_with) (by decide +kernel)) (fun _ _ _ _ _ => (pg_name (i := 6) sc__law_with.nd rfl (by first | exact Or.inl rfl | exact Or.inr rfl))) (fun _ _ _ _ _ => pts_nil) (fun _ _ _ _ _ => (pe_bmK (K := K) rfl PySem.F.plainAttrs_list PySem.F.slot_list_pop PySem.F.type_list_pop mt_popAt (pv 5) (pa_cons (pe_call G__law_take hr (by rfl) m__law_take k__law_take b__law_take .nil pass0 (pa_cons (pv 0) (pa_cons (pe_callB (call_len_seqK (K := K) rfl) (by rfl) m_len (by decide +kernel) (pa_cons (pv 5) pa_nil)) pa_nil))) pa_nil)))) pa_nil)) pa_nil))))))))), ?_⟩
  refine ⟨_, rfl, _, rfl, p, n, m, rfl, hp, by omega, Sz.of_nat 12 (by omega), fun n1 d hd0 hd1 => ?_⟩
  obtain ⟨N, eN, h1N, hN12⟩ : ∃ N : Nat, 1 + d = (N : Int) ∧ 1 ≤ N ∧ N ≤ 12 := ⟨(1 + d).toNat, by omega, by omega, by omega⟩
  refine ⟨_, _, rfl, rfl, ?_⟩
  dsimp only
  rw [eN]
  have sx1 : SameX p H (upd H p (.lst [.int n1])) := SameX.upd _
  have hp1 : (upd H p (.lst [.int n1])) p = some (.lst [.int n1]) := upd_same
  generalize upd H p (.lst [.int n1]) = H1 at *
  refine ⟨_, rfl, _, rfl, by omega, by omega, fun D hD => lc_range (lo := 0) (n := (N : Int).toNat) (fun i H' => ∃ acc xs n', H' D = some (.lst acc) ∧ Nums K H' acc xs ∧ xs.length = i ∧ (∀ x ∈ xs, Ok r 20 x ∧ Wo.Ps r (wN x)) ∧ SameX p H1 H' ∧ H' p = some (.lst [.int n']))
    ⟨[], [], n1, upd_same, Nums.nil, rfl, fun x m => by simp at m, (Same.new hD _).x p, Same.new hD _ _ _ hp1⟩ ?_ ?_⟩
  · rintro i H' hi ⟨acc, xs, n', hA, hN, hl, hok, sx, hp'⟩
    have nDp : D ≠ p := (ne_of_none hp1 hD).symm
    refine ⟨rfl, ?_⟩
    refine ⟨_, rfl, _, rfl, p, n', r, rfl, hp', hR, fun v x n2 H2 ok sx2 hp2 hv => ?_⟩
    have hA2 : H2 D = some (.lst acc) := sx2 D _ hA nDp
    refine ⟨acc, hA2, small1000 (by rw [hN.1]; omega), acc ++ [v], xs ++ [x], n2, upd_same, Nums.snoc ((hN.monoX sx2 hp').monoX (SameX.upd _) hA2) (hv.monoX (SameX.upd _) hA2), by rw [List.length_append, hl]; rfl, ?_, ?_, by rw [upd_ne nDp.symm]; exact hp2⟩
    · intro y m
      rcases List.mem_append.mp m with m | m
      · exact hok y m
      · rw [List.mem_singleton.mp m]; exact ok
    · intro b o hb hbp
      rw [upd_ne (ne_of_none hb hD)]
      exact sx2 b o (sx b o hb hbp) hbp
  rintro H2 ⟨acc, xs, n2, hA, hN, hl, hok, sx2, hp2⟩
  rw [Int.toNat_natCast] at hl
  refine ⟨D, acc, rfl, .inl ⟨SqL.of hA, fun t ht => ?_⟩⟩
  have gt := Same.new ht (.tup acc)
  have hN3 := hN.mono gt
  have ht3 : (upd H2 t (.tup acc)) t = some (.tup acc) := upd_same
  have hp3 := gt _ _ hp2
  have sx3 : SameX p H (upd H2 t (.tup acc)) := (sx1.trans sx2).trans (gt.x p)
  generalize upd H2 t (.tup acc) = H3 at *
  refine ⟨_, rfl, _, rfl, fun r0 hr0 => ?_⟩
  have gr := Same.new hr0 (.rng 0 (N : Int))
  refine ⟨r0, N, rfl, upd_same, by omega, fun l hl0 => ?_⟩
  have gl := Same.new hl0 (.lst ((List.range' 0 N).map fun i => V.int (i : Nat)))
  have hl4 : (upd (upd H3 r0 (.rng 0 (N : Int))) l (.lst ((List.range' 0 N).map fun i => V.int (i : Nat)))) l = some (.lst (vO (List.range N))) := by rw [upd_same, List.range_eq_range']
  have ht4 := (gr.trans gl) _ _ ht3
  have hp4 := (gr.trans gl) _ _ hp3
  have hN4 := hN3.mono (gr.trans gl)
  have sx4 := sx3.trans ((gr.trans gl).x p)
  have npl : p ≠ l := ne_of_none (gr _ _ hp3) hl0
  have ntl : t ≠ l := ne_of_none (gr _ _ ht3) hl0
  have fresh_l : H3 l = none := gr.free hl0
  have ntp : t ≠ p := ne_of ht3 hp3 (by intro z; cases z)
  have lold : ∀ b o, H b = some o → b ≠ p → b ≠ l := fun b o hb hbp => ne_of_none (sx3 b o hb hbp) fresh_l
  generalize upd (upd H3 r0 (.rng 0 (N : Int))) l (.lst ((List.range' 0 N).map fun i => V.int (i : Nat))) = H4 at *
  refine ⟨_, rfl, _, rfl, _, rfl, _, rfl, by omega, by omega, fun D2 hD2 => lc_range (lo := 0) (n := (N : Int).toNat) (fun i H' => ∃ (ac ls : List Nat) (n' : Int), H' D2 = some (.lst (vO ac)) ∧ H' l = some (.lst (vO ls)) ∧ (ac ++ ls).Perm (List.range N) ∧ ac.length = i ∧ H' p = some (.lst [.int n']) ∧ (∀ b o, H4 b = some o → b ≠ p → b ≠ l → H' b = some o))
    ⟨[], List.range N, n2, upd_same, Same.new hD2 _ _ _ hl4, List.Perm.refl _, rfl, Same.new hD2 _ _ _ hp4, fun b o hb _ _ => Same.new hD2 _ _ _ hb⟩ ?_ ?_⟩
  · rintro i H' hi ⟨ac, ls, n', hA, hL, hP, hl', hp', kp⟩
    have nDp : D2 ≠ p := (ne_of_none hp4 hD2).symm
    have nDl : D2 ≠ l := (ne_of_none hl4 hD2).symm
    have hlen : ac.length + ls.length = N := by have := hP.length_eq; rw [List.length_append, List.length_range] at this; exact this
    have hpos : 0 < ls.length := by omega
    refine ⟨rfl, ?_⟩
    refine ⟨_, rfl, .inl ⟨rfl, _, SqL.of hL⟩, _, rfl, _, rfl, l, _, rfl, .inl (SqL.of hL), ?_⟩
    refine ⟨p, n', _, rfl, hp', (by rw [List.length_map]; omega), Sz.of_nat 12 (by rw [List.length_map]; omega), fun n2 d2 h20 h21 => ?_⟩
    rw [List.length_map] at h21
    obtain ⟨k, rfl⟩ : ∃ k : Nat, d2 = (k : Int) := ⟨d2.toNat, by omega⟩
    have hk : k < ls.length := by omega
    have hL2 : (upd H' p (.lst [.int n2])) l = some (.lst (vO ls)) := by rw [upd_ne npl.symm]; exact hL
    refine ⟨l, vO ls, (k : Int), k, .int (ls[k] : Int), rfl, rfl, hL2, by omega, by omega, (by rw [List.length_map]; exact seq_ix hk), (by rw [List.getElem?_map, List.getElem?_eq_getElem hk]; rfl), ?_⟩
    have hA2 : (upd (upd H' p (.lst [.int n2])) l (.lst ((vO ls).eraseIdx k))) D2 = some (.lst (vO ac)) := by rw [upd_ne nDl, upd_ne nDp]; exact hA
    refine ⟨vO ac, hA2, small1000 (by rw [List.length_map]; omega), ac ++ [ls[k]], ls.eraseIdx k, n2, (by rw [upd_same]; unfold vO; rw [List.map_append]; rfl), (by rw [upd_ne nDl.symm, upd_same, erase_map]), ?_, by rw [List.length_append, hl']; rfl, (by rw [upd_ne nDp.symm, upd_ne npl, upd_same]), ?_⟩
    · refine List.Perm.trans ?_ hP
      rw [List.append_assoc]
      exact List.Perm.append_left _ (erase_perm hk)
    · intro b o hb hbp hbl
      rw [upd_ne (ne_of_none hb hD2), upd_ne hbl, upd_ne hbp]
      exact kp b o hb hbp hbl
  rintro H5 ⟨ac, ls, n5, hA5, hL5, hP5, hl5, hp5, kp5⟩
  rw [Int.toNat_natCast] at hl5
  have hls : ls = [] := by
    have := hP5.length_eq
    rw [List.length_append, List.length_range] at this
    exact List.length_eq_zero_iff.mp (by omega)
  rw [hls, List.append_nil] at hP5
  refine ⟨D2, _, rfl, .inl ⟨SqL.of hA5, fun t2 ht2 => ?_⟩⟩
  have g2 := Same.new ht2 (.tup (vO ac))
  refine ⟨smallB rfl, fun c hc => ?_⟩
  have gc := Same.new hc (.tup [V.int r, V.ref t, V.ref t2])
  have nt2 : t ≠ l := ntl
  have ht5 := kp5 _ _ ht4 ntp ntl
  refine q c xs ac n5 _ ?_ ((g2.trans gc) _ _ hp5) ⟨⟨⟨t, t2, acc, upd_same, (g2.trans gc) _ _ ht5, gc _ _ upd_same, ?_⟩, fun x m => (hok x m).1, by omega, by omega, by omega, by rw [hl]; exact hP5⟩, fun x m => (hok x m).2, by omega⟩
  · intro b o hb hbp
    exact (g2.trans gc) b o (kp5 b o (sx4 b o hb hbp) hbp (lold b o hb hbp))
  · refine Nums.mono ⟨hN4.1, fun i v x a b => ?_⟩ (g2.trans gc)
    obtain ⟨va, rfl, hva⟩ := hN4.2 i v x a b
    refine ⟨va, rfl, ?_⟩
    rcases hva with (h | ⟨o, h⟩) | h
    · exact .inl (.inl (kp5 _ _ h (ne_of h hp4 (by intro z; cases z)) (ne_of h hl4 (by intro z; cases z))))
    · exact .inl (.inr ⟨o, kp5 _ _ h (ne_of h hp4 (by intro z; cases z)) (ne_of h hl4 (by intro z; cases z))⟩)
    · exact .inr h
theorem sc__law_root : FnScope ["_law_box_here"] ["_law_box_here"] (defScope s__law_root) := ⟨rfl, rfl, rfl, by decide +kernel, rfl, by decide +kernel, by decide +kernel⟩
set_option maxHeartbeats 4000000 in
theorem ok__law_root {f : Addr} {fd : FuncData} {n : Nat}  (F : Fun K "_law_root" "_law_root" s__law_root f fd) (C__law_take : Cal P w K mg base n "_law_take" ["_law_box_here", "_law_many"] spTake) :
    FnOk P w K mg base CX0 (n + 1) f fd ["_law_box_here"] spRoot := by
  obtain ⟨f__law_take, fd__law_take, G__law_take, b__law_take, k__law_take, m__law_take⟩ := C__law_take.ex
  refine F.ok sc__law_root (fun vs H Q E h => ?_) (fun cdv A outer s H vs Q E hr h => ?_)
  · obtain ⟨p, n, rfl, _⟩ := h
    rfl
  obtain ⟨p, n, rfl, hp, q⟩ := h
  refine ⟨_, (pss_one (ps_ret (pe_ix ix_list (pe_lst (pa_cons pe_int (pa_cons pe_int (pa_cons pe_int (pa_cons pe_int (pa_cons pe_int (pa_cons pe_int (pa_cons pe_int (pa_cons pe_int pa_nil))))))))) (pe_call G__law_take hr (by rfl) m__law_take k__law_take b__law_take .nil pass0 (pa_cons (pv 0) (pa_cons pe_int pa_nil))) (fun _ _ => rfl)))), ?_⟩
  refine ⟨smallB rfl, fun l hl => ?_⟩
  have npl : p ≠ l := ne_of_none hp hl
  refine ⟨_, rfl, p, n, 8, rfl, (by rw [upd_ne npl]; exact hp), by decide, Sz.of_nat 8 (by decide), fun n' d h0 h1 => ?_⟩
  have hl2 : (upd (upd H l (.lst [V.int 0, V.int 0, V.int 2, V.int 3, V.int 5, V.int 6, V.int 7, V.int 13])) p (.lst [.int n'])) l = some (.lst [V.int 0, V.int 0, V.int 2, V.int 3, V.int 5, V.int 6, V.int 7, V.int 13]) := by rw [upd_ne npl.symm]; exact upd_same
  have fin : ∀ r : Int, Num.Root r → Q (.int r) (upd (upd H l (.lst [V.int 0, V.int 0, V.int 2, V.int 3, V.int 5, V.int 6, V.int 7, V.int 13])) p (.lst [.int n'])) := fun r hr => q r n' _ hr (((Same.new hl _).x p).trans (SameX.upd _)) upd_same
  obtain ⟨j, rfl⟩ : ∃ j : Nat, d = (j : Int) := ⟨d.toNat, by omega⟩
  have hj : j = 0 ∨ j = 1 ∨ j = 2 ∨ j = 3 ∨ j = 4 ∨ j = 5 ∨ j = 6 ∨ j = 7 := by omega
  rcases hj with rfl | rfl | rfl | rfl | rfl | rfl | rfl | rfl
  all_goals exact ⟨l, _, _, _, rfl, rfl, SqL.of hl2, atI_nat rfl, fin _ (by unfold Num.Root; decide)⟩
theorem sc__law_ends : FnScope ["_law_longs", "_law_found", "_law_one"] ["_law_longs"] (defScope s__law_ends) := ⟨rfl, rfl, rfl, by decide +kernel, rfl, by decide +kernel, by decide +kernel⟩
set_option maxHeartbeats 4000000 in
theorem ok__law_ends {f : Addr} {fd : FuncData} {n : Nat}  (F : Fun K "_law_ends" "_law_ends" s__law_ends f fd) (C__law_plus : Cal P w K mg base n "_law_plus" ["_law_one", "_law_other"] (spPlus K)) :
    FnOk P w K mg base CX0 (n + 1) f fd ["_law_longs"] (spEnds K) := by
  obtain ⟨f__law_plus, fd__law_plus, G__law_plus, b__law_plus, k__law_plus, m__law_plus⟩ := C__law_plus.ex
  refine F.ok sc__law_ends (fun vs H Q E h => ?_) (fun cdv A outer s H vs Q E hr h => ?_)
  · rcases h with h | h
    · obtain ⟨a, vs, xs, r, rfl, _⟩ := h
      rfl
    · obtain ⟨a, vs, xs, r, rfl, _⟩ := h
      rfl
  rcases h with h | h
  · obtain ⟨a, vs, xs, r, rfl, hS, hvs, hok, h12, q⟩ := h
    refine ⟨_, (pss_cons (ps_set (i := 1) sc__law_ends.nd rfl (by first | exact Or.inl rfl | exact Or.inr rfl) (pe_lst (pa_cons (pe_tup (pa_cons pe_int (pa_cons pe_int (pa_cons pe_int pa_nil)))) pa_nil)))
      (pss_cons (ps_for PassesOwn.never (by rfl) (pi_tup (pv 0)) (pg_name (i := 2) sc__law_ends.nd rfl (by first | exact Or.inl rfl | exact Or.inr rfl)) (pss_one (ps_expr (pe_bm PySem.F.plainAttrs_list PySem.F.slot_list_append PySem.F.type_list_append mt_append (pv 1) (pa_cons (pe_call G__law_plus hr (by rfl) m__law_plus k__law_plus b__law_plus .nil pass0 (pa_cons (pe_ix ix_list (pv 1) (pe_un un_neg pe_int) (fun _ _ => rfl)) (pa_cons (pv 2) pa_nil))) pa_nil)))))
      (pss_one (ps_ret (pv 1))))), ?_⟩
    refine ⟨smallB rfl, fun z0 hz0 => ?_⟩
    refine ⟨smallB rfl, fun l hl00 => ?_⟩
    have gz := Same.new hz0 (.tup (tri 0 0 1))
    have hl0 : H l = none := gz.free hl00
    have hz1 : (upd H z0 (.tup (tri 0 0 1))) z0 = some (.tup (tri 0 0 1)) := upd_same
    refine ⟨_, rfl, a, rfl, ⟨_, (gz.trans (Same.new hl00 _)).tup hS⟩, for_tup (xs := vs) (fun i σ H' => ∃ us w, σ = [some (.ref a), some (.ref l), w] ∧ H' l = some (.lst us) ∧ Nums K H' us (ends xs (i + 1)) ∧ Same H H')
      ⟨_, _, rfl, upd_same, (Nums.snoc Nums.nil ⟨z0, rfl, SqT.of (Same.new hl00 _ _ _ hz1)⟩ : Nums K _ ([] ++ [V.ref z0]) ([] ++ [zeroN])), gz.trans (Same.new hl00 _)⟩ (fun i σ H' _ ⟨_, _, _, _, _, g⟩ => g.tup hS) ?_ ?_⟩
    · rintro i v σ H' hi ⟨us, w, rfl, hl', hN, g⟩
      obtain ⟨x, hx, hv⟩ := hvs.getV hi
      have hil : i < xs.length := (List.getElem?_eq_some_iff.mp hx).1
      obtain ⟨u, hu, hun⟩ := hN.get (i := i) (ends_at (by omega))
      obtain ⟨ua, rfl, hua⟩ := hun
      obtain ⟨va, rfl, hva⟩ := hv.mono g
      have o1 := pre_okB hok h12 (Nat.le_of_lt hil)
      have o2 := hok x (List.mem_of_getElem? hx)
      have ul : us.length = i + 1 := by rw [hN.1, ends_len]
      refine ⟨_, rfl, .inl ⟨rfl, _, SqL.of hl'⟩, _, rfl, _, rfl, l, us, _, _, rfl, rfl, SqL.of hl', at_last (by rw [ul]; exact hu), _, rfl, ?_⟩
      refine ⟨ua, va, _, _, _, _, _, _, rfl, hua, hva, (by have := Int.mul_pos o1.pos o2.pos; omega), o1.za.mono, o1.zb.mono, o1.zc.mono, o2.za.mono, o2.zb.mono, o2.zc.mono, fun t ht => ?_⟩
      have nlt : l ≠ t := ne_of_none hl' ht
      have gt := Same.new ht (.tup (vN (addN (pre xs i) x)))
      refine ⟨l, us, _, rfl, rfl, (by rw [upd_ne nlt]; exact hl'), small1000 (by omega), ?_⟩
      refine ⟨us ++ [.ref t], _, rfl, upd_same, ?_, ?_⟩
      · rw [ends_succ, pre_succ hx]
        have hl2 : (upd H' t (.tup (vN (addN (pre xs i) x)))) l = some (.lst us) := by rw [upd_ne nlt]; exact hl'
        refine Nums.snoc ((hN.mono gt).monoX (SameX.upd _) hl2) ⟨t, rfl, SqT.of ?_⟩
        rw [upd_ne nlt.symm]; exact upd_same
      · intro b o hb
        rw [upd_ne (ne_of_none hb hl0)]
        exact gt b o (g b o hb)
    · rintro σ H' ⟨us, w, rfl, hl', hN, g⟩
      rw [hvs.1] at hN
      exact ⟨_, rfl, q l us H' hl0 g hl' hN⟩
  · obtain ⟨a, vs, xs, r, rfl, hS, hvs, hok, h12, q⟩ := h
    refine ⟨_, (pss_cons (ps_set (i := 1) sc__law_ends.nd rfl (by first | exact Or.inl rfl | exact Or.inr rfl) (pe_lst (pa_cons (pe_tup (pa_cons pe_int (pa_cons pe_int (pa_cons pe_int pa_nil)))) pa_nil)))
      (pss_cons (ps_for PassesOwn.never (by rfl) (pi_list (pv 0)) (pg_name (i := 2) sc__law_ends.nd rfl (by first | exact Or.inl rfl | exact Or.inr rfl)) (pss_one (ps_expr (pe_bm PySem.F.plainAttrs_list PySem.F.slot_list_append PySem.F.type_list_append mt_append (pv 1) (pa_cons (pe_call G__law_plus hr (by rfl) m__law_plus k__law_plus b__law_plus .nil pass0 (pa_cons (pe_ix ix_list (pv 1) (pe_un un_neg pe_int) (fun _ _ => rfl)) (pa_cons (pv 2) pa_nil))) pa_nil)))))
      (pss_one (ps_ret (pv 1))))), ?_⟩
    refine ⟨smallB rfl, fun z0 hz0 => ?_⟩
    refine ⟨smallB rfl, fun l hl00 => ?_⟩
    have gz := Same.new hz0 (.tup (tri 0 0 1))
    have hl0 : H l = none := gz.free hl00
    have hz1 : (upd H z0 (.tup (tri 0 0 1))) z0 = some (.tup (tri 0 0 1)) := upd_same
    refine ⟨_, rfl, a, rfl, ⟨_, (gz.trans (Same.new hl00 _)).seq hS⟩, for_list (xs := vs) (fun i σ H' => ∃ us w, σ = [some (.ref a), some (.ref l), w] ∧ H' l = some (.lst us) ∧ Nums K H' us (ends xs (i + 1)) ∧ Same H H')
      ⟨_, _, rfl, upd_same, (Nums.snoc Nums.nil ⟨z0, rfl, SqT.of (Same.new hl00 _ _ _ hz1)⟩ : Nums K _ ([] ++ [V.ref z0]) ([] ++ [zeroN])), gz.trans (Same.new hl00 _)⟩ (fun i σ H' _ ⟨_, _, _, _, _, g⟩ => g.seq hS) ?_ ?_⟩
    · rintro i v σ H' hi ⟨us, w, rfl, hl', hN, g⟩
      obtain ⟨x, hx, hv⟩ := hvs.getV hi
      have hil : i < xs.length := (List.getElem?_eq_some_iff.mp hx).1
      obtain ⟨u, hu, hun⟩ := hN.get (i := i) (ends_at (by omega))
      obtain ⟨ua, rfl, hua⟩ := hun
      obtain ⟨va, rfl, hva⟩ := hv.mono g
      have o1 := pre_okB hok h12 (Nat.le_of_lt hil)
      have o2 := hok x (List.mem_of_getElem? hx)
      have ul : us.length = i + 1 := by rw [hN.1, ends_len]
      refine ⟨_, rfl, .inl ⟨rfl, _, SqL.of hl'⟩, _, rfl, _, rfl, l, us, _, _, rfl, rfl, SqL.of hl', at_last (by rw [ul]; exact hu), _, rfl, ?_⟩
      refine ⟨ua, va, _, _, _, _, _, _, rfl, hua, hva, (by have := Int.mul_pos o1.pos o2.pos; omega), o1.za.mono, o1.zb.mono, o1.zc.mono, o2.za.mono, o2.zb.mono, o2.zc.mono, fun t ht => ?_⟩
      have nlt : l ≠ t := ne_of_none hl' ht
      have gt := Same.new ht (.tup (vN (addN (pre xs i) x)))
      refine ⟨l, us, _, rfl, rfl, (by rw [upd_ne nlt]; exact hl'), small1000 (by omega), ?_⟩
      refine ⟨us ++ [.ref t], _, rfl, upd_same, ?_, ?_⟩
      · rw [ends_succ, pre_succ hx]
        have hl2 : (upd H' t (.tup (vN (addN (pre xs i) x)))) l = some (.lst us) := by rw [upd_ne nlt]; exact hl'
        refine Nums.snoc ((hN.mono gt).monoX (SameX.upd _) hl2) ⟨t, rfl, SqT.of ?_⟩
        rw [upd_ne nlt.symm]; exact upd_same
      · intro b o hb
        rw [upd_ne (ne_of_none hb hl0)]
        exact gt b o (g b o hb)
    · rintro σ H' ⟨us, w, rfl, hl', hN, g⟩
      rw [hvs.1] at hN
      exact ⟨_, rfl, q l us H' hl0 g hl' hN⟩
theorem sc__law_point : FnScope ["_law_box_here", "_law_change", "_law_root_here", "_law_longs", "_law_order", "_law_piece", "_law_share", "_law_within"] ["_law_box_here", "_law_change"] (defScope s__law_point) := ⟨rfl, rfl, rfl, by decide +kernel, rfl, by decide +kernel, by decide +kernel⟩
set_option maxHeartbeats 4000000 in
theorem ok__law_point {f : Addr} {fd : FuncData} {n : Nat}  (F : Fun K "_law_point" "_law_point" s__law_point f fd) (C__law_take : Cal P w K mg base n "_law_take" ["_law_box_here", "_law_many"] spTake) (C__law_low : Cal P w K mg base n "_law_low" ["_law_a", "_law_b", "_law_c"] spLow) (C__law_plus : Cal P w K mg base n "_law_plus" ["_law_one", "_law_other"] (spPlus K)) (C__law_ends : Cal P w K mg base n "_law_ends" ["_law_longs"] (spEnds K)) (m_len : mg "len" = none) :
    FnOk P w K mg base CX0 (n + 1) f fd ["_law_box_here", "_law_change"] (spPoint K) := by
  obtain ⟨f__law_take, fd__law_take, G__law_take, b__law_take, k__law_take, m__law_take⟩ := C__law_take.ex
  obtain ⟨f__law_low, fd__law_low, G__law_low, b__law_low, k__law_low, m__law_low⟩ := C__law_low.ex
  obtain ⟨f__law_plus, fd__law_plus, G__law_plus, b__law_plus, k__law_plus, m__law_plus⟩ := C__law_plus.ex
  obtain ⟨f__law_ends, fd__law_ends, G__law_ends, b__law_ends, k__law_ends, m__law_ends⟩ := C__law_ends.ex
  refine F.ok sc__law_point (fun vs H Q E h => ?_) (fun cdv A outer s H vs Q E hr h => ?_)
  · obtain ⟨p, c, n, r, xs, os, rfl, _⟩ := h
    rfl
  obtain ⟨p, c, n, r, xs, os, rfl, hp, hch, hR, hps, q⟩ := h
  refine' ⟨_, ?bb, ?kk⟩
  case bb =>
    refine' pss_cons ?ss ?rr
    case ss => exact (ps_asg (pv 1) (pg_tup (n := 3) (by rfl) (pgs_cons (pg_name (i := 2) sc__law_point.nd rfl (by first | exact Or.inl rfl | exact Or.inr rfl)) (pgs_cons (pg_name (i := 3) sc__law_point.nd rfl (by first | exact Or.inl rfl | exact Or.inr rfl)) (pgs_cons (pg_name (i := 4) sc__law_point.nd rfl (by first | exact Or.inl rfl | exact Or.inr rfl)) pgs_nil)))))
    case rr =>
      refine' pss_cons ?ss ?rr
      case ss => exact (ps_set (i := 5) sc__law_point.nd rfl (by first | exact Or.inl rfl | exact Or.inr rfl) (pe_call G__law_take hr (by rfl) m__law_take k__law_take b__law_take .nil pass0 (pa_cons (pv 0) (pa_cons (pe_callB call_len_seq (by rfl) m_len (by decide +kernel) (pa_cons (pv 3) pa_nil)) pa_nil))))
      case rr =>
        refine' pss_cons ?ss ?rr
        case ss =>
          refine' ps_set (i := 6) ?h1_0 ?h1_1 ?h1_2 ?h1_3
          case h1_0 =>
            exact sc__law_point.nd
          case h1_1 =>
            exact rfl
          case h1_2 =>
            first | exact Or.inl rfl | exact Or.inr rfl
          case h1_3 =>
            refine' pe_ix ?h2_0 ?h2_1 ?h2_2 ?h2_3
            case h2_0 =>
              exact ix_list
            case h2_1 =>
              refine' pe_lst ?h3_0
              case h3_0 =>
                refine' pa_cons ?h4_0 ?h4_1 ?hs4
                case h4_0 =>
                  refine' pe_tup ?h5_0
                  case h5_0 =>
                    refine' pa_cons ?h6_0 ?h6_1 ?hs6
                    case h6_0 =>
                      exact pe_int
                    case h6_1 =>
                      refine' pa_cons ?h7_0 ?h7_1 ?hs7
                      case h7_0 =>
                        exact pe_int
                      case h7_1 =>
                        exact pa_nil
                      case hs7 => rfl
                    case hs6 => rfl
                case h4_1 =>
                  refine' pa_cons ?h8_0 ?h8_1 ?hs8
                  case h8_0 =>
                    refine' pe_tup ?h9_0
                    case h9_0 =>
                      refine' pa_cons ?h10_0 ?h10_1 ?hs10
                      case h10_0 =>
                        exact pe_int
                      case h10_1 =>
                        refine' pa_cons ?h11_0 ?h11_1 ?hs11
                        case h11_0 =>
                          exact pe_int
                        case h11_1 =>
                          exact pa_nil
                        case hs11 => rfl
                      case hs10 => rfl
                  case h8_1 =>
                    refine' pa_cons ?h12_0 ?h12_1 ?hs12
                    case h12_0 =>
                      refine' pe_tup ?h13_0
                      case h13_0 =>
                        refine' pa_cons ?h14_0 ?h14_1 ?hs14
                        case h14_0 =>
                          exact pe_int
                        case h14_1 =>
                          refine' pa_cons ?h15_0 ?h15_1 ?hs15
                          case h15_0 =>
                            exact pe_int
                          case h15_1 =>
                            exact pa_nil
                          case hs15 => rfl
                        case hs14 => rfl
                    case h12_1 =>
                      refine' pa_cons ?h16_0 ?h16_1 ?hs16
                      case h16_0 =>
                        refine' pe_tup ?h17_0
                        case h17_0 =>
                          refine' pa_cons ?h18_0 ?h18_1 ?hs18
                          case h18_0 =>
                            exact pe_int
                          case h18_1 =>
                            refine' pa_cons ?h19_0 ?h19_1 ?hs19
                            case h19_0 =>
                              exact pe_int
                            case h19_1 =>
                              exact pa_nil
                            case hs19 => rfl
                          case hs18 => rfl
                      case h16_1 =>
                        refine' pa_cons ?h20_0 ?h20_1 ?hs20
                        case h20_0 =>
                          refine' pe_tup ?h21_0
                          case h21_0 =>
                            refine' pa_cons ?h22_0 ?h22_1 ?hs22
                            case h22_0 =>
                              exact pe_int
                            case h22_1 =>
                              refine' pa_cons ?h23_0 ?h23_1 ?hs23
                              case h23_0 =>
                                exact pe_int
                              case h23_1 =>
                                exact pa_nil
                              case hs23 => rfl
                            case hs22 => rfl
                        case h20_1 =>
                          exact pa_nil
                        case hs20 => rfl
                      case hs16 => rfl
                    case hs12 => rfl
                  case hs8 => rfl
                case hs4 => rfl
            case h2_2 =>
              exact (pe_call G__law_take hr (by rfl) m__law_take k__law_take b__law_take .nil pass0 (pa_cons (pv 0) (pa_cons pe_int pa_nil)))
            case h2_3 =>
              exact fun _ _ => rfl
        case rr =>
          refine' pss_cons ?ss ?rr
          case ss => exact (ps_set (i := 7) sc__law_point.nd rfl (by first | exact Or.inl rfl | exact Or.inr rfl) (pe_call G__law_low hr (by rfl) m__law_low k__law_low b__law_low .nil pass0 (pa_cons (pe_op op_mulB (pe_ix ix_tup (pe_ix ix_tup (pv 3) (pv 5) (fun _ _ => rfl)) pe_int (fun _ _ => rfl)) (pe_ix ix_tup (pv 6) pe_int (fun _ _ => rfl))) (pa_cons (pe_op op_mulB (pe_ix ix_tup (pe_ix ix_tup (pv 3) (pv 5) (fun _ _ => rfl)) pe_int (fun _ _ => rfl)) (pe_ix ix_tup (pv 6) pe_int (fun _ _ => rfl))) (pa_cons (pe_op op_mulB (pe_ix ix_tup (pe_ix ix_tup (pv 3) (pv 5) (fun _ _ => rfl)) pe_int (fun _ _ => rfl)) (pe_ix ix_tup (pv 6) pe_int (fun _ _ => rfl))) pa_nil)))))
          case rr =>
            refine' pss_one ?ss
            case ss => exact (ps_ret (pe_call G__law_plus hr (by rfl) m__law_plus k__law_plus b__law_plus .nil pass0 (pa_cons (pe_ix ix_list (pe_call G__law_ends hr (by rfl) m__law_ends k__law_ends b__law_ends .nil pass0 (pa_cons (pv 3) pa_nil)) (pv 5) (fun _ _ => rfl)) (pa_cons (pv 7) pa_nil))))
  have Ir := Num.Root.irr hR
  
  obtain ⟨⟨L, O, vs, hc, hL, hO, hN⟩, hok, hlen, hpos, h12, hperm⟩ := id hch
  refine ⟨_, rfl, c, _, rfl, SqT.of hc, rfl, ?_⟩
  refine ⟨_, _, rfl, _, _, rfl, _, _, rfl, rfl, ?_⟩
  
  have hvl : vs.length = xs.length := hN.1
  refine ⟨_, rfl, _, rfl, L, vs, rfl, .inr (SqT.of hL), p, n, _, rfl, hp, by omega, Sz.of_nat 12 (by omega), fun n1 d h0 h1 => ?_⟩
  obtain ⟨i, rfl⟩ : ∃ i : Nat, d = (i : Int) := ⟨d.toNat, by omega⟩
  have hi : i < xs.length := by omega
  have sx1 : SameX p H (upd H p (.lst [.int n1])) := SameX.upd _
  have hp1 : (upd H p (.lst [.int n1])) p = some (.lst [.int n1]) := upd_same
  generalize upd H p (.lst [.int n1]) = H1 at *
  refine ⟨smallB rfl, fun t0 z0 => ⟨smallB rfl, fun t1 z1 => ⟨smallB rfl, fun t2 z2 => ⟨smallB rfl, fun t3 z3 => ⟨smallB rfl, fun t4 z4 => ⟨smallB rfl, fun l zl => ?_⟩⟩⟩⟩⟩⟩
  have g0 := Same.new z0 (.tup [.int 0, .int 1])
  have g1 := Same.new z1 (.tup [.int 1, .int 2])
  have g2 := Same.new z2 (.tup [.int 1, .int 3])
  have g3 := Same.new z3 (.tup [.int 4, .int 5])
  have g4 := Same.new z4 (.tup [.int 1, .int 1000])
  have gl := Same.new zl (.lst [.ref t0, .ref t1, .ref t2, .ref t3, .ref t4])
  have gA := ((((g0.trans g1).trans g2).trans g3).trans g4).trans gl
  have e0 := ((((g1.trans g2).trans g3).trans g4).trans gl) _ _ (upd_same (H := H1) (a := t0) (o := .tup [.int 0, .int 1]))
  have e1 := (((g2.trans g3).trans g4).trans gl) t1 _ upd_same
  have e2 := ((g3.trans g4).trans gl) t2 _ upd_same
  have e3 := (g4.trans gl) t3 _ upd_same
  have e4 := gl t4 _ upd_same
  have el : (upd (upd (upd (upd (upd (upd H1 t0 (.tup [.int 0, .int 1])) t1 (.tup [.int 1, .int 2])) t2 (.tup [.int 1, .int 3])) t3 (.tup [.int 4, .int 5])) t4 (.tup [.int 1, .int 1000])) l (.lst [.ref t0, .ref t1, .ref t2, .ref t3, .ref t4])) l = some (.lst [.ref t0, .ref t1, .ref t2, .ref t3, .ref t4]) := upd_same
  have hp2 := gA _ _ hp1
  have nlp : l ≠ p := (ne_of_none (((((g0.trans g1).trans g2).trans g3).trans g4) _ _ hp1) zl).symm
  generalize upd (upd (upd (upd (upd (upd H1 t0 (.tup [.int 0, .int 1])) t1 (.tup [.int 1, .int 2])) t2 (.tup [.int 1, .int 3])) t3 (.tup [.int 4, .int 5])) t4 (.tup [.int 1, .int 1000])) l (.lst [.ref t0, .ref t1, .ref t2, .ref t3, .ref t4]) = H2 at *
  refine ⟨_, rfl, p, n1, 5, rfl, hp2, by decide, Sz.of_nat 5 (by decide), fun n2 d2 h20 h21 => ?_⟩
  obtain ⟨ts, s, t, hts, ets, hs0, hst, ht⟩ : ∃ (ts : Addr) (s t : Int), atI [V.ref t0, .ref t1, .ref t2, .ref t3, .ref t4] d2 = some (.ref ts) ∧ H2 ts = some (.tup [.int s, .int t]) ∧ 0 ≤ s ∧ s < t ∧ t ≤ 1000 := by
    have hd : d2 = 0 ∨ d2 = 1 ∨ d2 = 2 ∨ d2 = 3 ∨ d2 = 4 := by omega
    rcases hd with rfl | rfl | rfl | rfl | rfl
    · exact ⟨t0, 0, 1, at_of (j := 0) rfl rfl, e0, by decide, by decide, by decide⟩
    · exact ⟨t1, 1, 2, at_of (j := 1) rfl rfl, e1, by decide, by decide, by decide⟩
    · exact ⟨t2, 1, 3, at_of (j := 2) rfl rfl, e2, by decide, by decide, by decide⟩
    · exact ⟨t3, 4, 5, at_of (j := 3) rfl rfl, e3, by decide, by decide, by decide⟩
    · exact ⟨t4, 1, 1000, at_of (j := 4) rfl rfl, e4, by decide, by decide, by decide⟩
  refine ⟨l, _, _, .ref ts, rfl, rfl, SqL.of (by rw [upd_ne nlp]; exact el), hts, ?_⟩
  have sx3 : SameX p H (upd H2 p (.lst [.int n2])) := (sx1.trans (gA.x p)).trans (SameX.upd _)
  have hp3 : (upd H2 p (.lst [.int n2])) p = some (.lst [.int n2]) := upd_same
  have hts3 : (upd H2 p (.lst [.int n2])) ts = some (.tup [.int s, .int t]) := by rw [upd_ne (ne_of ets hp2 (by intro z; cases z))]; exact ets
  generalize upd H2 p (.lst [.int n2]) = H3 at *
  have hch3 := hch.monoX sx3 hp
  have hL3 := sx3 _ _ hL (ne_of hL hp (by intro z; cases z))
  have hN3 := hN.monoX sx3 hp
  obtain ⟨u, hu, ua, rfl, hua⟩ := hN3.get (getD_at hi)
  have ox := getD_ok (r := r) hok i
  generalize hx : xs.getD i zeroN = x at *
  have zs : Sz 10 s := Sz.sm 1000 (by omega)
  have zt : Sz 10 t := Sz.sm 1000 (by omega)
  refine ⟨_, rfl, _, rfl, L, vs, _, .ref ua, rfl, rfl, SqT.of hL3, at_of rfl hu, ua, _, _, _, rfl, rfl, hua, at0, _, rfl, ts, _, _, _, rfl, rfl, SqT.of hts3, at0, _, _, rfl, rfl, ⟨ox.za.mono, zs.mono⟩, _, rfl, _, rfl, L, vs, _, .ref ua, rfl, rfl, SqT.of hL3, at_of rfl hu, ua, _, _, _, rfl, rfl, hua, at1, _, rfl, ts, _, _, _, rfl, rfl, SqT.of hts3, at0, _, _, rfl, rfl, ⟨ox.zb.mono, zs.mono⟩, _, rfl, _, rfl, L, vs, _, .ref ua, rfl, rfl, SqT.of hL3, at_of rfl hu, ua, _, _, _, rfl, rfl, hua, at2, _, rfl, ts, _, _, _, rfl, rfl, SqT.of hts3, at1, _, _, rfl, rfl, ⟨ox.zc.mono, zt.mono⟩, ?_⟩
  have hct : x.2.2 * t ≠ 0 := Int.ne_of_gt (Int.mul_pos ox.pos (by omega))
  have ow := lw_ok (r := r) (k := 30) (a := x.1 * s) (b := x.2.1 * s) (c := x.2.2 * t) hct (fun e => by rw [ox.root e]; simp) (ox.za.mul zs) (ox.zb.mul zs) (ox.zc.mul zt)
  refine ⟨_, _, _, rfl, hct, (ox.zc.mul zt).mono (by decide), fun tw hw => ?_⟩
  have gw := Same.new hw (.tup (vN (lw (x.1 * s) (x.2.1 * s) (x.2.2 * t))))
  refine ⟨_, rfl, .inl ⟨L, vs, xs, r, rfl, SqT.of (gw _ _ hL3), hN3.mono gw, hok, h12, fun le ue H5 hle0 g5 hle hUe => ?_⟩⟩
  obtain ⟨ub, hub, uba, rfl, hba⟩ := hUe.get (i := i) (ends_at (by omega))
  have ob := pre_okB hok h12 (i := i) (by omega)
  refine ⟨_, rfl, le, ue, _, _, rfl, rfl, SqL.of hle, at_of rfl hub, _, rfl, uba, tw, _, _, _, _, _, _, rfl, hba, g5.tup (SqT.of upd_same), Int.ne_of_gt (Int.mul_pos ob.pos ow.pos), ob.za.mono (by decide), ob.zb.mono (by decide), ob.zc.mono (by decide), ow.za.mono (by decide), ow.zb.mono (by decide), ow.zc.mono (by decide), fun tr htr => ?_⟩
  have gr := Same.new htr (.tup (vN (addN (pre xs i) (lw (x.1 * s) (x.2.1 * s) (x.2.2 * t)))))
  refine q (.ref tr) (addN (pre xs i) (lw (x.1 * s) (x.2.1 * s) (x.2.2 * t))) i n2 _ (sx3.trans (((gw.trans g5).trans gr).x p)) (((gw.trans g5).trans gr) _ _ hp3) ⟨tr, rfl, SqT.of upd_same⟩ ((addN_ok ob ow).mono (by decide)) ?_
  have hX : Wo.Ps r (wN x) := by rw [← hx]; exact hps _ (List.mem_of_getElem? (getD_at hi))
  have hsh := share_in (s := s) (t := t) Ir ox.pos ox.root ((Wo.ps_of ox.pos).mp hX) hs0 hst
  rw [wN_add ob.pos ow.pos, wN_lw hct]
  refine ⟨hi, ?_, ?_⟩
  · have h2 := Wo.Le.adR (w := Bw xs i) hsh.1
    rw [zero_ad, ad_comm] at h2
    exact h2
  · have h2 := Wo.Lt.adR (w := Bw xs i) hsh.2
    rw [ad_comm, ad_comm _ (Bw xs i)] at h2
    rw [Bw_succ hok hi]
    show Wo.Lt r _ (Wo.ad (Bw xs i) (wN (xs.getD i zeroN)))
    rw [hx]
    exact h2
theorem sc_divisor_of_both : FnScope ["one", "other"] ["one", "other"] (defScope s_divisor_of_both) := ⟨rfl, rfl, rfl, by decide +kernel, rfl, by decide +kernel, by decide +kernel⟩
set_option maxHeartbeats 4000000 in
theorem ok_divisor_of_both {f : Addr} {fd : FuncData} {n : Nat}  (F : Fun K "divisor_of_both" "divisor_of_both" s_divisor_of_both f fd) (m_abs : mg "abs" = none) :
    FnOk P w K mg base CX0 (n + 1) f fd ["one", "other"] spGcd := by
  refine F.ok sc_divisor_of_both (fun vs H Q E h => ?_) (fun cdv A outer s H vs Q E hr h => ?_)
  · obtain ⟨a, b, rfl, _⟩ := h
    rfl
  obtain ⟨a, b, rfl, q⟩ := h
  refine ⟨_, (pss_cons (ps_par (by rfl) sc_divisor_of_both.nd (i := 0) (j := 1) rfl rfl (by decide) rfl rfl (pa_cons (pe_callB call_abs (by rfl) m_abs (by decide +kernel) (pa_cons (pv 0) pa_nil)) (pa_cons (pe_callB call_abs (by rfl) m_abs (by decide +kernel) (pa_cons (pv 1) pa_nil)) pa_nil)) (by rfl))
      (pss_cons (ps_while PassesOwn.never (pt_cmpR op_ne (pv 1) pe_int (nomark _)) (pss_one (ps_par (by rfl) sc_divisor_of_both.nd (i := 0) (j := 1) rfl rfl (by decide) rfl rfl (pa_cons (pv 1) (pa_cons (pe_op op_mod (pv 0) (pv 1)) pa_nil)) (by rfl))))
      (pss_one (ps_ret (pv 0))))), ?_⟩
  refine ⟨_, rfl, _, rfl, _, rfl, _, rfl, _, _, rfl, ?_⟩
  refine while_by (fun σ H' => ∃ x y : Int, σ = [some (.int x), some (.int y)] ∧ H = H' ∧ 0 ≤ x ∧ 0 ≤ y ∧ Nat.gcd x.natAbs y.natAbs = Nat.gcd a.natAbs b.natAbs)
    (fun σ _ => match σ with | [_, some (.int y)] => y.toNat | _ => 0) ?_ ?_ (fun σ H Q Q' hQ h => by
      obtain ⟨v, hv, hs, k, e3, hq⟩ := h
      exact ⟨v, hv, hs, k, e3, hQ _ _ hq⟩)
  · exact ⟨_, _, rfl, rfl, if_nn a, if_nn b, by rw [nat_if, nat_if]⟩
  rintro σ H' ⟨x, y, rfl, rfl, hx, hy, hg⟩
  refine ⟨_, rfl, rfl, _, rfl, ?_⟩
  refine ite2 (fun ct => ?_) (fun ct => ?_)
  · have hy' : 0 < y := by
      have h1 : ¬ V.int y = V.int 0 := by simpa using ct
      have h2 : y ≠ 0 := fun e => h1 (by rw [e])
      omega
    refine ⟨_, rfl, _, rfl, _, rfl, _, _, rfl, rfl, hy', _, _, rfl, ⟨_, _, rfl, rfl, hy, Int.emod_nonneg _ (by omega), ?_⟩, ?_⟩
    · rw [← hg, Num.gcd_turn hx hy']
    · show (x % y).toNat < y.toNat
      have := Int.emod_lt_of_pos x hy'
      omega
  have hy0 : y = 0 := by
    have h1 : V.int y = V.int 0 := by simpa using ct
    injection h1
  subst hy0
  rw [Int.natAbs_zero, Nat.gcd_zero_right] at hg
  refine ⟨_, rfl, ?_⟩
  have e : x = ((Nat.gcd a.natAbs b.natAbs : Nat) : Int) := by omega
  show Q (.int x) H
  rw [e]
  exact q
theorem sc_divisor_of_all : FnScope ["a", "b", "c"] ["a", "b", "c"] (defScope s_divisor_of_all) := ⟨rfl, rfl, rfl, by decide +kernel, rfl, by decide +kernel, by decide +kernel⟩
set_option maxHeartbeats 4000000 in
theorem ok_divisor_of_all {f : Addr} {fd : FuncData} {n : Nat}  (F : Fun K "divisor_of_all" "divisor_of_all" s_divisor_of_all f fd) (C_divisor_of_both : Cal P w K mg base n "divisor_of_both" ["one", "other"] spGcd) :
    FnOk P w K mg base CX0 (n + 1) f fd ["a", "b", "c"] spDiv := by
  obtain ⟨f_divisor_of_both, fd_divisor_of_both, G_divisor_of_both, b_divisor_of_both, k_divisor_of_both, m_divisor_of_both⟩ := C_divisor_of_both.ex
  refine F.ok sc_divisor_of_all (fun vs H Q E h => ?_) (fun cdv A outer s H vs Q E hr h => ?_)
  · obtain ⟨a, b, c, rfl, _⟩ := h
    rfl
  obtain ⟨a, b, c, rfl, q⟩ := h
  refine ⟨_, (pss_one (ps_ret (pe_call G_divisor_of_both hr (by rfl) m_divisor_of_both k_divisor_of_both b_divisor_of_both .nil pass0 (pa_cons (pe_call G_divisor_of_both hr (by rfl) m_divisor_of_both k_divisor_of_both b_divisor_of_both .nil pass0 (pa_cons (pv 2) (pa_cons (pv 0) pa_nil))) (pa_cons (pv 1) pa_nil))))), ?_⟩
  refine ⟨_, rfl, _, rfl, _, _, rfl, _, rfl, _, _, rfl, ?_⟩
  have e : Nat.gcd (((Nat.gcd c.natAbs a.natAbs : Nat) : Int).natAbs) b.natAbs = Num.g3 a b c := by
    rw [Int.natAbs_natCast]
    unfold Num.g3
    rw [Nat.gcd_assoc, Nat.gcd_comm]
  show Q (.int ((Nat.gcd (((Nat.gcd c.natAbs a.natAbs : Nat) : Int).natAbs) b.natAbs : Nat) : Int)) H
  rw [e]
  exact q
theorem sc_in_lowest_terms : FnScope ["a", "b", "c", "divisor"] ["a", "b", "c"] (defScope s_in_lowest_terms) := ⟨rfl, rfl, rfl, by decide +kernel, rfl, by decide +kernel, by decide +kernel⟩
set_option maxHeartbeats 4000000 in
theorem ok_in_lowest_terms {f : Addr} {fd : FuncData} {n : Nat}  (F : Fun K "in_lowest_terms" "in_lowest_terms" s_in_lowest_terms f fd) (C_divisor_of_all : Cal P w K mg base n "divisor_of_all" ["a", "b", "c"] spDiv) :
    FnOk P w K mg base CX0 (n + 1) f fd ["a", "b", "c"] spLowP := by
  obtain ⟨f_divisor_of_all, fd_divisor_of_all, G_divisor_of_all, b_divisor_of_all, k_divisor_of_all, m_divisor_of_all⟩ := C_divisor_of_all.ex
  refine F.ok sc_in_lowest_terms (fun vs H Q E h => ?_) (fun cdv A outer s H vs Q E hr h => ?_)
  · obtain ⟨a, b, c, rfl, _⟩ := h
    rfl
  obtain ⟨a, b, c, rfl, hc, hz, q⟩ := h
  refine ⟨_, (pss_cons (ps_set (i := 3) sc_in_lowest_terms.nd rfl (by first | exact Or.inl rfl | exact Or.inr rfl) (pe_call G_divisor_of_all hr (by rfl) m_divisor_of_all k_divisor_of_all b_divisor_of_all .nil pass0 (pa_cons (pv 0) (pa_cons (pv 1) (pa_cons (pv 2) pa_nil)))))
      (pss_cons (ps_if (pt_cmpR op_lt (pv 2) pe_int (nomark _)) (pss_one (ps_set (i := 3) sc_in_lowest_terms.nd rfl (by first | exact Or.inl rfl | exact Or.inr rfl) (pe_un un_neg (pv 3)))) pss_nil)
      (pss_one (ps_ret (pe_tup (pa_cons (pe_op op_fdivB (pv 0) (pv 3)) (pa_cons (pe_op op_fdivB (pv 1) (pv 3)) (pa_cons (pe_op op_fdivB (pv 2) (pv 3)) pa_nil)))))))), ?_⟩
  refine ⟨_, rfl, _, rfl, _, rfl, _, _, _, rfl, ?_⟩
  have fin : ∀ o : Int, o = Num.dv a b c → (tRet (tTup (tCons (tOp (rI CDivB fun i j => .int (i.fdiv j)) (tVar 0) (tVar 3)) (tCons (tOp (rI CDivB fun i j => .int (i.fdiv j)) (tVar 1) (tVar 3)) (tCons (tOp (rI CDivB fun i j => .int (i.fdiv j)) (tVar 2) (tVar 3)) tNil))))) { nx := fun _ H' => Q .non H', rt := Q } [some (.int a), some (.int b), some (.int c), some (.int o)] H := by
    rintro o rfl
    have hd : CDivB 0 (Num.dv a b c) := ⟨Num.dv_ne hc, hz.of_le (by rw [Num.dv_abs]; exact Num.g3_le hc)⟩
    exact ⟨_, rfl, _, rfl, _, _, rfl, rfl, hd, _, rfl, _, rfl, _, _, rfl, rfl, hd, _, rfl, _, rfl, _, _, rfl, rfl, hd, smallB rfl, q⟩
  refine ⟨_, rfl, _, _, rfl, rfl, _, rfl, ?_⟩
  refine ite2 (fun cc => ?_) (fun cc => ?_)
  · have h0 : c < 0 := of_decide_eq_true cc
    refine ⟨_, rfl, _, rfl, ?_⟩
    exact fin _ (by unfold Num.dv; rw [if_pos h0])
  · have h0 : ¬ c < 0 := of_decide_eq_false (Bool.eq_false_iff.mpr cc)
    exact fin _ (by unfold Num.dv; rw [if_neg h0])
theorem sc_plus : FnScope ["root", "one", "other", "a", "b", "c", "d", "e", "f"] ["root", "one", "other"] (defScope s_plus) := ⟨rfl, rfl, rfl, by decide +kernel, rfl, by decide +kernel, by decide +kernel⟩
set_option maxHeartbeats 4000000 in
theorem ok_plus {f : Addr} {fd : FuncData} {n : Nat}  (F : Fun K "plus" "plus" s_plus f fd) (C_in_lowest_terms : Cal P w K mg base n "in_lowest_terms" ["a", "b", "c"] spLowP) :
    FnOk P w K mg base CX0 (n + 1) f fd ["root", "one", "other"] (spPlusP K) := by
  obtain ⟨f_in_lowest_terms, fd_in_lowest_terms, G_in_lowest_terms, b_in_lowest_terms, k_in_lowest_terms, m_in_lowest_terms⟩ := C_in_lowest_terms.ex
  refine F.ok sc_plus (fun vs H Q E h => ?_) (fun cdv A outer s H vs Q E hr h => ?_)
  · obtain ⟨v, p, r, x, y, rfl, _⟩ := h
    rfl
  obtain ⟨v, p, r, x, y, rfl, h1, h2, hcf, za, zb, zc, zd, ze, zf, q⟩ := h
  refine ⟨_, (pss_cons (ps_asg (pv 1) (pg_tup (n := 3) (by rfl) (pgs_cons (pg_name (i := 3) sc_plus.nd rfl (by first | exact Or.inl rfl | exact Or.inr rfl)) (pgs_cons (pg_name (i := 4) sc_plus.nd rfl (by first | exact Or.inl rfl | exact Or.inr rfl)) (pgs_cons (pg_name (i := 5) sc_plus.nd rfl (by first | exact Or.inl rfl | exact Or.inr rfl)) pgs_nil)))))
      (pss_cons (ps_asg (pv 2) (pg_tup (n := 3) (by rfl) (pgs_cons (pg_name (i := 6) sc_plus.nd rfl (by first | exact Or.inl rfl | exact Or.inr rfl)) (pgs_cons (pg_name (i := 7) sc_plus.nd rfl (by first | exact Or.inl rfl | exact Or.inr rfl)) (pgs_cons (pg_name (i := 8) sc_plus.nd rfl (by first | exact Or.inl rfl | exact Or.inr rfl)) pgs_nil)))))
      (pss_one (ps_ret (pe_call G_in_lowest_terms hr (by rfl) m_in_lowest_terms k_in_lowest_terms b_in_lowest_terms .nil pass0 (pa_cons (pe_op op_add (pe_op op_mulB (pv 3) (pv 8)) (pe_op op_mulB (pv 6) (pv 5))) (pa_cons (pe_op op_add (pe_op op_mulB (pv 4) (pv 8)) (pe_op op_mulB (pv 7) (pv 5))) (pa_cons (pe_op op_mulB (pv 5) (pv 8)) pa_nil)))))))), ?_⟩
  refine ⟨_, rfl, p, _, rfl, h1, rfl, ?_⟩
  refine ⟨_, _, rfl, _, _, rfl, _, _, rfl, rfl, ?_⟩
  refine ⟨_, rfl, r, _, rfl, h2, rfl, ?_⟩
  refine ⟨_, _, rfl, _, _, rfl, _, _, rfl, rfl, ?_⟩
  refine ⟨_, rfl, _, rfl, _, _, rfl, rfl, ⟨za.mono, zf.mono⟩, _, rfl, _, rfl, _, _, rfl, rfl, ⟨zd.mono, zc.mono⟩, _, _, rfl, rfl, ?_⟩
  refine ⟨_, rfl, _, rfl, _, _, rfl, rfl, ⟨zb.mono, zf.mono⟩, _, rfl, _, rfl, _, _, rfl, rfl, ⟨ze.mono, zc.mono⟩, _, _, rfl, rfl, ?_⟩
  refine ⟨_, rfl, _, rfl, _, _, rfl, rfl, ⟨zc.mono, zf.mono⟩, _, _, _, rfl, hcf, (zc.mul zf).mono, q⟩
theorem sc_edges_of : FnScope ["root", "longs", "edges", "long"] ["root", "longs"] (defScope s_edges_of) := ⟨rfl, rfl, rfl, by decide +kernel, rfl, by decide +kernel, by decide +kernel⟩
set_option maxHeartbeats 4000000 in
theorem ok_edges_of {f : Addr} {fd : FuncData} {n : Nat}  (F : Fun K "edges_of" "edges_of" s_edges_of f fd) (C_plus : Cal P w K mg base n "plus" ["root", "one", "other"] (spPlusP K)) {zA : Addr} (m_ZERO : mg "ZERO" = some (.ref zA)) (hZ : ZeroK K zA) :
    FnOk P w K mg base CX0 (n + 1) f fd ["root", "longs"] (spEdges K) := by
  obtain ⟨f_plus, fd_plus, G_plus, b_plus, k_plus, m_plus⟩ := C_plus.ex
  refine F.ok sc_edges_of (fun vs H Q E h => ?_) (fun cdv A outer s H vs Q E hr h => ?_)
  · rcases h with h | h
    · obtain ⟨v0, a, vs, xs, r, rfl, _⟩ := h
      rfl
    · obtain ⟨v0, a, vs, xs, r, rfl, _⟩ := h
      rfl
  rcases h with h | h
  · obtain ⟨v0, a, vs, xs, r, rfl, hS, hvs, hok, h12, q⟩ := h
    refine ⟨_, (pss_cons (ps_set (i := 2) sc_edges_of.nd rfl (by first | exact Or.inl rfl | exact Or.inr rfl) (pe_lst (pa_cons (pe_glob (v := .ref zA) (by rfl) m_ZERO rfl) pa_nil)))
      (pss_cons (ps_for PassesOwn.never (by rfl) (pi_tup (pv 1)) (pg_name (i := 3) sc_edges_of.nd rfl (by first | exact Or.inl rfl | exact Or.inr rfl)) (pss_one (ps_expr (pe_bm PySem.F.plainAttrs_list PySem.F.slot_list_append PySem.F.type_list_append mt_append (pv 2) (pa_cons (pe_call G_plus hr (by rfl) m_plus k_plus b_plus .nil pass0 (pa_cons (pv 0) (pa_cons (pe_ix ix_list (pv 2) (pe_un un_neg pe_int) (fun _ _ => rfl)) (pa_cons (pv 3) pa_nil)))) pa_nil)))))
      (pss_one (ps_ret (pv 2))))), ?_⟩
    refine ⟨smallB rfl, fun l hl0 => ?_⟩
    refine ⟨_, rfl, a, rfl, ⟨_, (Same.new hl0 _).tup hS⟩, for_tup (xs := vs) (fun i σ H' => ∃ us w, σ = [some v0, some (.ref a), some (.ref l), w] ∧ H' l = some (.lst us) ∧ Nums K H' us (ends xs (i + 1)) ∧ Same H H')
      ⟨_, _, rfl, upd_same, (Nums.snoc Nums.nil ⟨zA, rfl, hZ _⟩ : Nums K _ ([] ++ [V.ref zA]) ([] ++ [zeroN])), Same.new hl0 _⟩ (fun i σ H' _ ⟨_, _, _, _, _, g⟩ => g.tup hS) ?_ ?_⟩
    · rintro i v σ H' hi ⟨us, w, rfl, hl', hN, g⟩
      obtain ⟨x, hx, hv⟩ := hvs.getV hi
      have hil : i < xs.length := (List.getElem?_eq_some_iff.mp hx).1
      obtain ⟨u, hu, hun⟩ := hN.get (i := i) (ends_at (by omega))
      obtain ⟨ua, rfl, hua⟩ := hun
      obtain ⟨va, rfl, hva⟩ := hv.mono g
      have o1 := pre_okB hok h12 (Nat.le_of_lt hil)
      have o2 := hok x (List.mem_of_getElem? hx)
      have ul : us.length = i + 1 := by rw [hN.1, ends_len]
      refine ⟨_, rfl, .inl ⟨rfl, _, SqL.of hl'⟩, _, rfl, _, rfl, _, rfl, l, us, _, _, rfl, rfl, SqL.of hl', at_last (by rw [ul]; exact hu), _, rfl, ?_⟩
      refine ⟨v0, ua, va, pre xs i, x, rfl, hua, hva, (by have := Int.mul_pos o1.pos o2.pos; omega), o1.za.mono, o1.zb.mono, o1.zc.mono, o2.za.mono, o2.zb.mono, o2.zc.mono, fun t ht => ?_⟩
      have nlt : l ≠ t := ne_of_none hl' ht
      have gt := Same.new ht (.tup (vN (addN (pre xs i) x)))
      refine ⟨l, us, _, rfl, rfl, (by rw [upd_ne nlt]; exact hl'), small1000 (by omega), ?_⟩
      refine ⟨us ++ [.ref t], _, rfl, upd_same, ?_, ?_⟩
      · rw [ends_succ, pre_succ hx]
        have hl2 : (upd H' t (.tup (vN (addN (pre xs i) x)))) l = some (.lst us) := by rw [upd_ne nlt]; exact hl'
        refine Nums.snoc ((hN.mono gt).monoX (SameX.upd _) hl2) ⟨t, rfl, SqT.of ?_⟩
        rw [upd_ne nlt.symm]; exact upd_same
      · intro b o hb
        rw [upd_ne (ne_of_none hb hl0)]
        exact gt b o (g b o hb)
    · rintro σ H' ⟨us, w, rfl, hl', hN, g⟩
      rw [hvs.1] at hN
      exact ⟨_, rfl, q l us H' hl0 g hl' hN⟩
  · obtain ⟨v0, a, vs, xs, r, rfl, hS, hvs, hok, h12, q⟩ := h
    refine ⟨_, (pss_cons (ps_set (i := 2) sc_edges_of.nd rfl (by first | exact Or.inl rfl | exact Or.inr rfl) (pe_lst (pa_cons (pe_glob (v := .ref zA) (by rfl) m_ZERO rfl) pa_nil)))
      (pss_cons (ps_for PassesOwn.never (by rfl) (pi_list (pv 1)) (pg_name (i := 3) sc_edges_of.nd rfl (by first | exact Or.inl rfl | exact Or.inr rfl)) (pss_one (ps_expr (pe_bm PySem.F.plainAttrs_list PySem.F.slot_list_append PySem.F.type_list_append mt_append (pv 2) (pa_cons (pe_call G_plus hr (by rfl) m_plus k_plus b_plus .nil pass0 (pa_cons (pv 0) (pa_cons (pe_ix ix_list (pv 2) (pe_un un_neg pe_int) (fun _ _ => rfl)) (pa_cons (pv 3) pa_nil)))) pa_nil)))))
      (pss_one (ps_ret (pv 2))))), ?_⟩
    refine ⟨smallB rfl, fun l hl0 => ?_⟩
    refine ⟨_, rfl, a, rfl, ⟨_, (Same.new hl0 _).seq hS⟩, for_list (xs := vs) (fun i σ H' => ∃ us w, σ = [some v0, some (.ref a), some (.ref l), w] ∧ H' l = some (.lst us) ∧ Nums K H' us (ends xs (i + 1)) ∧ Same H H')
      ⟨_, _, rfl, upd_same, (Nums.snoc Nums.nil ⟨zA, rfl, hZ _⟩ : Nums K _ ([] ++ [V.ref zA]) ([] ++ [zeroN])), Same.new hl0 _⟩ (fun i σ H' _ ⟨_, _, _, _, _, g⟩ => g.seq hS) ?_ ?_⟩
    · rintro i v σ H' hi ⟨us, w, rfl, hl', hN, g⟩
      obtain ⟨x, hx, hv⟩ := hvs.getV hi
      have hil : i < xs.length := (List.getElem?_eq_some_iff.mp hx).1
      obtain ⟨u, hu, hun⟩ := hN.get (i := i) (ends_at (by omega))
      obtain ⟨ua, rfl, hua⟩ := hun
      obtain ⟨va, rfl, hva⟩ := hv.mono g
      have o1 := pre_okB hok h12 (Nat.le_of_lt hil)
      have o2 := hok x (List.mem_of_getElem? hx)
      have ul : us.length = i + 1 := by rw [hN.1, ends_len]
      refine ⟨_, rfl, .inl ⟨rfl, _, SqL.of hl'⟩, _, rfl, _, rfl, _, rfl, l, us, _, _, rfl, rfl, SqL.of hl', at_last (by rw [ul]; exact hu), _, rfl, ?_⟩
      refine ⟨v0, ua, va, pre xs i, x, rfl, hua, hva, (by have := Int.mul_pos o1.pos o2.pos; omega), o1.za.mono, o1.zb.mono, o1.zc.mono, o2.za.mono, o2.zb.mono, o2.zc.mono, fun t ht => ?_⟩
      have nlt : l ≠ t := ne_of_none hl' ht
      have gt := Same.new ht (.tup (vN (addN (pre xs i) x)))
      refine ⟨l, us, _, rfl, rfl, (by rw [upd_ne nlt]; exact hl'), small1000 (by omega), ?_⟩
      refine ⟨us ++ [.ref t], _, rfl, upd_same, ?_, ?_⟩
      · rw [ends_succ, pre_succ hx]
        have hl2 : (upd H' t (.tup (vN (addN (pre xs i) x)))) l = some (.lst us) := by rw [upd_ne nlt]; exact hl'
        refine Nums.snoc ((hN.mono gt).monoX (SameX.upd _) hl2) ⟨t, rfl, SqT.of ?_⟩
        rw [upd_ne nlt.symm]; exact upd_same
      · intro b o hb
        rw [upd_ne (ne_of_none hb hl0)]
        exact gt b o (g b o hb)
    · rintro σ H' ⟨us, w, rfl, hl', hN, g⟩
      rw [hvs.1] at hN
      exact ⟨_, rfl, q l us H' hl0 g hl' hN⟩
theorem sc_laid_edges_of : FnScope ["change", "root", "longs", "order", "piece"] ["change"] (defScope s_laid_edges_of) := ⟨rfl, rfl, rfl, by decide +kernel, rfl, by decide +kernel, by decide +kernel⟩
set_option maxHeartbeats 4000000 in
theorem ok_laid_edges_of {f : Addr} {fd : FuncData} {n : Nat}  (F : Fun K "laid_edges_of" "laid_edges_of" s_laid_edges_of f fd) (C_edges_of : Cal P w K mg base n "edges_of" ["root", "longs"] (spEdges K)) :
    FnOk P w K mg base CX0 (n + 1) f fd ["change"] (spLaidE K) := by
  obtain ⟨f_edges_of, fd_edges_of, G_edges_of, b_edges_of, k_edges_of, m_edges_of⟩ := C_edges_of.ex
  refine F.ok sc_laid_edges_of (fun vs H Q E h => ?_) (fun cdv A outer s H vs Q E hr h => ?_)
  · obtain ⟨c, r, xs, os, rfl, _⟩ := h
    rfl
  obtain ⟨c, r, xs, os, rfl, hch, q⟩ := h
  refine ⟨_, (pss_cons (ps_asg (pv 0) (pg_tup (n := 3) (by rfl) (pgs_cons (pg_name (i := 1) sc_laid_edges_of.nd rfl (by first | exact Or.inl rfl | exact Or.inr rfl)) (pgs_cons (pg_name (i := 2) sc_laid_edges_of.nd rfl (by first | exact Or.inl rfl | exact Or.inr rfl)) (pgs_cons (pg_name (i := 3) sc_laid_edges_of.nd rfl (by first | exact Or.inl rfl | exact Or.inr rfl)) pgs_nil)))))
      (pss_one (ps_ret (pe_call G_edges_of hr (by rfl) m_edges_of k_edges_of b_edges_of .nil pass0 (pa_cons (pv 1) (pa_cons (pe_lc (own := [("piece", 4)]) (g := gName 4) (by rfl) sc_laid_edges_of.nd (pi_tup (pv 3)) (blkOk_by (own := [("piece", 4)]) (N := ["change", "root", "longs", "order", "piece"]) (sc := defScope s_laid_edges_of) (by decide +kernel)) (fun _ _ _ _ _ => (pg_name (i := 4) sc_laid_edges_of.nd rfl (by first | exact Or.inl rfl | exact Or.inr rfl))) (fun _ _ _ _ _ => pts_nil) (fun _ _ _ _ _ => (pe_ix (ix_tupK (K := K) rfl) (pv 2) (pv 4) (fun _ _ => rfl)))) pa_nil)))))), ?_⟩
  obtain ⟨⟨L, O, vs, hc, hL, hO, hN⟩, hok, hlen, hpos, h12, hperm⟩ := id hch
  refine ⟨_, rfl, c, _, rfl, SqT.of hc, rfl, ?_⟩
  refine ⟨_, _, rfl, _, _, rfl, _, _, rfl, rfl, ?_⟩
  
  refine ⟨_, rfl, _, rfl, O, rfl, ⟨_, SqT.of hO⟩, fun D hD => lc_tup (K := K) (a := O) (xs := vO os) (fun i H' => ∃ acc, H' D = some (.lst acc) ∧ Nums K H' acc ((laidL xs os).take i) ∧ Same H H')
    ⟨[], upd_same, Nums.nil, Same.new hD _⟩ (fun i H' _ ⟨_, _, _, g⟩ => g.tup (SqT.of hO)) ?_ ?_⟩
  · rintro i v H' hi ⟨acc, hA, hAn, g⟩
    have hil : i < os.length := by have := (List.getElem?_eq_some_iff.mp hi).1; rwa [List.length_map] at this
    have ho : os[i]? = some os[i] := List.getElem?_eq_getElem hil
    rw [List.getElem?_map, ho] at hi
    cases hi
    have hlt : os[i] < xs.length := hch.lt (List.getElem_mem hil)
    obtain ⟨u, hu, hun⟩ := hN.get (List.getElem?_eq_getElem hlt)
    refine ⟨rfl, ?_⟩
    refine ⟨_, rfl, _, rfl, L, vs, _, u, rfl, rfl, g.tup (SqT.of hL), at_of rfl hu, acc, hA, small1000 ?_, acc ++ [u], upd_same, ?_, ?_⟩
    · rw [hAn.1, List.length_take, laidL_len]; omega
    · have ex : (laidL xs os)[i]? = some xs[os[i]] := by
        unfold laidL
        rw [List.getElem?_map, ho]
        show some (xs.getD os[i] zeroN) = _
        rw [List.getD_eq_getElem?_getD, List.getElem?_eq_getElem hlt]
        rfl
      rw [List.take_succ, ex]
      exact Nums.snoc (hAn.monoX (SameX.upd _) hA) ((hun.mono g).monoX (SameX.upd _) hA)
    · intro b o hb
      rw [upd_ne (ne_of_none hb hD)]
      exact g b o hb
  · rintro H' ⟨acc, hA, hAn, g⟩
    have e : (laidL xs os).take (vO os).length = laidL xs os := by rw [List.length_map, List.take_of_length_le (by rw [laidL_len]; omega)]
    rw [e] at hAn
    refine .inr ⟨_, D, acc, laidL xs os, r, rfl, SqL.of hA, hAn, laidL_ok hok (by decide), by rw [laidL_len]; omega, fun l us H1 hl0 g1 hl hU => ?_⟩
    rw [laidL_len] at hU
    exact q l us H1 (g.free hl0) (g.trans g1) hl hU
theorem sc_laid_of : FnScope ["change", "root", "longs", "order"] ["change"] (defScope s_laid_of) := ⟨rfl, rfl, rfl, by decide +kernel, rfl, by decide +kernel, by decide +kernel⟩
set_option maxHeartbeats 4000000 in
theorem ok_laid_of {f : Addr} {fd : FuncData} {n : Nat}  (F : Fun K "laid_of" "laid_of" s_laid_of f fd) (C_laid_edges_of : Cal P w K mg base n "laid_edges_of" ["change"] (spLaidE K)) (m_list : mg "list" = none) (m_zip : mg "zip" = none) :
    FnOk P w K mg base CX0 (n + 1) f fd ["change"] (spLaidOf K) := by
  obtain ⟨f_laid_edges_of, fd_laid_edges_of, G_laid_edges_of, b_laid_edges_of, k_laid_edges_of, m_laid_edges_of⟩ := C_laid_edges_of.ex
  refine F.ok sc_laid_of (fun vs H Q E h => ?_) (fun cdv A outer s H vs Q E hr h => ?_)
  · obtain ⟨c, r, xs, os, rfl, _⟩ := h
    rfl
  obtain ⟨c, r, xs, os, rfl, hch, q⟩ := h
  refine ⟨_, (pss_cons (ps_asg (pv 0) (pg_tup (n := 3) (by rfl) (pgs_cons (pg_name (i := 1) sc_laid_of.nd rfl (by first | exact Or.inl rfl | exact Or.inr rfl)) (pgs_cons (pg_name (i := 2) sc_laid_of.nd rfl (by first | exact Or.inl rfl | exact Or.inr rfl)) (pgs_cons (pg_name (i := 3) sc_laid_of.nd rfl (by first | exact Or.inl rfl | exact Or.inr rfl)) pgs_nil)))))
      (pss_one (ps_ret (pe_lzip (by rfl) (by rfl) m_list (by rfl) m_zip (pa_cons (pv 3) (pa_cons (pe_slice sl_list (pe_call G_laid_edges_of hr (by rfl) m_laid_edges_of k_laid_edges_of b_laid_edges_of .nil pass0 (pa_cons (pv 0) pa_nil)) po_none (po_some (pe_un un_neg pe_int))) pa_nil)))))), ?_⟩
  obtain ⟨⟨L, O, vs, hc, hL, hO, hN⟩, hok, hlen, hpos, h12, hperm⟩ := id hch
  refine ⟨_, rfl, c, _, rfl, SqT.of hc, rfl, ?_⟩
  refine ⟨_, _, rfl, _, _, rfl, _, _, rfl, rfl, ?_⟩
  
  refine ⟨_, rfl, _, rfl, c, r, xs, os, rfl, hch, fun l us H1 hl0 g hl hU => ?_⟩
  have ul : us.length = os.length + 1 := by rw [hU.1, ends_len]
  have ec : cutV us none (some (-1)) = us.take os.length := by rw [cut_last us (by omega), ul]; rfl
  refine ⟨_, rfl, _, rfl, l, us, rfl, SqL.of hl, fun p hp => ?_⟩
  rw [ec]
  have g2 := Same.new hp (.lst (us.take os.length))
  refine ⟨O, p, _, _, rfl, (g.trans g2).tup (SqT.of hO), SqL.of upd_same, by rw [List.length_map, List.length_take]; omega, by rw [List.length_map]; omega, fun l2 ts H2 h20 hts hnew hl2 hT g3 => ?_⟩
  refine q l2 ts (us.take os.length) H2 ((g.trans g2).free h20) ((g.trans g2).trans g3) hl2 (by rw [hts, List.length_map]) ?_ fun i T o u h1 h2 h3 => hT i T _ u h1 (by rw [List.getElem?_map, h2]; rfl) h3
  rw [← ends_take]
  exact ((hU.mono g2).mono g3).take _
theorem sc_minus : FnScope ["root", "one", "other", "a", "b", "c", "d", "e", "f"] ["root", "one", "other"] (defScope s_minus) := ⟨rfl, rfl, rfl, by decide +kernel, rfl, by decide +kernel, by decide +kernel⟩
set_option maxHeartbeats 4000000 in
theorem ok_minus {f : Addr} {fd : FuncData} {n : Nat}  (F : Fun K "minus" "minus" s_minus f fd) (C_in_lowest_terms : Cal P w K mg base n "in_lowest_terms" ["a", "b", "c"] spLowP) :
    FnOk P w K mg base CX0 (n + 1) f fd ["root", "one", "other"] (spMinusP K) := by
  obtain ⟨f_in_lowest_terms, fd_in_lowest_terms, G_in_lowest_terms, b_in_lowest_terms, k_in_lowest_terms, m_in_lowest_terms⟩ := C_in_lowest_terms.ex
  refine F.ok sc_minus (fun vs H Q E h => ?_) (fun cdv A outer s H vs Q E hr h => ?_)
  · obtain ⟨v, p, r, x, y, rfl, _⟩ := h
    rfl
  obtain ⟨v, p, r, x, y, rfl, h1, h2, hcf, za, zb, zc, zd, ze, zf, q⟩ := h
  refine ⟨_, (pss_cons (ps_asg (pv 1) (pg_tup (n := 3) (by rfl) (pgs_cons (pg_name (i := 3) sc_minus.nd rfl (by first | exact Or.inl rfl | exact Or.inr rfl)) (pgs_cons (pg_name (i := 4) sc_minus.nd rfl (by first | exact Or.inl rfl | exact Or.inr rfl)) (pgs_cons (pg_name (i := 5) sc_minus.nd rfl (by first | exact Or.inl rfl | exact Or.inr rfl)) pgs_nil)))))
      (pss_cons (ps_asg (pv 2) (pg_tup (n := 3) (by rfl) (pgs_cons (pg_name (i := 6) sc_minus.nd rfl (by first | exact Or.inl rfl | exact Or.inr rfl)) (pgs_cons (pg_name (i := 7) sc_minus.nd rfl (by first | exact Or.inl rfl | exact Or.inr rfl)) (pgs_cons (pg_name (i := 8) sc_minus.nd rfl (by first | exact Or.inl rfl | exact Or.inr rfl)) pgs_nil)))))
      (pss_one (ps_ret (pe_call G_in_lowest_terms hr (by rfl) m_in_lowest_terms k_in_lowest_terms b_in_lowest_terms .nil pass0 (pa_cons (pe_op op_sub (pe_op op_mulB (pv 3) (pv 8)) (pe_op op_mulB (pv 6) (pv 5))) (pa_cons (pe_op op_sub (pe_op op_mulB (pv 4) (pv 8)) (pe_op op_mulB (pv 7) (pv 5))) (pa_cons (pe_op op_mulB (pv 5) (pv 8)) pa_nil)))))))), ?_⟩
  refine ⟨_, rfl, p, _, rfl, h1, rfl, ?_⟩
  refine ⟨_, _, rfl, _, _, rfl, _, _, rfl, rfl, ?_⟩
  refine ⟨_, rfl, r, _, rfl, h2, rfl, ?_⟩
  refine ⟨_, _, rfl, _, _, rfl, _, _, rfl, rfl, ?_⟩
  refine ⟨_, rfl, _, rfl, _, _, rfl, rfl, ⟨za.mono, zf.mono⟩, _, rfl, _, rfl, _, _, rfl, rfl, ⟨zd.mono, zc.mono⟩, _, _, rfl, rfl, ?_⟩
  refine ⟨_, rfl, _, rfl, _, _, rfl, rfl, ⟨zb.mono, zf.mono⟩, _, rfl, _, rfl, _, _, rfl, rfl, ⟨ze.mono, zc.mono⟩, _, _, rfl, rfl, ?_⟩
  refine ⟨_, rfl, _, rfl, _, _, rfl, rfl, ⟨zc.mono, zf.mono⟩, _, _, _, rfl, hcf, (zc.mul zf).mono, q⟩
theorem sc_begins_of : FnScope ["change", "root", "longs", "order"] ["change"] (defScope s_begins_of) := ⟨rfl, rfl, rfl, by decide +kernel, rfl, by decide +kernel, by decide +kernel⟩
set_option maxHeartbeats 4000000 in
theorem ok_begins_of {f : Addr} {fd : FuncData} {n : Nat}  (F : Fun K "begins_of" "begins_of" s_begins_of f fd) (C_edges_of : Cal P w K mg base n "edges_of" ["root", "longs"] (spEdges K)) (m_tuple : mg "tuple" = none) :
    FnOk P w K mg base CX0 (n + 1) f fd ["change"] (spBegins K) := by
  obtain ⟨f_edges_of, fd_edges_of, G_edges_of, b_edges_of, k_edges_of, m_edges_of⟩ := C_edges_of.ex
  refine F.ok sc_begins_of (fun vs H Q E h => ?_) (fun cdv A outer s H vs Q E hr h => ?_)
  · obtain ⟨c, r, xs, os, rfl, _⟩ := h
    rfl
  obtain ⟨c, r, xs, os, rfl, hch, q⟩ := h
  refine ⟨_, (pss_cons (ps_asg (pv 0) (pg_tup (n := 3) (by rfl) (pgs_cons (pg_name (i := 1) sc_begins_of.nd rfl (by first | exact Or.inl rfl | exact Or.inr rfl)) (pgs_cons (pg_name (i := 2) sc_begins_of.nd rfl (by first | exact Or.inl rfl | exact Or.inr rfl)) (pgs_cons (pg_name (i := 3) sc_begins_of.nd rfl (by first | exact Or.inl rfl | exact Or.inr rfl)) pgs_nil)))))
      (pss_one (ps_ret (pe_callTy call_tuple_of (by rfl) m_tuple (by decide +kernel) (pa_cons (pe_slice sl_list (pe_call G_edges_of hr (by rfl) m_edges_of k_edges_of b_edges_of .nil pass0 (pa_cons (pv 1) (pa_cons (pv 2) pa_nil))) po_none (po_some (pe_un un_neg pe_int))) pa_nil))))), ?_⟩
  obtain ⟨⟨L, O, vs, hc, hL, hO, hN⟩, hok, hlen, hpos, h12, hperm⟩ := id hch
  refine ⟨_, rfl, c, _, rfl, SqT.of hc, rfl, ?_⟩
  refine ⟨_, _, rfl, _, _, rfl, _, _, rfl, rfl, ?_⟩
  
  refine ⟨_, rfl, _, rfl, .inl ⟨_, L, vs, xs, r, rfl, SqT.of hL, hN, hok, h12, fun l us H1 hl0 g hl hU => ?_⟩⟩
  have ul : us.length = xs.length + 1 := by rw [hU.1, ends_len]
  have ec : cutV us none (some (-1)) = us.take xs.length := by rw [cut_last us (by omega), ul]; rfl
  refine ⟨_, rfl, _, rfl, l, us, rfl, SqL.of hl, fun p hp => ?_⟩
  refine ⟨p, _, rfl, .inl ⟨SqL.of upd_same, fun t ht => ?_⟩⟩
  have g2 := (Same.new hp (.lst (cutV us none (some (-1))))).trans (Same.new ht (.tup (cutV us none (some (-1)))))
  refine q t (us.take xs.length) _ (g.trans g2) (by rw [upd_same, ec]) ?_
  rw [← ends_take]
  exact (hU.mono g2).take _
theorem sc_moves_of : FnScope ["change", "root", "longs", "order", "laid", "piece", "begin"] ["change"] (defScope s_moves_of) := ⟨rfl, rfl, rfl, by decide +kernel, rfl, by decide +kernel, by decide +kernel⟩
set_option maxHeartbeats 4000000 in
theorem ok_moves_of {f : Addr} {fd : FuncData} {n : Nat}  (F : Fun K "moves_of" "moves_of" s_moves_of f fd) (C_laid_of : Cal P w K mg base n "laid_of" ["change"] (spLaidOf K)) (C_minus : Cal P w K mg base n "minus" ["root", "one", "other"] (spMinusP K)) (C_begins_of : Cal P w K mg base n "begins_of" ["change"] (spBegins K)) (m_dict : mg "dict" = none) (m_tuple : mg "tuple" = none) (m_enumerate : mg "enumerate" = none) :
    FnOk P w K mg base CX0 (n + 1) f fd ["change"] (spMoves K) := by
  obtain ⟨f_laid_of, fd_laid_of, G_laid_of, b_laid_of, k_laid_of, m_laid_of⟩ := C_laid_of.ex
  obtain ⟨f_minus, fd_minus, G_minus, b_minus, k_minus, m_minus⟩ := C_minus.ex
  obtain ⟨f_begins_of, fd_begins_of, G_begins_of, b_begins_of, k_begins_of, m_begins_of⟩ := C_begins_of.ex
  refine F.ok sc_moves_of (fun vs H Q E h => ?_) (fun cdv A outer s H vs Q E hr h => ?_)
  · obtain ⟨c, r, xs, os, rfl, _⟩ := h
    rfl
  obtain ⟨c, r, xs, os, rfl, hch, q⟩ := h
  refine ⟨_, (pss_cons (ps_asg (pv 0) (pg_tup (n := 3) (by rfl) (pgs_cons (pg_name (i := 1) sc_moves_of.nd rfl (by first | exact Or.inl rfl | exact Or.inr rfl)) (pgs_cons (pg_name (i := 2) sc_moves_of.nd rfl (by first | exact Or.inl rfl | exact Or.inr rfl)) (pgs_cons (pg_name (i := 3) sc_moves_of.nd rfl (by first | exact Or.inl rfl | exact Or.inr rfl)) pgs_nil)))))
      (pss_cons (ps_set (i := 4) sc_moves_of.nd rfl (by first | exact Or.inl rfl | exact Or.inr rfl) (pe_callTy (call_dictP rfl) (by rfl) m_dict (by decide +kernel) (pa_cons (pe_call G_laid_of hr (by rfl) m_laid_of k_laid_of b_laid_of .nil pass0 (pa_cons (pv 0) pa_nil)) pa_nil)))
      (pss_one (ps_ret (pe_callTy call_tuple_of (by rfl) m_tuple (by decide +kernel) (pa_cons (pe_lc (own := [("piece", 5), ("begin", 6)]) (by rfl) sc_moves_of.nd (pi_enumT (by rfl) m_enumerate (pa_cons (pe_call G_begins_of hr (by rfl) m_begins_of k_begins_of b_begins_of .nil pass0 (pa_cons (pv 0) pa_nil)) pa_nil)) (blkOk_by (own := [("piece", 5), ("begin", 6)]) (N := ["change", "root", "longs", "order", "laid", "piece", "begin"]) (sc := defScope s_moves_of) (by decide +kernel)) (fun _ _ _ _ _ => (pg_tupK (K := K) rfl (n := 2) (by rfl) (pgs_cons (pg_name (i := 5) sc_moves_of.nd rfl (by first | exact Or.inl rfl | exact Or.inr rfl)) (pgs_cons (pg_name (i := 6) sc_moves_of.nd rfl (by first | exact Or.inl rfl | exact Or.inr rfl)) pgs_nil)))) (fun _ _ _ _ _ => pts_nil) (fun _ _ _ _ _ => (pe_call G_minus hr (by rfl) m_minus k_minus b_minus .nil pass0 (pa_cons (pv 1) (pa_cons (pe_dget (hu_of hr) (pv 4) (pv 5) (fun _ _ => rfl)) (pa_cons (pv 6) pa_nil)))))) pa_nil)))))), ?_⟩
  obtain ⟨⟨L, O, vs, hc, hL, hO, hN⟩, hok, hlen, hpos, h12, hperm⟩ := id hch
  refine ⟨_, rfl, c, _, rfl, SqT.of hc, rfl, ?_⟩
  refine ⟨_, _, rfl, _, _, rfl, _, _, rfl, rfl, ?_⟩
  
  refine ⟨_, rfl, c, r, xs, os, rfl, hch, fun l ts bs H1 hl0 g1 hl hts hB hT => ?_⟩
  have bl : bs.length = os.length := by rw [hB.1, ends_len]
  have pr : Paired (fun p (kv : Key × V) => SqT K H1 p [kV kv.1, kv.2]) ts ((os.zip bs).map fun (o, b) => ((Sum.inl (o : Int) : Key), b)) := by
    refine paired_of (by rw [List.length_map, List.length_zip]; omega) fun i p kv h1 h2 => ?_
    rw [List.getElem?_map] at h2
    obtain ⟨⟨o, b⟩, h3, rfl⟩ := Option.map_eq_some_iff.mp h2
    rw [List.getElem?_zip_eq_some] at h3
    exact SqT.of (hT i p o b h1 h3.1 h3.2)
  refine ⟨l, ts, _, rfl, SqL.of hl, pr, fun d hd => ?_⟩
  have g2 := Same.new hd (.dK (mergeK [] ((os.zip bs).map fun (o, b) => ((Sum.inl (o : Int) : Key), b))))
  have g12 := g1.trans g2
  refine ⟨_, rfl, c, r, xs, os, rfl, hch.mono g12, fun b us H3 g3 hb hU => ?_⟩
  have ul : us.length = xs.length := by rw [hU.1, ends_len]
  refine ⟨b, us, rfl, SqT.of hb, fun D hD => lc_enumT (K := K) (a := b) (xs := us) (fun i H' => ∃ acc, H' D = some (.lst acc) ∧ Nums K H' acc ((List.range i).map fun i => subN (pre (laidL xs os) (os.idxOf i)) (pre xs i)) ∧ Same H3 H')
    ⟨[], upd_same, Nums.nil, Same.new hD _⟩ (fun i H' _ ⟨_, _, _, g⟩ => g.tup (SqT.of hb)) ?_ ?_⟩
  · rintro i u H' T hi ⟨acc, hA, hAn, g⟩ hT0
    have hil : i < xs.length := by have := (List.getElem?_eq_some_iff.mp hi).1; omega
    have nDT : D ≠ T := ne_of_none hA hT0
    have gT := Same.new hT0 (.tup [.int (i : Nat), u])
    have all := ((g12.trans g3).trans g).trans gT
    refine ⟨T, _, rfl, SqT.of upd_same, rfl, ?_⟩
    refine ⟨_, _, rfl, _, _, rfl, rfl, ?_⟩
    refine ⟨rfl, ?_⟩
    have mi : i ∈ os := hperm.mem_iff.mpr (List.mem_range.mpr hil)
    have hj : os.idxOf i < os.length := List.idxOf_lt_length_of_mem mi
    have hoj : os[os.idxOf i]? = some i := by rw [List.getElem?_eq_getElem hj, List.getElem_idxOf hj]
    obtain ⟨w, hw, hwn⟩ := hB.get (i := os.idxOf i) (ends_at hj)
    have hval : valV (mergeK [] ((os.zip bs).map fun (o, b) => ((Sum.inl (o : Int) : Key), b))) (Sum.inl (i : Int) : Key) = some w := by
      refine merge_val ?_ (List.mem_map.mpr ⟨(i, w), List.mem_of_getElem? (i := os.idxOf i) (by rw [List.getElem?_zip_eq_some]; exact ⟨hoj, hw⟩), rfl⟩)
      have e : ((os.zip bs).map fun (o, b) => ((Sum.inl (o : Int) : Key), b)).map (·.1) = os.map fun (o : Nat) => (Sum.inl (o : Int) : Key) := by
        rw [List.map_map]
        have : os = (os.zip bs).map (·.1) := (List.map_fst_zip (by omega)).symm
        conv => rhs; rw [this, List.map_map]
        rfl
      rw [e]
      exact nodup_map (fun a b h => by have := Sum.inl.inj h; omega) hch.nd
    have hd' : (upd H' T (.tup [.int (i : Nat), u])) d = some (.dK (mergeK [] ((os.zip bs).map fun (o, b) => ((Sum.inl (o : Int) : Key), b)))) := ((g3.trans g).trans gT) _ _ upd_same
    have hget := DGet.k (k := (Sum.inl (i : Int) : Key)) hd'
    rw [hval] at hget
    obtain ⟨wa, rfl, hwa⟩ := (hwn.mono g2).mono ((g3.trans g).trans gT)
    obtain ⟨ua, rfl, hua⟩ := (hU.2 i u _ hi (ends_at hil)).mono (g.trans gT)
    have o1 : Ok r 400 (pre (laidL xs os) (os.idxOf i)) := pre_okB (laidL_ok hok (by decide)) (by rw [laidL_len]; omega) (by rw [laidL_len]; omega)
    have o2 : Ok r 400 (pre xs i) := pre_okB hok h12 (Nat.le_of_lt hil)
    refine ⟨_, rfl, _, rfl, _, rfl, d, _, rfl, hget, _, rfl, ?_⟩
    refine ⟨_, wa, ua, pre (laidL xs os) (os.idxOf i), pre xs i, rfl, hwa, hua, (by have := Int.mul_pos o1.pos o2.pos; omega), o1.za.mono, o1.zb.mono, o1.zc.mono, o2.za.mono, o2.zb.mono, o2.zc.mono, fun t ht => ?_⟩
    have hA2 : (upd H' T (.tup [.int (i : Nat), V.ref ua])) D = some (.lst acc) := by rw [upd_ne nDT]; exact hA
    have nDt : D ≠ t := ne_of_none hA2 ht
    have gt := Same.new ht (.tup (vN (subN (pre (laidL xs os) (os.idxOf i)) (pre xs i))))
    have hA3 : (upd (upd H' T (.tup [.int (i : Nat), V.ref ua])) t (.tup (vN (subN (pre (laidL xs os) (os.idxOf i)) (pre xs i))))) D = some (.lst acc) := by rw [upd_ne nDt]; exact hA2
    refine ⟨acc, hA3, small1000 (by rw [hAn.1, List.length_map, List.length_range]; omega), acc ++ [.ref t], upd_same, ?_, ?_⟩
    · rw [List.range_succ, List.map_append]
      exact Nums.snoc (((hAn.mono gT).mono gt).monoX (SameX.upd _) hA3) (NumAt.monoX ⟨t, rfl, SqT.of upd_same⟩ (SameX.upd _) hA3)
    · intro b' o hb'
      rw [upd_ne (ne_of_none hb' hD)]
      exact gt b' o (gT b' o (g b' o hb'))
  · rintro H' ⟨acc, hA, hAn, g⟩
    rw [ul] at hAn
    refine ⟨D, acc, rfl, .inl ⟨SqL.of hA, fun t ht => ?_⟩⟩
    have gt := Same.new ht (.tup acc)
    exact q t acc _ (((g12.trans g3).trans g).trans gt) upd_same (hAn.mono gt)
theorem sc_times : FnScope ["root", "one", "other", "a", "b", "c", "d", "e", "f"] ["root", "one", "other"] (defScope s_times) := ⟨rfl, rfl, rfl, by decide +kernel, rfl, by decide +kernel, by decide +kernel⟩
set_option maxHeartbeats 4000000 in
theorem ok_times {f : Addr} {fd : FuncData} {n : Nat}  (F : Fun K "times" "times" s_times f fd) (C_in_lowest_terms : Cal P w K mg base n "in_lowest_terms" ["a", "b", "c"] spLowP) :
    FnOk P w K mg base CX0 (n + 1) f fd ["root", "one", "other"] (spTimes K) := by
  obtain ⟨f_in_lowest_terms, fd_in_lowest_terms, G_in_lowest_terms, b_in_lowest_terms, k_in_lowest_terms, m_in_lowest_terms⟩ := C_in_lowest_terms.ex
  refine F.ok sc_times (fun vs H Q E h => ?_) (fun cdv A outer s H vs Q E hr h => ?_)
  · obtain ⟨r, p, t, x, y, rfl, _⟩ := h
    rfl
  obtain ⟨r, p, t, x, y, rfl, h1, h2, hcf, zr, za, zb, zc, zd, ze, zf, q⟩ := h
  refine ⟨_, (pss_cons (ps_asg (pv 1) (pg_tup (n := 3) (by rfl) (pgs_cons (pg_name (i := 3) sc_times.nd rfl (by first | exact Or.inl rfl | exact Or.inr rfl)) (pgs_cons (pg_name (i := 4) sc_times.nd rfl (by first | exact Or.inl rfl | exact Or.inr rfl)) (pgs_cons (pg_name (i := 5) sc_times.nd rfl (by first | exact Or.inl rfl | exact Or.inr rfl)) pgs_nil)))))
      (pss_cons (ps_asg (pv 2) (pg_tup (n := 3) (by rfl) (pgs_cons (pg_name (i := 6) sc_times.nd rfl (by first | exact Or.inl rfl | exact Or.inr rfl)) (pgs_cons (pg_name (i := 7) sc_times.nd rfl (by first | exact Or.inl rfl | exact Or.inr rfl)) (pgs_cons (pg_name (i := 8) sc_times.nd rfl (by first | exact Or.inl rfl | exact Or.inr rfl)) pgs_nil)))))
      (pss_one (ps_ret (pe_call G_in_lowest_terms hr (by rfl) m_in_lowest_terms k_in_lowest_terms b_in_lowest_terms .nil pass0 (pa_cons (pe_op op_add (pe_op op_mulB (pv 3) (pv 6)) (pe_op op_mulB (pe_op op_mulB (pv 0) (pv 4)) (pv 7))) (pa_cons (pe_op op_add (pe_op op_mulB (pv 3) (pv 7)) (pe_op op_mulB (pv 4) (pv 6))) (pa_cons (pe_op op_mulB (pv 5) (pv 8)) pa_nil)))))))), ?_⟩
  refine ⟨_, rfl, p, _, rfl, h1, rfl, ?_⟩
  refine ⟨_, _, rfl, _, _, rfl, _, _, rfl, rfl, ?_⟩
  refine ⟨_, rfl, t, _, rfl, h2, rfl, ?_⟩
  refine ⟨_, _, rfl, _, _, rfl, _, _, rfl, rfl, ?_⟩
  
  refine ⟨_, rfl, _, rfl, _, _, rfl, rfl, ⟨za.mono, zd.mono⟩, _, rfl, _, rfl, _, _, rfl, rfl, ⟨zr.mono, zb.mono⟩, _, rfl, _, _, rfl, rfl, ⟨(zr.mul zb).mono, ze.mono⟩, _, _, rfl, rfl, ?_⟩
  refine ⟨_, rfl, _, rfl, _, _, rfl, rfl, ⟨za.mono, ze.mono⟩, _, rfl, _, rfl, _, _, rfl, rfl, ⟨zb.mono, zd.mono⟩, _, _, rfl, rfl, ?_⟩
  exact ⟨_, rfl, _, rfl, _, _, rfl, rfl, ⟨zc.mono, zf.mono⟩, _, _, _, rfl, hcf, (zc.mul zf).mono, q⟩
theorem sc__law_balanced : FnScope ["_law_change", "_law_total", "_law_one", "_law_move"] ["_law_change"] (defScope s__law_balanced) := ⟨rfl, rfl, rfl, by decide +kernel, rfl, by decide +kernel, by decide +kernel⟩
set_option maxHeartbeats 4000000 in
theorem ok__law_balanced {f : Addr} {fd : FuncData} {n : Nat}  (F : Fun K "_law_balanced" "_law_balanced" s__law_balanced f fd) (C_moves_of : Cal P w K mg base n "moves_of" ["change"] (spMoves K)) (C_plus : Cal P w K mg base n "plus" ["root", "one", "other"] (spPlusP K)) (C_times : Cal P w K mg base n "times" ["root", "one", "other"] (spTimes K)) (m_zip : mg "zip" = none) :
    FnOk P w K mg base CX0 (n + 1) f fd ["_law_change"] (spBalanced K) := by
  obtain ⟨f_moves_of, fd_moves_of, G_moves_of, b_moves_of, k_moves_of, m_moves_of⟩ := C_moves_of.ex
  obtain ⟨f_plus, fd_plus, G_plus, b_plus, k_plus, m_plus⟩ := C_plus.ex
  obtain ⟨f_times, fd_times, G_times, b_times, k_times, m_times⟩ := C_times.ex
  refine F.ok sc__law_balanced (fun vs H Q E h => ?_) (fun cdv A outer s H vs Q E hr h => ?_)
  · obtain ⟨c, r, xs, os, rfl, _⟩ := h
    rfl
  obtain ⟨c, r, xs, os, rfl, hch, hR, h8, q⟩ := h
  refine ⟨_, (pss_cons (ps_set (i := 1) sc__law_balanced.nd rfl (by first | exact Or.inl rfl | exact Or.inr rfl) (pe_tup (pa_cons pe_int (pa_cons pe_int (pa_cons pe_int pa_nil)))))
      (pss_cons (ps_for PassesOwn.never (by rfl) (pi_zipT (by rfl) m_zip (pa_cons (pe_ix ix_tup (pv 0) pe_int (fun _ _ => rfl)) (pa_cons (pe_call G_moves_of hr (by rfl) m_moves_of k_moves_of b_moves_of .nil pass0 (pa_cons (pv 0) pa_nil)) pa_nil))) (pg_tup (n := 2) (by rfl) (pgs_cons (pg_name (i := 2) sc__law_balanced.nd rfl (by first | exact Or.inl rfl | exact Or.inr rfl)) (pgs_cons (pg_name (i := 3) sc__law_balanced.nd rfl (by first | exact Or.inl rfl | exact Or.inr rfl)) pgs_nil))) (pss_one (ps_set (i := 1) sc__law_balanced.nd rfl (by first | exact Or.inl rfl | exact Or.inr rfl) (pe_call G_plus hr (by rfl) m_plus k_plus b_plus .nil pass0 (pa_cons (pe_ix ix_tup (pv 0) pe_int (fun _ _ => rfl)) (pa_cons (pv 1) (pa_cons (pe_call G_times hr (by rfl) m_times k_times b_times .nil pass0 (pa_cons (pe_ix ix_tup (pv 0) pe_int (fun _ _ => rfl)) (pa_cons (pv 2) (pa_cons (pv 3) pa_nil)))) pa_nil)))))))
      (pss_one (ps_ret (pe_cmpR (op_eqD hr.units) (pv 1) (pe_tup (pa_cons pe_int (pa_cons pe_int (pa_cons pe_int pa_nil)))) (nomark _)))))), ?_⟩
  have zr : Sz 100 r := (Root.sz hR).mono
  obtain ⟨⟨L, O, vs, hc, hL, hO, hN⟩, hok, hlen, hpos, h12, hperm⟩ := id hch
  refine ⟨smallB rfl, fun t0 h0 => ?_⟩
  have g0 := Same.new h0 (.tup (tri 0 0 1))
  have ht0 : (upd H t0 (.tup (tri 0 0 1))) t0 = some (.tup (vN zeroN)) := upd_same
  generalize upd H t0 (.tup (tri 0 0 1)) = H1 at *
  refine ⟨_, rfl, c, _, _, _, rfl, rfl, SqT.of (g0 _ _ hc), at1, _, rfl, c, r, xs, os, rfl, hch.mono g0, fun tm um H2 g2 htm hUm => ?_⟩
  have g02 := g0.trans g2
  have ul : um.length = xs.length := by rw [hUm.1, List.length_map, List.length_range]
  have hN2 := hN.mono g02
  refine ⟨L, tm, vs, um, rfl, SqT.of (g02 _ _ hL), SqT.of htm, for_zipT (K := K) (a := L) (b := tm) (xs := vs) (ys := um) (fun i σ H' => Same H2 H' ∧ ∃ (tt : Addr) (y : N3) (w2 w3 : Option V), σ = [some (.ref c), some (.ref tt), w2, w3] ∧ SqT K H' tt (vN y) ∧ Ok r (1 + 836 * i) y ∧ wN y = sumR (fun j => Wo.ml r (Xw xs j) (Mw xs os j)) i) (by rw [ul]; exact hN.1)
    ⟨Same.refl _, t0, zeroN, _, _, rfl, SqT.of (g2 _ _ ht0), zero_ok r 1 (by decide), wN_zero⟩ (fun i σ H' _ ⟨g, _⟩ => ⟨SqT.of (g _ _ (g02 _ _ hL)), SqT.of (g _ _ htm)⟩) ?_ ?_⟩
  case refine_2 =>
    rintro σ H' ⟨g, tt, y, w2, w3, rfl, hy, oky, ey⟩
    rw [hN.1, balanced hlen hok hperm] at ey
    have e0 : y = zeroN := wN_inj oky (zero_ok r 1 (by decide)) (by rw [ey, wN_zero])
    subst e0
    refine ⟨_, rfl, smallB rfl, fun t1 h1 => ?_⟩
    have g1 := Same.new h1 (.tup (tri 0 0 1))
    refine ⟨dN zeroN, dN zeroN, NumAt.dp ⟨tt, rfl, g1.tup hy⟩, NumAt.dp ⟨t1, rfl, SqT.of upd_same⟩, shaped_dN _, shaped_dN _, ?_⟩
    rw [eqv_self (shaped_dN _)]
    exact q _ ((g02.trans g).trans g1)
  rintro i u v T σ H' hu hv ⟨g, tt, y, w2, w3, rfl, hy, oky, ey⟩ hT0
  have hi : i < xs.length := by have := (List.getElem?_eq_some_iff.mp hu).1; rw [hN.1] at this; exact this
  obtain ⟨x, hx, hxn⟩ := hN2.getV hu
  obtain ⟨m, hm, hmn⟩ := hUm.getV hv
  rw [getD_at hi] at hx
  rw [List.getElem?_map, List.getElem?_range hi] at hm
  cases hx
  cases hm
  obtain ⟨ua, rfl, hua⟩ := hxn.mono g
  obtain ⟨va, rfl, hva⟩ := hmn.mono g
  have gT := Same.new hT0 (.tup [.ref ua, .ref va])
  have hc' := gT _ _ (g _ _ (g02 _ _ hc))
  have hua' := gT.tup hua
  have hva' := gT.tup hva
  have hy' := gT.tup hy
  refine ⟨T, _, rfl, SqT.of upd_same, rfl, ?_⟩
  refine ⟨_, _, rfl, _, _, rfl, rfl, ?_⟩
  generalize upd H' T (.tup [.ref ua, .ref va]) = H4 at *
  have ox := getD_ok (r := r) hok i
  have om := mvN_ok hok h12 hlen hperm hi
  have o3 := mulN_ok (Root.sz hR) ox om
  refine ⟨_, rfl, c, _, _, _, rfl, rfl, SqT.of hc', at0, _, rfl, _, rfl, c, _, _, _, rfl, rfl, SqT.of hc', at0, _, rfl, _, rfl, r, ua, va, xs.getD i zeroN, mvN xs os i, rfl, hua', hva', Int.ne_of_gt (Int.mul_pos ox.pos om.pos), zr, ox.za.mono (by decide), ox.zb.mono (by decide), ox.zc.mono (by decide), om.za.mono (by decide), om.zb.mono (by decide), om.zc.mono (by decide), fun u hu0 => ?_⟩
  have gu := Same.new hu0 (.tup (vN (mulN r (xs.getD i zeroN) (mvN xs os i))))
  refine ⟨_, tt, u, y, mulN r (xs.getD i zeroN) (mvN xs os i), rfl, gu.tup hy', SqT.of upd_same, Int.ne_of_gt (Int.mul_pos oky.pos o3.pos), oky.za.mono (by omega), oky.zb.mono (by omega), oky.zc.mono (by omega), o3.za.mono (by decide), o3.zb.mono (by decide), o3.zc.mono (by decide), fun t ht => ?_⟩
  have gt := Same.new ht (.tup (vN (addN y (mulN r (xs.getD i zeroN) (mvN xs os i)))))
  refine ⟨((g.trans gT).trans gu).trans gt, t, _, _, _, rfl, SqT.of upd_same, (addN_ok oky o3).mono (by omega), ?_⟩
  rw [wN_add oky.pos o3.pos, wN_mul ox.pos om.pos, mvN_w hok h12 hlen hperm hi, sumR_succ, ey]
theorem sc_is_below_zero : FnScope ["root", "a", "b"] ["root", "a", "b"] (defScope s_is_below_zero) := ⟨rfl, rfl, rfl, by decide +kernel, rfl, by decide +kernel, by decide +kernel⟩
set_option maxHeartbeats 4000000 in
theorem ok_is_below_zero {f : Addr} {fd : FuncData} {n : Nat}  (F : Fun K "is_below_zero" "is_below_zero" s_is_below_zero f fd) :
    FnOk P w K mg base CX0 (n + 1) f fd ["root", "a", "b"] spBelow := by
  refine F.ok sc_is_below_zero (fun vs H Q E h => ?_) (fun cdv A outer s H vs Q E hr h => ?_)
  · obtain ⟨r, a, b, rfl, _⟩ := h
    rfl
  obtain ⟨r, a, b, rfl, zr, za, zb, q⟩ := h
  refine ⟨_, (pss_cons (ps_if (pt_cmpR op_lt (pv 1) pe_int (nomark _)) (pss_one (ps_ret (pe_or (pe_cmpR op_le (pv 2) pe_int (nomark _)) (pe_one (pe_cmpR op_lt (pe_op op_mulB (pe_op op_mulB (pv 0) (pv 2)) (pv 2)) (pe_op op_mulB (pv 1) (pv 1)) (nomark _)))))) pss_nil)
      (pss_one (ps_ret (pe_and (pe_cmpR op_lt (pv 2) pe_int (nomark _)) (pe_one (pe_cmpR op_lt (pe_op op_mulB (pv 1) (pv 1)) (pe_op op_mulB (pe_op op_mulB (pv 0) (pv 2)) (pv 2)) (nomark _))))))), ?_⟩
  have q1 : a < 0 → Q (.bl (decide (b ≤ 0) || decide (r * b * b < a * a))) H := fun h => by
    have e : Num.below r a b = (decide (b ≤ 0) || decide (r * b * b < a * a)) := by unfold Num.below; rw [if_pos h]
    rw [← e]; exact q
  have q2 : ¬ a < 0 → Q (.bl (decide (b < 0) && decide (a * a < r * b * b))) H := fun h => by
    have e : Num.below r a b = (decide (b < 0) && decide (a * a < r * b * b)) := by unfold Num.below; rw [if_neg h]
    rw [← e]; exact q
  refine ⟨_, rfl, _, _, rfl, rfl, _, rfl, ?_⟩
  refine ite2 (fun c => ?_) (fun c => ?_)
  · have q3 := q1 (of_decide_eq_true c)
    refine ⟨_, rfl, _, _, rfl, rfl, _, rfl, ?_⟩
    refine ite2 (fun c1 => ?_) (fun c1 => ?_)
    · rw [c1, Bool.true_or] at q3; exact q3
    · rw [Bool.eq_false_iff.mpr c1, Bool.false_or] at q3
      exact ⟨_, rfl, _, rfl, _, _, rfl, rfl, ⟨zr.mono, zb.mono⟩, _, rfl, _, _, rfl, rfl, ⟨(zr.mul zb).mono, zb.mono⟩, _, rfl, _, rfl, _, _, rfl, rfl, ⟨za.mono, za.mono⟩, _, _, rfl, rfl, q3⟩
  · have q3 := q2 (of_decide_eq_false (Bool.eq_false_iff.mpr c))
    refine ⟨_, rfl, _, _, rfl, rfl, _, rfl, ?_⟩
    refine ite2 (fun c1 => ?_) (fun c1 => ?_)
    · rw [c1, Bool.true_and] at q3
      exact ⟨_, rfl, _, rfl, _, _, rfl, rfl, ⟨za.mono, za.mono⟩, _, rfl, _, rfl, _, _, rfl, rfl, ⟨zr.mono, zb.mono⟩, _, rfl, _, _, rfl, rfl, ⟨(zr.mul zb).mono, zb.mono⟩, _, _, rfl, rfl, q3⟩
    · rw [Bool.eq_false_iff.mpr c1, Bool.false_and] at q3; exact q3
theorem sc_less : FnScope ["root", "one", "other", "a", "b", "c", "d", "e", "f"] ["root", "one", "other"] (defScope s_less) := ⟨rfl, rfl, rfl, by decide +kernel, rfl, by decide +kernel, by decide +kernel⟩
set_option maxHeartbeats 4000000 in
theorem ok_less {f : Addr} {fd : FuncData} {n : Nat}  (F : Fun K "less" "less" s_less f fd) (C_is_below_zero : Cal P w K mg base n "is_below_zero" ["root", "a", "b"] spBelow) :
    FnOk P w K mg base CX0 (n + 1) f fd ["root", "one", "other"] (spLessP K) := by
  obtain ⟨f_is_below_zero, fd_is_below_zero, G_is_below_zero, b_is_below_zero, k_is_below_zero, m_is_below_zero⟩ := C_is_below_zero.ex
  refine F.ok sc_less (fun vs H Q E h => ?_) (fun cdv A outer s H vs Q E hr h => ?_)
  · obtain ⟨r, p, t, x, y, rfl, _⟩ := h
    rfl
  obtain ⟨r, p, t, x, y, rfl, h1, h2, zr, za, zb, zc, zd, ze, zf, q⟩ := h
  refine ⟨_, (pss_cons (ps_asg (pv 1) (pg_tup (n := 3) (by rfl) (pgs_cons (pg_name (i := 3) sc_less.nd rfl (by first | exact Or.inl rfl | exact Or.inr rfl)) (pgs_cons (pg_name (i := 4) sc_less.nd rfl (by first | exact Or.inl rfl | exact Or.inr rfl)) (pgs_cons (pg_name (i := 5) sc_less.nd rfl (by first | exact Or.inl rfl | exact Or.inr rfl)) pgs_nil)))))
      (pss_cons (ps_asg (pv 2) (pg_tup (n := 3) (by rfl) (pgs_cons (pg_name (i := 6) sc_less.nd rfl (by first | exact Or.inl rfl | exact Or.inr rfl)) (pgs_cons (pg_name (i := 7) sc_less.nd rfl (by first | exact Or.inl rfl | exact Or.inr rfl)) (pgs_cons (pg_name (i := 8) sc_less.nd rfl (by first | exact Or.inl rfl | exact Or.inr rfl)) pgs_nil)))))
      (pss_one (ps_ret (pe_call G_is_below_zero hr (by rfl) m_is_below_zero k_is_below_zero b_is_below_zero .nil pass0 (pa_cons (pv 0) (pa_cons (pe_op op_sub (pe_op op_mulB (pv 3) (pv 8)) (pe_op op_mulB (pv 6) (pv 5))) (pa_cons (pe_op op_sub (pe_op op_mulB (pv 4) (pv 8)) (pe_op op_mulB (pv 7) (pv 5))) pa_nil)))))))), ?_⟩
  refine ⟨_, rfl, p, _, rfl, h1, rfl, ?_⟩
  refine ⟨_, _, rfl, _, _, rfl, _, _, rfl, rfl, ?_⟩
  refine ⟨_, rfl, t, _, rfl, h2, rfl, ?_⟩
  refine ⟨_, _, rfl, _, _, rfl, _, _, rfl, rfl, ?_⟩
  
  refine ⟨_, rfl, _, rfl, _, rfl, _, _, rfl, rfl, ⟨za.mono, zf.mono⟩, _, rfl, _, rfl, _, _, rfl, rfl, ⟨zd.mono, zc.mono⟩, _, _, rfl, rfl, ?_⟩
  refine ⟨_, rfl, _, rfl, _, _, rfl, rfl, ⟨zb.mono, zf.mono⟩, _, rfl, _, rfl, _, _, rfl, rfl, ⟨ze.mono, zc.mono⟩, _, _, rfl, rfl, ?_⟩
  exact ⟨r, _, _, rfl, zr, ((za.mul zf).sub (zd.mul zc)).mono, ((zb.mul zf).sub (ze.mul zc)).mono, q⟩
theorem sc_is_whole : FnScope ["thing"] ["thing"] (defScope s_is_whole) := ⟨rfl, rfl, rfl, by decide +kernel, rfl, by decide +kernel, by decide +kernel⟩
set_option maxHeartbeats 4000000 in
theorem ok_is_whole {f : Addr} {fd : FuncData} {n : Nat}  (F : Fun K "is_whole" "is_whole" s_is_whole f fd) (m_isinstance : mg "isinstance" = none) (m_int : mg "int" = none) (m_bool : mg "bool" = none) :
    FnOk P w K mg base CX0 (n + 1) f fd ["thing"] spIsWhole := by
  refine F.ok sc_is_whole (fun vs H Q E h => ?_) (fun cdv A outer s H vs Q E hr h => ?_)
  · obtain ⟨i, rfl, _⟩ := h
    rfl
  obtain ⟨i, rfl, q⟩ := h
  refine ⟨_, (pss_one (ps_ret (pe_and (pe_callB call_isinst (by rfl) m_isinstance (by decide +kernel) (pa_cons (pv 0) (pa_cons (pe_bltn (v := .ty "int") (by rfl) m_int (by decide +kernel) rfl) pa_nil))) (pe_one (pe_not (pe_callB call_isinst (by rfl) m_isinstance (by decide +kernel) (pa_cons (pv 0) (pa_cons (pe_bltn (v := .ty "bool") (by rfl) m_bool (by decide +kernel) rfl) pa_nil)))))))), ?_⟩
  refine ⟨_, rfl, _, _, _, true, rfl, .int i, kit_same, _, rfl, iteT ?_⟩
  exact ⟨_, rfl, _, _, _, false, rfl, .int i, by rfl, _, rfl, q⟩
theorem sc_is_number : FnScope ["root", "thing", "a", "b", "c", "part"] ["root", "thing"] (defScope s_is_number) := ⟨rfl, rfl, rfl, by decide +kernel, rfl, by decide +kernel, by decide +kernel⟩
set_option maxHeartbeats 4000000 in
theorem ok_is_number {f : Addr} {fd : FuncData} {n : Nat}  (F : Fun K "is_number" "is_number" s_is_number f fd) (C_divisor_of_all : Cal P w K mg base n "divisor_of_all" ["a", "b", "c"] spDiv) (C_is_whole : Cal P w K mg base n "is_whole" ["thing"] spIsWhole) (m_all : mg "all" = none) (m_isinstance : mg "isinstance" = none) (m_tuple : mg "tuple" = none) (m_len : mg "len" = none) (TF : TabF base tabs fd) (hM : PyProof.Rows.BMod base mainGlobals mg bm ob) :
    FnOk P w K mg base CX0 (n + 2) f fd ["root", "thing"] (spIsNumberP K tabs) := by
  obtain ⟨f_divisor_of_all, fd_divisor_of_all, G_divisor_of_all, b_divisor_of_all, k_divisor_of_all, m_divisor_of_all⟩ := C_divisor_of_all.ex
  obtain ⟨f_is_whole, fd_is_whole, G_is_whole, b_is_whole, k_is_whole, m_is_whole⟩ := C_is_whole.ex
  obtain ⟨cc, PP, ecd, hPm, hB⟩ := TF
  refine F.okC sc_is_number (fun vs H Q E h => ?_) (fun cdv A outer s H vs Q E hcd hr h => ?_)
  · obtain ⟨r, v, x, rfl, _⟩ := h
    rfl
  obtain rfl : cdv = .ref cc := hcd.symm.trans ecd
  obtain ⟨r, v, x, rfl, ⟨a, rfl, hS⟩, ok, hT, q⟩ := h
  refine ⟨_, (pss_cons (ps_if (PW.pt (pw_or (pt_not (pt_val (pe_callB (call_isinstS rfl) (by rfl) m_isinstance (by decide +kernel) (pa_cons (pv 1) (pa_cons (pe_bltn (v := .ty "tuple") (by rfl) m_tuple (by decide +kernel) rfl) pa_nil))))) (pw_or1 (pt_cmpR op_ne (pe_callB call_len_seq (by rfl) m_len (by decide +kernel) (pa_cons (pv 1) pa_nil)) pe_int (nomark _))))) (pss_one (ps_ret pe_bl)) pss_nil)
      (pss_cons (ps_if (pt_not (pt_val (pe_allG (own := [("part", 5)]) (gt := gName 5) hr (by rfl) sc_is_number.nd (by rfl) m_all hM hB (by rfl) (pi_tup (pv 1)) (blkOk_by (own := [("part", 5)]) (N := ["root", "thing", "a", "b", "c", "part"]) (sc := defScope s_is_number) (by decide +kernel)) (by decide +kernel) (by rfl) (by rfl) (fun _ _ _ _ _ _ hq => (pg_name (i := 5) sc_is_number.nd rfl (by first | exact Or.inl rfl | exact Or.inr rfl))) (fun _ _ _ _ _ _ hq => (pe_call G_is_whole hq (by rfl) m_is_whole k_is_whole b_is_whole .nil pass0 (pa_cons (pv 5) pa_nil)))))) (pss_one (ps_ret pe_bl)) pss_nil)
      (pss_cons (ps_asg (pv 1) (pg_tup (n := 3) (by rfl) (pgs_cons (pg_name (i := 2) sc_is_number.nd rfl (by first | exact Or.inl rfl | exact Or.inr rfl)) (pgs_cons (pg_name (i := 3) sc_is_number.nd rfl (by first | exact Or.inl rfl | exact Or.inr rfl)) (pgs_cons (pg_name (i := 4) sc_is_number.nd rfl (by first | exact Or.inl rfl | exact Or.inr rfl)) pgs_nil)))))
      (pss_cons (ps_if (PW.pt (pw_or (pt_cmpR op_lt (pv 4) pe_int (nomark _)) (pw_or1 (PW.pt (pw_and (pt_cmpR op_ne (pv 3) pe_int (nomark _)) (pw_and1 (pt_cmpR op_eq (pv 0) pe_int (nomark _)))))))) (pss_one (ps_ret pe_bl)) pss_nil)
      (pss_one (ps_ret (pe_cmpR op_eq (pe_call G_divisor_of_all (hr.mono (Nat.le_succ _)) (by rfl) m_divisor_of_all k_divisor_of_all b_divisor_of_all .nil pass0 (pa_cons (pv 2) (pa_cons (pv 3) (pa_cons (pv 4) pa_nil)))) pe_int (nomark _)))))))), ?_⟩
  refine ⟨_, rfl, a, _, _, true, rfl, hS, kit_same, _, rfl, iteF ?_⟩
  refine ⟨_, rfl, a, _, rfl, .inr hS, rfl, _, rfl, iteNS (c := V.int (((vN x).length : Nat) : Int) = V.int 3) rfl ?_⟩
  refine ⟨_, rfl, a, rfl, ⟨_, hS⟩, hT PP hPm, all_tup (K := K) (a := a) (xs := vN x) (fun i H' => Same H H') (Same.refl H) (fun i H' _ g => g.tup hS) ?_ ?_⟩
  · rintro i v H' hi g
    have hil : i < 3 := (List.getElem?_eq_some_iff.mp hi).1
    obtain ⟨z, rfl⟩ : ∃ z, v = V.int z := by
      have hj : i = 0 ∨ i = 1 ∨ i = 2 := by omega
      rcases hj with rfl | rfl | rfl <;> (cases hi; exact ⟨_, rfl⟩)
    refine ⟨rfl, ?_⟩
    refine ⟨_, rfl, z, rfl, true, rfl, ?_⟩
    exact ⟨fun h => (nomatch h : False).elim, fun _ => g⟩
  intro H' g
  refine ⟨true, rfl, iteF ?_⟩
  refine ⟨_, rfl, a, _, rfl, g.tup hS, rfl, ?_⟩
  refine ⟨_, _, rfl, _, _, rfl, _, _, rfl, rfl, ?_⟩
  have hp := ok.pos
  have last : (tRet (tOp rEq (tCall spDiv [] E0 (tCons (tVar 2) (tCons (tVar 3) (tCons (tVar 4) tNil)))) (tC (.int 1)))) { nx := fun _ H' => Q .non H', rt := Q } [some (.int r), some (.ref a), some (.int x.1), some (.int x.2.1), some (.int x.2.2), none] H' := by
    refine ⟨_, rfl, _, rfl, _, rfl, _, _, _, rfl, rfl, ?_⟩
    show Q (.bl (decide (V.int ((Num.g3 x.1 x.2.1 x.2.2 : Nat) : Int) = V.int 1))) H'
    rw [ok.low]
    exact q H' g
  refine ⟨_, rfl, _, _, rfl, rfl, _, rfl, ?_⟩
  refine ite2 (fun c => absurd (of_decide_eq_true c : x.2.2 < 1) (by omega)) (fun _ => ?_)
  refine ⟨_, rfl, rfl, _, rfl, ?_⟩
  refine ite2 (fun c => ?_) (fun c => iteF last)
  refine ⟨_, rfl, rfl, _, rfl, ?_⟩
  refine ite2 (fun c2 => ?_) (fun _ => last)
  have h1 : ¬ V.int x.2.1 = V.int 0 := by simpa using c
  have h2 : V.int r = V.int 0 := of_decide_eq_true c2
  injection h2 with h2
  exact absurd (by rw [ok.root h2]) h1
theorem sc_place_between : FnScope ["root", "edges", "point", "place", "end"] ["root", "edges", "point"] (defScope s_place_between) := ⟨rfl, rfl, rfl, by decide +kernel, rfl, by decide +kernel, by decide +kernel⟩
set_option maxHeartbeats 4000000 in
theorem ok_place_between {f : Addr} {fd : FuncData} {n : Nat}  (F : Fun K "place_between" "place_between" s_place_between f fd) (C_less : Cal P w K mg base n "less" ["root", "one", "other"] (spLessP K)) (C_is_number : Cal P w K mg base n "is_number" ["root", "thing"] (spIsNumberP K tabs)) (m_enumerate : mg "enumerate" = none) {zA : Addr} (m_ZERO : mg "ZERO" = some (.ref zA)) (hZ : ZeroK K zA) :
    FnOk P w K mg base CX0 (n + 1) f fd ["root", "edges", "point"] (spPlace K tabs) := by
  obtain ⟨f_less, fd_less, G_less, b_less, k_less, m_less⟩ := C_less.ex
  obtain ⟨f_is_number, fd_is_number, G_is_number, b_is_number, k_is_number, m_is_number⟩ := C_is_number.ex
  refine F.ok sc_place_between (fun vs H Q E h => ?_) (fun cdv A outer s H vs Q E hr h => ?_)
  · obtain ⟨r, l, us, v, x, ys, rfl, _⟩ := h
    rfl
  obtain ⟨r, l, us, v, x, ys, rfl, hl, hU, hR, hok, hps, h12, hv, okx, hT, hlo, hhi, q⟩ := h
  refine ⟨_, (pss_cons (ps_if (PW.pt (pw_or (pt_not (pt_val (pe_call G_is_number hr (by rfl) m_is_number k_is_number b_is_number .nil pass0 (pa_cons (pv 0) (pa_cons (pv 2) pa_nil))))) (pw_or1 (pt_val (pe_call G_less hr (by rfl) m_less k_less b_less .nil pass0 (pa_cons (pv 0) (pa_cons (pv 2) (pa_cons (pe_glob (v := .ref zA) (by rfl) m_ZERO rfl) pa_nil)))))))) (pss_one ps_never) pss_nil)
      (pss_cons (ps_for PassesOwn.never (by rfl) (pi_enum (by rfl) m_enumerate (pa_cons (pe_slice sl_list (pv 1) (po_some pe_int) po_none) pa_nil)) (pg_tup (n := 2) (by rfl) (pgs_cons (pg_name (i := 3) sc_place_between.nd rfl (by first | exact Or.inl rfl | exact Or.inr rfl)) (pgs_cons (pg_name (i := 4) sc_place_between.nd rfl (by first | exact Or.inl rfl | exact Or.inr rfl)) pgs_nil))) (pss_one (ps_if (pt_val (pe_call G_less hr (by rfl) m_less k_less b_less .nil pass0 (pa_cons (pv 0) (pa_cons (pv 2) (pa_cons (pv 4) pa_nil))))) (pss_one (ps_ret (pv 3))) pss_nil)))
      (pss_one ps_never))), ?_⟩
  have Ir := Num.Root.irr hR
  have zr : Sz 100 r := (Root.sz hR).mono
  refine ⟨_, rfl, _, rfl, r, v, x, rfl, hv, okx.mono (by decide), hT, fun H1 g1 => ⟨_, rfl, iteF ?_⟩⟩
  obtain ⟨pa, rfl, hpa⟩ := hv
  have nz : ltN r x zeroN = false := by
    cases q : ltN r x zeroN with
    | false => rfl
    | true =>
      have h := (ltN_iff Ir okx (zero_ok r 1 (by decide))).mp q
      rw [wN_zero] at h
      exact absurd h hlo
  refine ⟨_, rfl, _, rfl, r, pa, zA, x, zeroN, rfl, g1.tup hpa, hZ H1, zr, okx.za.mono, okx.zb.mono, okx.zc.mono, Sz.zero, Sz.zero, Sz.sm 1 (by decide), _, rfl, ?_⟩
  rw [nz]
  refine iteF ?_
  have ul : us.length = ys.length + 1 := by rw [hU.1, ends_len]
  have ec : cutV us (some 1) none = us.drop 1 := cut_first us (by omega)
  refine ⟨_, rfl, _, rfl, l, us, rfl, SqL.of (g1 _ _ hl), fun p hp => ?_⟩
  rw [ec]
  have g2 := Same.new hp (.lst (us.drop 1))
  have hp2 : (upd H1 p (.lst (us.drop 1))) p = some (.lst (us.drop 1)) := upd_same
  have g12 := g1.trans g2
  generalize upd H1 p (.lst (us.drop 1)) = H2 at *
  have dl : (us.drop 1).length = ys.length := by rw [List.length_drop]; omega
  refine ⟨p, us.drop 1, rfl, SqL.of hp2, for_enum (xs := us.drop 1) (fun i σ H' => Same H2 H' ∧ Wo.Le r (Bw ys i) (wN x) ∧ ∃ w3 w4, σ = [some (.int r), some (.ref l), some (.ref pa), w3, w4]) ⟨Same.refl _, by rw [Bw_zero]; exact hlo, _, _, rfl⟩ (fun i σ H' _ ⟨g, _⟩ => SqL.of (g _ _ hp2)) ?_ ?_⟩
  case refine_2 =>
    rintro σ H' ⟨g, hle, w3, w4, rfl⟩
    rw [dl] at hle
    exact absurd hhi hle
  rintro i u T σ H' hi ⟨g, hle, w3, w4, rfl⟩ hT0
  have hil : i < ys.length := by have := (List.getElem?_eq_some_iff.mp hi).1; omega
  rw [List.getElem?_drop] at hi
  obtain ⟨u', hu', hun⟩ := hU.get (i := 1 + i) (x := pre ys (1 + i)) (ends_at (by omega))
  rw [hi] at hu'
  cases hu'
  rw [Nat.add_comm 1 i] at hun
  obtain ⟨ua, rfl, hua⟩ := (hun.mono (g12.trans g))
  have gT := Same.new hT0 (.tup [.int (i : Nat), .ref ua])
  have oke := pre_okB hok h12 (i := i + 1) (by omega)
  have all := (g12.trans g).trans gT
  refine ⟨T, _, rfl, SqT.of upd_same, rfl, ?_⟩
  refine ⟨_, _, rfl, _, _, rfl, rfl, ?_⟩
  refine ⟨_, rfl, _, rfl, _, rfl, r, pa, ua, x, pre ys (i + 1), rfl, all.tup hpa, gT.tup hua, zr, okx.za.mono, okx.zb.mono, okx.zc.mono, oke.za.mono, oke.zb.mono, oke.zc.mono, _, rfl, ?_⟩
  have iff := ltN_iff Ir okx oke
  refine ite2 (fun c => ?_) (fun c => ?_)
  · exact ⟨_, rfl, q i _ all ⟨hil, hle, iff.mp c⟩⟩
  · exact ⟨g.trans gT, fun h => c (iff.mpr h), _, _, rfl⟩
theorem sc_piece_at : FnScope ["change", "point", "root", "longs", "order"] ["change", "point"] (defScope s_piece_at) := ⟨rfl, rfl, rfl, by decide +kernel, rfl, by decide +kernel, by decide +kernel⟩
set_option maxHeartbeats 4000000 in
theorem ok_piece_at {f : Addr} {fd : FuncData} {n : Nat}  (F : Fun K "piece_at" "piece_at" s_piece_at f fd) (C_place_between : Cal P w K mg base n "place_between" ["root", "edges", "point"] (spPlace K tabs)) (C_edges_of : Cal P w K mg base n "edges_of" ["root", "longs"] (spEdges K)) :
    FnOk P w K mg base CX0 (n + 1) f fd ["change", "point"] (spPieceAt K tabs) := by
  obtain ⟨f_place_between, fd_place_between, G_place_between, b_place_between, k_place_between, m_place_between⟩ := C_place_between.ex
  obtain ⟨f_edges_of, fd_edges_of, G_edges_of, b_edges_of, k_edges_of, m_edges_of⟩ := C_edges_of.ex
  refine F.ok sc_piece_at (fun vs H Q E h => ?_) (fun cdv A outer s H vs Q E hr h => ?_)
  · obtain ⟨c, r, xs, os, v, x, rfl, _⟩ := h
    rfl
  obtain ⟨c, r, xs, os, v, x, rfl, hch, hR, hps, hv, okx, hT, hlo, hhi, q⟩ := h
  refine ⟨_, (pss_cons (ps_asg (pv 0) (pg_tup (n := 3) (by rfl) (pgs_cons (pg_name (i := 2) sc_piece_at.nd rfl (by first | exact Or.inl rfl | exact Or.inr rfl)) (pgs_cons (pg_name (i := 3) sc_piece_at.nd rfl (by first | exact Or.inl rfl | exact Or.inr rfl)) (pgs_cons (pg_name (i := 4) sc_piece_at.nd rfl (by first | exact Or.inl rfl | exact Or.inr rfl)) pgs_nil)))))
      (pss_one (ps_ret (pe_call G_place_between hr (by rfl) m_place_between k_place_between b_place_between .nil pass0 (pa_cons (pv 2) (pa_cons (pe_call G_edges_of hr (by rfl) m_edges_of k_edges_of b_edges_of .nil pass0 (pa_cons (pv 2) (pa_cons (pv 3) pa_nil))) (pa_cons (pv 1) pa_nil))))))), ?_⟩
  have Ir := Num.Root.irr hR
  obtain ⟨⟨L, O, vs, hc, hL, hO, hN⟩, hok, hlen, hpos, h12, hperm⟩ := id hch
  refine ⟨_, rfl, c, _, rfl, SqT.of hc, rfl, ?_⟩
  refine ⟨_, _, rfl, _, _, rfl, _, _, rfl, rfl, ?_⟩
  
  refine ⟨_, rfl, _, rfl, _, rfl, .inl ⟨_, L, vs, xs, r, rfl, SqT.of hL, hN, hok, h12, fun l us H1 hl0 g hl hU => ?_⟩⟩
  exact ⟨_, rfl, r, l, us, v, x, xs, rfl, hl, hU, hR, hok, hps, h12, hv.mono g, okx, hT.mono g, hlo, hhi, fun i H2 g2 a => q i H2 (g.trans g2) a⟩
theorem sc_goes : FnScope ["change", "point", "root", "longs", "order", "piece"] ["change", "point"] (defScope s_goes) := ⟨rfl, rfl, rfl, by decide +kernel, rfl, by decide +kernel, by decide +kernel⟩
set_option maxHeartbeats 4000000 in
theorem ok_goes {f : Addr} {fd : FuncData} {n : Nat}  (F : Fun K "goes" "goes" s_goes f fd) (C_piece_at : Cal P w K mg base n "piece_at" ["change", "point"] (spPieceAt K tabs)) (C_plus : Cal P w K mg base n "plus" ["root", "one", "other"] (spPlusP K)) (C_moves_of : Cal P w K mg base n "moves_of" ["change"] (spMoves K)) :
    FnOk P w K mg base CX0 (n + 1) f fd ["change", "point"] (spGoes K tabs) := by
  obtain ⟨f_piece_at, fd_piece_at, G_piece_at, b_piece_at, k_piece_at, m_piece_at⟩ := C_piece_at.ex
  obtain ⟨f_plus, fd_plus, G_plus, b_plus, k_plus, m_plus⟩ := C_plus.ex
  obtain ⟨f_moves_of, fd_moves_of, G_moves_of, b_moves_of, k_moves_of, m_moves_of⟩ := C_moves_of.ex
  refine F.ok sc_goes (fun vs H Q E h => ?_) (fun cdv A outer s H vs Q E hr h => ?_)
  · obtain ⟨c, r, xs, os, v, x, rfl, _⟩ := h
    rfl
  obtain ⟨c, r, xs, os, v, x, rfl, hch, hR, hps, hv, okx, hT, hlo, hhi, q⟩ := h
  refine ⟨_, (pss_cons (ps_asg (pv 0) (pg_tup (n := 3) (by rfl) (pgs_cons (pg_name (i := 2) sc_goes.nd rfl (by first | exact Or.inl rfl | exact Or.inr rfl)) (pgs_cons (pg_name (i := 3) sc_goes.nd rfl (by first | exact Or.inl rfl | exact Or.inr rfl)) (pgs_cons (pg_name (i := 4) sc_goes.nd rfl (by first | exact Or.inl rfl | exact Or.inr rfl)) pgs_nil)))))
      (pss_cons (ps_set (i := 5) sc_goes.nd rfl (by first | exact Or.inl rfl | exact Or.inr rfl) (pe_call G_piece_at hr (by rfl) m_piece_at k_piece_at b_piece_at .nil pass0 (pa_cons (pv 0) (pa_cons (pv 1) pa_nil))))
      (pss_one (ps_ret (pe_call G_plus hr (by rfl) m_plus k_plus b_plus .nil pass0 (pa_cons (pv 2) (pa_cons (pv 1) (pa_cons (pe_ix ix_tup (pe_call G_moves_of hr (by rfl) m_moves_of k_moves_of b_moves_of .nil pass0 (pa_cons (pv 0) pa_nil)) (pv 5) (fun _ _ => rfl)) pa_nil)))))))), ?_⟩
  have Ir := Num.Root.irr hR
  obtain ⟨⟨L, O, vs, hc, hL, hO, hN⟩, hok, hlen, hpos, h12, hperm⟩ := id hch
  refine ⟨_, rfl, c, _, rfl, SqT.of hc, rfl, ?_⟩
  refine ⟨_, _, rfl, _, _, rfl, _, _, rfl, rfl, ?_⟩
  
  refine ⟨_, rfl, _, rfl, c, r, xs, os, v, x, rfl, hch, hR, hps, hv, okx, hT, hlo, hhi, fun i H1 g1 a => ?_⟩
  refine ⟨_, rfl, _, rfl, _, rfl, c, r, xs, os, rfl, hch.mono g1, fun tm um H2 g2 htm hUm => ?_⟩
  obtain ⟨u, hu, hun⟩ := hUm.get (i := i) (x := mvN xs os i) (by rw [List.getElem?_map, List.getElem?_range a.lt]; rfl)
  refine ⟨_, rfl, tm, um, _, u, rfl, rfl, SqT.of htm, at_of rfl hu, ?_⟩
  obtain ⟨va, rfl, hva⟩ := hv
  obtain ⟨ua, rfl, hua⟩ := hun
  have okm := mvN_ok hok h12 hlen hperm a.lt
  refine ⟨_, va, ua, x, mvN xs os i, rfl, (g1.trans g2).tup hva, hua, Int.ne_of_gt (Int.mul_pos okx.pos okm.pos), okx.za.mono, okx.zb.mono, okx.zc.mono, okm.za.mono, okm.zb.mono, okm.zc.mono, fun t ht => ?_⟩
  exact q i t _ ((g1.trans g2).trans (Same.new ht _)) a ⟨t, rfl, SqT.of upd_same⟩
theorem sc_came : FnScope ["change", "point", "root", "longs", "order", "piece"] ["change", "point"] (defScope s_came) := ⟨rfl, rfl, rfl, by decide +kernel, rfl, by decide +kernel, by decide +kernel⟩
set_option maxHeartbeats 4000000 in
theorem ok_came {f : Addr} {fd : FuncData} {n : Nat}  (F : Fun K "came" "came" s_came f fd) (C_minus : Cal P w K mg base n "minus" ["root", "one", "other"] (spMinusP K)) (C_place_between : Cal P w K mg base n "place_between" ["root", "edges", "point"] (spPlace K tabs)) (C_laid_edges_of : Cal P w K mg base n "laid_edges_of" ["change"] (spLaidE K)) (C_moves_of : Cal P w K mg base n "moves_of" ["change"] (spMoves K)) :
    FnOk P w K mg base CX0 (n + 1) f fd ["change", "point"] (spCame K tabs) := by
  obtain ⟨f_minus, fd_minus, G_minus, b_minus, k_minus, m_minus⟩ := C_minus.ex
  obtain ⟨f_place_between, fd_place_between, G_place_between, b_place_between, k_place_between, m_place_between⟩ := C_place_between.ex
  obtain ⟨f_laid_edges_of, fd_laid_edges_of, G_laid_edges_of, b_laid_edges_of, k_laid_edges_of, m_laid_edges_of⟩ := C_laid_edges_of.ex
  obtain ⟨f_moves_of, fd_moves_of, G_moves_of, b_moves_of, k_moves_of, m_moves_of⟩ := C_moves_of.ex
  refine F.ok sc_came (fun vs H Q E h => ?_) (fun cdv A outer s H vs Q E hr h => ?_)
  · obtain ⟨c, r, xs, os, v, x, rfl, _⟩ := h
    rfl
  obtain ⟨c, r, xs, os, v, x, rfl, hch, hR, hps, hv, okx, hT, hlo, hhi, q⟩ := h
  refine ⟨_, (pss_cons (ps_asg (pv 0) (pg_tup (n := 3) (by rfl) (pgs_cons (pg_name (i := 2) sc_came.nd rfl (by first | exact Or.inl rfl | exact Or.inr rfl)) (pgs_cons (pg_name (i := 3) sc_came.nd rfl (by first | exact Or.inl rfl | exact Or.inr rfl)) (pgs_cons (pg_name (i := 4) sc_came.nd rfl (by first | exact Or.inl rfl | exact Or.inr rfl)) pgs_nil)))))
      (pss_cons (ps_set (i := 5) sc_came.nd rfl (by first | exact Or.inl rfl | exact Or.inr rfl) (pe_ix ix_tup (pv 4) (pe_call G_place_between hr (by rfl) m_place_between k_place_between b_place_between .nil pass0 (pa_cons (pv 2) (pa_cons (pe_call G_laid_edges_of hr (by rfl) m_laid_edges_of k_laid_edges_of b_laid_edges_of .nil pass0 (pa_cons (pv 0) pa_nil)) (pa_cons (pv 1) pa_nil)))) (fun _ _ => rfl)))
      (pss_one (ps_ret (pe_call G_minus hr (by rfl) m_minus k_minus b_minus .nil pass0 (pa_cons (pv 2) (pa_cons (pv 1) (pa_cons (pe_ix ix_tup (pe_call G_moves_of hr (by rfl) m_moves_of k_moves_of b_moves_of .nil pass0 (pa_cons (pv 0) pa_nil)) (pv 5) (fun _ _ => rfl)) pa_nil)))))))), ?_⟩
  have Ir := Num.Root.irr hR
  obtain ⟨⟨L, O, vs, hc, hL, hO, hN⟩, hok, hlen, hpos, h12, hperm⟩ := id hch
  refine ⟨_, rfl, c, _, rfl, SqT.of hc, rfl, ?_⟩
  refine ⟨_, _, rfl, _, _, rfl, _, _, rfl, rfl, ?_⟩
  have okL : ∀ y ∈ laidL xs os, Ok r 20 y := laidL_ok hok (by decide)
  have ll := laidL_len xs os
  refine ⟨_, rfl, _, rfl, _, rfl, c, r, xs, os, rfl, hch, fun l us H1 hl0 g1 hl hU => ?_⟩
  refine ⟨_, rfl, r, l, us, v, x, laidL xs os, rfl, hl, by rw [ll]; exact hU, hR, okL, laid_pos hlen hperm hps, by omega, hv.mono g1, okx, hT.mono g1, hlo, by rw [ll, whole_laid hlen hok hperm]; exact hhi, fun k H2 g2 a => ?_⟩
  have g12 := g1.trans g2
  have hk : k < os.length := by have := a.lt; rw [ll] at this; exact this
  obtain ⟨k1, k2, k3⟩ := got_lt hlen hperm hk
  refine ⟨O, vO os, _, .int (os.getD k 0 : Int), rfl, rfl, SqT.of (g12 _ _ hO), at_of rfl (by rw [List.getElem?_map, k3]; rfl), ?_⟩
  refine ⟨_, rfl, _, rfl, _, rfl, c, r, xs, os, rfl, hch.mono g12, fun tm um H3 g3 htm hUm => ?_⟩
  obtain ⟨u, hu, hun⟩ := hUm.get (i := os.getD k 0) (x := mvN xs os (os.getD k 0)) (by rw [List.getElem?_map, List.getElem?_range k1]; rfl)
  refine ⟨_, rfl, tm, um, _, u, rfl, rfl, SqT.of htm, at_of rfl hu, ?_⟩
  obtain ⟨va, rfl, hva⟩ := hv
  obtain ⟨ua, rfl, hua⟩ := hun
  have okm := mvN_ok hok h12 hlen hperm k1
  refine ⟨_, va, ua, x, mvN xs os (os.getD k 0), rfl, (g12.trans g3).tup hva, hua, Int.ne_of_gt (Int.mul_pos okx.pos okm.pos), okx.za.mono, okx.zb.mono, okx.zc.mono, okm.za.mono, okm.zb.mono, okm.zc.mono, fun t ht => ?_⟩
  exact q k t _ ((g12.trans g3).trans (Same.new ht _)) a ⟨t, rfl, SqT.of upd_same⟩
theorem sc__law_laid_right : FnScope ["_law_change", "_law_begins", "_law_piece", "_law_begin"] ["_law_change"] (defScope s__law_laid_right) := ⟨rfl, rfl, rfl, by decide +kernel, rfl, by decide +kernel, by decide +kernel⟩
set_option maxHeartbeats 4000000 in
theorem ok__law_laid_right {f : Addr} {fd : FuncData} {n : Nat}  (F : Fun K "_law_laid_right" "_law_laid_right" s__law_laid_right f fd) (C_begins_of : Cal P w K mg base n "begins_of" ["change"] (spBegins K)) (C_laid_of : Cal P w K mg base n "laid_of" ["change"] (spLaidOf K)) (C_goes : Cal P w K mg base n "goes" ["change", "point"] (spGoes K tabs)) (C_came : Cal P w K mg base n "came" ["change", "point"] (spCame K tabs)) (m_sorted : mg "sorted" = none) (m_list : mg "list" = none) (m_range : mg "range" = none) (m_len : mg "len" = none) :
    FnOk P w K mg base CX0 (n + 1) f fd ["_law_change"] (spLaidRight K tabs) := by
  obtain ⟨f_begins_of, fd_begins_of, G_begins_of, b_begins_of, k_begins_of, m_begins_of⟩ := C_begins_of.ex
  obtain ⟨f_laid_of, fd_laid_of, G_laid_of, b_laid_of, k_laid_of, m_laid_of⟩ := C_laid_of.ex
  obtain ⟨f_goes, fd_goes, G_goes, b_goes, k_goes, m_goes⟩ := C_goes.ex
  obtain ⟨f_came, fd_came, G_came, b_came, k_came, m_came⟩ := C_came.ex
  refine F.ok sc__law_laid_right (fun vs H Q E h => ?_) (fun cdv A outer s H vs Q E hr h => ?_)
  · obtain ⟨c, r, xs, os, rfl, _⟩ := h
    rfl
  obtain ⟨c, r, xs, os, rfl, hch, hR, hps, hTb, q⟩ := h
  refine ⟨_, (pss_cons (ps_set (i := 1) sc__law_laid_right.nd rfl (by first | exact Or.inl rfl | exact Or.inr rfl) (pe_call G_begins_of hr (by rfl) m_begins_of k_begins_of b_begins_of .nil pass0 (pa_cons (pv 0) pa_nil)))
      (pss_cons (ps_for PassesOwn.never (by rfl) (pi_list (pe_call G_laid_of hr (by rfl) m_laid_of k_laid_of b_laid_of .nil pass0 (pa_cons (pv 0) pa_nil))) (pg_tup (n := 2) (by rfl) (pgs_cons (pg_name (i := 2) sc__law_laid_right.nd rfl (by first | exact Or.inl rfl | exact Or.inr rfl)) (pgs_cons (pg_name (i := 3) sc__law_laid_right.nd rfl (by first | exact Or.inl rfl | exact Or.inr rfl)) pgs_nil))) (pss_one (ps_if (PW.pt (pw_or (pt_cmpR (op_neD hr.units) (pe_call G_goes hr (by rfl) m_goes k_goes b_goes .nil pass0 (pa_cons (pv 0) (pa_cons (pe_ix ix_tup (pv 1) (pv 2) (fun _ _ => rfl)) pa_nil))) (pv 3) (nomark _)) (pw_or1 (pt_cmpR (op_neD hr.units) (pe_call G_came hr (by rfl) m_came k_came b_came .nil pass0 (pa_cons (pv 0) (pa_cons (pv 3) pa_nil))) (pe_ix ix_tup (pv 1) (pv 2) (fun _ _ => rfl)) (nomark _))))) (pss_one (ps_ret pe_bl)) pss_nil)))
      (pss_one (ps_ret (pe_cmpR (op_eqD hr.units) (pe_callB cr_sorted (by rfl) m_sorted (by decide +kernel) (pa_cons (pe_lc (own := [("_law_piece", 2), ("_law_begin", 3)]) (by rfl) sc__law_laid_right.nd (pi_list (pe_call G_laid_of hr (by rfl) m_laid_of k_laid_of b_laid_of .nil pass0 (pa_cons (pv 0) pa_nil))) (blkOk_by (own := [("_law_piece", 2), ("_law_begin", 3)]) (N := ["_law_change", "_law_begins", "_law_piece", "_law_begin"]) (sc := defScope s__law_laid_right) (by decide +kernel)) (fun _ _ _ _ _ => (pg_tupK (K := K) rfl (n := 2) (by rfl) (pgs_cons (pg_name (i := 2) sc__law_laid_right.nd rfl (by first | exact Or.inl rfl | exact Or.inr rfl)) (pgs_cons (pg_name (i := 3) sc__law_laid_right.nd rfl (by first | exact Or.inl rfl | exact Or.inr rfl)) pgs_nil)))) (fun _ _ _ _ _ => pts_nil) (fun _ _ _ _ _ => (pv 2))) pa_nil)) (pe_callTy (call_list_rng rfl) (by rfl) m_list (by decide +kernel) (pa_cons (pe_callTy call_rng1 (by rfl) m_range (by decide +kernel) (pa_cons (pe_callB call_len_seq (by rfl) m_len (by decide +kernel) (pa_cons (pv 1) pa_nil)) pa_nil)) pa_nil)) (nomark _)))))), ?_⟩
  have Ir := Num.Root.irr hR
  obtain ⟨⟨L, O, vs, hc, hL, hO, hN⟩, hok, hlen, hpos, h12, hperm⟩ := id hch
  have okL : ∀ y ∈ laidL xs os, Ok r 20 y := laidL_ok hok (by decide)
  have psL := laid_pos hlen hperm hps
  have ll := laidL_len xs os
  refine ⟨_, rfl, c, r, xs, os, rfl, hch, fun tb ub H1 g1 htb hUb => ?_⟩
  have ubl : ub.length = xs.length := by rw [hUb.1, ends_len]
  refine ⟨_, rfl, c, r, xs, os, rfl, hch.mono g1, fun l ts us H2 hl0 g2 hl hts hU hT => ?_⟩
  have g12 := g1.trans g2
  refine ⟨l, rfl, ⟨_, SqL.of hl⟩, for_list (K := K) (a := l) (xs := ts.map V.ref) (fun i σ H' => Same H2 H' ∧ ∃ w2 w3 : Option V, σ = [some (.ref c), some (.ref tb), w2, w3]) ⟨Same.refl _, _, _, rfl⟩ (fun i σ H' _ ⟨g, _⟩ => SqL.of (g _ _ hl)) ?_ ?_⟩
  · rintro i v σ H' hi ⟨g, w2, w3, rfl⟩
    rw [List.getElem?_map] at hi
    obtain ⟨T, hTi, rfl⟩ := Option.map_eq_some_iff.mp hi
    have hio : i < os.length := by rw [← hts]; exact (List.getElem?_eq_some_iff.mp hTi).1
    obtain ⟨k1, k2, k3⟩ := got_lt hlen hperm hio
    obtain ⟨u, hu, hun⟩ := hU.get (i := i) (ends_at hio)
    have hT' := g _ _ (hT i T _ u hTi k3 hu)
    generalize os.getD i 0 = o at *
    refine ⟨T, _, rfl, SqT.of hT', rfl, ?_⟩
    refine ⟨_, _, rfl, _, _, rfl, rfl, ?_⟩
    obtain ⟨b, hb, hbn⟩ := hUb.get (i := o) (ends_at k1)
    have gg := g2.trans g
    have aO := In.start Ir hok hps k1
    have vO1 := Bw_vl (r := r) hok (i := o) (by omega)
    have bO := aO.bounds Ir hok hps vO1
    have okb := pre_okB hok h12 (i := o) (by omega)
    have okl := pre_okB okL (by omega) (i := i) (by omega)
    refine ⟨_, rfl, _, rfl, _, rfl, tb, ub, _, b, rfl, rfl, SqT.of (gg _ _ htb), at_of rfl hb, c, r, xs, os, b, pre xs o, rfl, hch.mono (g12.trans g), hR, hps, hbn.mono gg, okb.mono (by decide), hTb.mono (g12.trans g), bO.1, bO.2, fun j t H3 g3 aj hn => ?_⟩
    have ej : j = o := aj.uniq Ir hok hps vO1 aO
    subst ej
    rw [begin_goes hok h12 hlen hperm k1, k2] at hn
    refine ⟨_, rfl, dN _, dN _, hn.dp, ((hun.mono g).mono g3).dp, shaped_dN _, shaped_dN _, _, rfl, ?_⟩
    rw [eqv_self (shaped_dN _)]
    refine iteF ?_
    have aL := In.start Ir okL psL (i := i) (by omega)
    have vL := Bw_vl (r := r) okL (i := i) (by omega)
    have bL := aL.bounds Ir okL psL vL
    rw [ll, whole_laid hlen hok hperm] at bL
    refine ⟨_, rfl, _, rfl, c, r, xs, os, u, pre (laidL xs os) i, rfl, hch.mono ((g12.trans g).trans g3), hR, hps, (hun.mono g).mono g3, okl.mono (by decide), hTb.mono ((g12.trans g).trans g3), bL.1, bL.2, fun k t4 H4 g4 ak hn4 => ?_⟩
    have ek : k = i := ak.uniq Ir okL psL vL aL
    subst ek
    have eo : os.getD k 0 = j := by rw [List.getD_eq_getElem?_getD, k3]; rfl
    rw [eo] at hn4
    have e5 := laid_came hok h12 hlen hperm k1
    rw [k2] at e5
    rw [e5] at hn4
    have g5 := (gg.trans g3).trans g4
    refine ⟨_, rfl, _, rfl, tb, ub, _, b, rfl, rfl, SqT.of (g5 _ _ htb), at_of rfl hb, dN _, dN _, hn4.dp, (hbn.mono g5).dp, shaped_dN _, shaped_dN _, _, rfl, ?_⟩
    rw [eqv_self (shaped_dN _)]
    exact iteF ⟨(g.trans g3).trans g4, _, _, rfl⟩
  rintro σ H3 ⟨g3, w2, w3, rfl⟩
  have g13 := g12.trans g3
  refine ⟨_, rfl, c, r, xs, os, rfl, hch.mono g13, fun l2 ts2 us2 H4 hl20 g4 hl2 hts2 hU2 hT2 => ?_⟩
  refine ⟨l2, rfl, ⟨_, SqL.of hl2⟩, fun D hD => lc_list (K := K) (a := l2) (xs := ts2.map V.ref) (fun i H' => H' D = some (.lst (vO (os.take i))) ∧ Same H4 H') ⟨upd_same, Same.new hD _⟩ (fun i H' _ ⟨_, g⟩ => SqL.of (g _ _ hl2)) ?_ ?_⟩
  · rintro i v H' hi ⟨hA, g⟩
    rw [List.getElem?_map] at hi
    obtain ⟨T, hTi, rfl⟩ := Option.map_eq_some_iff.mp hi
    have hio : i < os.length := by rw [← hts2]; exact (List.getElem?_eq_some_iff.mp hTi).1
    obtain ⟨k1, k2, k3⟩ := got_lt hlen hperm hio
    obtain ⟨u, hu, hun⟩ := hU2.get (i := i) (ends_at hio)
    have hT' := g _ _ (hT2 i T _ u hTi k3 hu)
    refine ⟨T, _, rfl, SqT.of hT', rfl, ?_⟩
    refine ⟨_, _, rfl, _, _, rfl, rfl, ?_⟩
    refine ⟨rfl, ?_⟩
    refine ⟨_, rfl, _, hA, small1000 (by rw [List.length_map, List.length_take]; omega), ?_, ?_⟩
    · rw [upd_same, List.take_succ, k3]
      unfold vO
      rw [List.map_append]
      rfl
    · intro b o hb
      rw [upd_ne (ne_of_none hb hD)]
      exact g b o hb
  rintro H5 ⟨hA, g5⟩
  have e5 : os.take (ts2.map V.ref).length = os := by rw [List.length_map, hts2, List.take_of_length_le (Nat.le_refl _)]
  rw [e5, vO_eq] at hA
  refine ⟨D, _, rfl, SqL.of hA, by rw [List.length_map]; omega, fun ns' p hp1 hp2 hp0 => ?_⟩
  have en := sorted_range hperm hp1 hp2
  subst en
  have g6 := Same.new hp0 (.lst (((List.range xs.length).map fun (i : Nat) => (i : Int)).map V.int))
  have g16 := ((g13.trans g4).trans g5).trans g6
  refine ⟨_, rfl, tb, ub, rfl, .inr (SqT.of ((((g2.trans g3).trans g4).trans (g5.trans g6)) _ _ htb)), _, rfl, fun r0 hr0 => ?_⟩
  have g7 := Same.new hr0 (.rng 0 ((ub.length : Nat) : Int))
  refine ⟨r0, ub.length, rfl, upd_same, by omega, fun l3 hl3 => ?_⟩
  have g8 := Same.new hl3 (.lst ((List.range' 0 ub.length).map fun i => V.int (i : Nat)))
  have hp9 := (g7.trans g8) p _ upd_same
  refine ⟨.list (((List.range xs.length).map fun (i : Nat) => (i : Int)).map PyData.int), .list (((List.range xs.length).map fun (i : Nat) => (i : Int)).map PyData.int), .lst (SqL.of hp9) (dp_ints _), .lst (SqL.of ?_) (dp_ints _), shaped_ints _, shaped_ints _, ?_⟩
  · rw [upd_same, ubl, List.range_eq_range', List.map_map]
    rfl
  · rw [eqv_self (shaped_ints _)]
    exact q _ (g16.trans (g7.trans g8))
theorem sc_whole_of : FnScope ["change", "root", "longs", "order"] ["change"] (defScope s_whole_of) := ⟨rfl, rfl, rfl, by decide +kernel, rfl, by decide +kernel, by decide +kernel⟩
set_option maxHeartbeats 4000000 in
theorem ok_whole_of {f : Addr} {fd : FuncData} {n : Nat}  (F : Fun K "whole_of" "whole_of" s_whole_of f fd) (C_edges_of : Cal P w K mg base n "edges_of" ["root", "longs"] (spEdges K)) :
    FnOk P w K mg base CX0 (n + 1) f fd ["change"] (spWholeOf K) := by
  obtain ⟨f_edges_of, fd_edges_of, G_edges_of, b_edges_of, k_edges_of, m_edges_of⟩ := C_edges_of.ex
  refine F.ok sc_whole_of (fun vs H Q E h => ?_) (fun cdv A outer s H vs Q E hr h => ?_)
  · obtain ⟨c, r, xs, os, rfl, _⟩ := h
    rfl
  obtain ⟨c, r, xs, os, rfl, hch, q⟩ := h
  refine ⟨_, (pss_cons (ps_asg (pv 0) (pg_tup (n := 3) (by rfl) (pgs_cons (pg_name (i := 1) sc_whole_of.nd rfl (by first | exact Or.inl rfl | exact Or.inr rfl)) (pgs_cons (pg_name (i := 2) sc_whole_of.nd rfl (by first | exact Or.inl rfl | exact Or.inr rfl)) (pgs_cons (pg_name (i := 3) sc_whole_of.nd rfl (by first | exact Or.inl rfl | exact Or.inr rfl)) pgs_nil)))))
      (pss_one (ps_ret (pe_ix ix_list (pe_call G_edges_of hr (by rfl) m_edges_of k_edges_of b_edges_of .nil pass0 (pa_cons (pv 1) (pa_cons (pv 2) pa_nil))) (pe_un un_neg pe_int) (fun _ _ => rfl))))), ?_⟩
  obtain ⟨⟨L, O, vs, hc, hL, hO, hN⟩, hok, hlen, hpos, h12, hperm⟩ := id hch
  refine ⟨_, rfl, c, _, rfl, SqT.of hc, rfl, ?_⟩
  refine ⟨_, _, rfl, _, _, rfl, _, _, rfl, rfl, ?_⟩
  
  refine ⟨_, rfl, _, rfl, .inl ⟨_, L, vs, xs, r, rfl, SqT.of hL, hN, hok, h12, fun l us H1 hl0 g hl hU => ?_⟩⟩
  have ul : us.length = xs.length + 1 := by rw [hU.1, ends_len]
  obtain ⟨u, hu, hun⟩ := hU.get (i := xs.length) (ends_at (by omega))
  exact ⟨_, rfl, l, us, _, _, rfl, rfl, SqL.of hl, at_last (by rw [ul]; exact hu), q u H1 g hun⟩
theorem sc__law_point_right : FnScope ["_law_change", "_law_point_here", "_law_root_here", "_law_piece", "_law_begins"] ["_law_change", "_law_point_here"] (defScope s__law_point_right) := ⟨rfl, rfl, rfl, by decide +kernel, rfl, by decide +kernel, by decide +kernel⟩
set_option maxHeartbeats 4000000 in
theorem ok__law_point_right {f : Addr} {fd : FuncData} {n : Nat}  (F : Fun K "_law_point_right" "_law_point_right" s__law_point_right f fd) (C_piece_at : Cal P w K mg base n "piece_at" ["change", "point"] (spPieceAt K tabs)) (C_begins_of : Cal P w K mg base n "begins_of" ["change"] (spBegins K)) (C_less : Cal P w K mg base n "less" ["root", "one", "other"] (spLessP K)) (C_minus : Cal P w K mg base n "minus" ["root", "one", "other"] (spMinusP K)) (C_whole_of : Cal P w K mg base n "whole_of" ["change"] (spWholeOf K)) (C_goes : Cal P w K mg base n "goes" ["change", "point"] (spGoes K tabs)) (C_moves_of : Cal P w K mg base n "moves_of" ["change"] (spMoves K)) (C_came : Cal P w K mg base n "came" ["change", "point"] (spCame K tabs)) :
    FnOk P w K mg base CX0 (n + 1) f fd ["_law_change", "_law_point_here"] (spPointRight K tabs) := by
  obtain ⟨f_piece_at, fd_piece_at, G_piece_at, b_piece_at, k_piece_at, m_piece_at⟩ := C_piece_at.ex
  obtain ⟨f_begins_of, fd_begins_of, G_begins_of, b_begins_of, k_begins_of, m_begins_of⟩ := C_begins_of.ex
  obtain ⟨f_less, fd_less, G_less, b_less, k_less, m_less⟩ := C_less.ex
  obtain ⟨f_minus, fd_minus, G_minus, b_minus, k_minus, m_minus⟩ := C_minus.ex
  obtain ⟨f_whole_of, fd_whole_of, G_whole_of, b_whole_of, k_whole_of, m_whole_of⟩ := C_whole_of.ex
  obtain ⟨f_goes, fd_goes, G_goes, b_goes, k_goes, m_goes⟩ := C_goes.ex
  obtain ⟨f_moves_of, fd_moves_of, G_moves_of, b_moves_of, k_moves_of, m_moves_of⟩ := C_moves_of.ex
  obtain ⟨f_came, fd_came, G_came, b_came, k_came, m_came⟩ := C_came.ex
  refine F.ok sc__law_point_right (fun vs H Q E h => ?_) (fun cdv A outer s H vs Q E hr h => ?_)
  · obtain ⟨c, r, xs, os, v, x, i, rfl, _⟩ := h
    rfl
  obtain ⟨c, r, xs, os, v, x, i, rfl, hch, hR, hps, hTb, hv, okx, a, q⟩ := h
  refine ⟨_, (pss_cons (ps_set (i := 2) sc__law_point_right.nd rfl (by first | exact Or.inl rfl | exact Or.inr rfl) (pe_ix ix_tup (pv 0) pe_int (fun _ _ => rfl)))
      (pss_cons (ps_set (i := 3) sc__law_point_right.nd rfl (by first | exact Or.inl rfl | exact Or.inr rfl) (pe_call G_piece_at hr (by rfl) m_piece_at k_piece_at b_piece_at .nil pass0 (pa_cons (pv 0) (pa_cons (pv 1) pa_nil))))
      (pss_cons (ps_set (i := 4) sc__law_point_right.nd rfl (by first | exact Or.inl rfl | exact Or.inr rfl) (pe_op op_catT (pe_call G_begins_of hr (by rfl) m_begins_of k_begins_of b_begins_of .nil pass0 (pa_cons (pv 0) pa_nil)) (pe_tup (pa_cons (pe_call G_whole_of hr (by rfl) m_whole_of k_whole_of b_whole_of .nil pass0 (pa_cons (pv 0) pa_nil)) pa_nil))))
      (pss_cons (ps_if (PW.pt (pw_or (pt_val (pe_call G_less hr (by rfl) m_less k_less b_less .nil pass0 (pa_cons (pv 2) (pa_cons (pv 1) (pa_cons (pe_ix ix_tup (pv 4) (pv 3) (fun _ _ => rfl)) pa_nil))))) (pw_or1 (pt_not (pt_val (pe_call G_less hr (by rfl) m_less k_less b_less .nil pass0 (pa_cons (pv 2) (pa_cons (pv 1) (pa_cons (pe_ix ix_tup (pv 4) (pe_op op_add (pv 3) pe_int) (fun _ _ => rfl)) pa_nil))))))))) (pss_one (ps_ret pe_bl)) pss_nil)
      (pss_cons (ps_if (pt_cmpR (op_neD hr.units) (pe_call G_minus hr (by rfl) m_minus k_minus b_minus .nil pass0 (pa_cons (pv 2) (pa_cons (pe_call G_goes hr (by rfl) m_goes k_goes b_goes .nil pass0 (pa_cons (pv 0) (pa_cons (pv 1) pa_nil))) (pa_cons (pv 1) pa_nil)))) (pe_ix ix_tup (pe_call G_moves_of hr (by rfl) m_moves_of k_moves_of b_moves_of .nil pass0 (pa_cons (pv 0) pa_nil)) (pv 3) (fun _ _ => rfl)) (nomark _)) (pss_one (ps_ret pe_bl)) pss_nil)
      (pss_one (ps_ret (pe_and (pe_cmpR (op_eqD hr.units) (pe_call G_came hr (by rfl) m_came k_came b_came .nil pass0 (pa_cons (pv 0) (pa_cons (pe_call G_goes hr (by rfl) m_goes k_goes b_goes .nil pass0 (pa_cons (pv 0) (pa_cons (pv 1) pa_nil))) pa_nil))) (pv 1) (nomark _)) (pe_one (pe_cmpR (op_eqD hr.units) (pe_call G_goes hr (by rfl) m_goes k_goes b_goes .nil pass0 (pa_cons (pv 0) (pa_cons (pe_call G_came hr (by rfl) m_came k_came b_came .nil pass0 (pa_cons (pv 0) (pa_cons (pv 1) pa_nil))) pa_nil))) (pv 1) (nomark _))))))))))), ?_⟩
  have Ir := Num.Root.irr hR
  have zr : Sz 100 r := (Root.sz hR).mono
  obtain ⟨⟨L, O, vs, hc, hL, hO, hN⟩, hok, hlen, hpos, h12, hperm⟩ := id hch
  have okL : ∀ y ∈ laidL xs os, Ok r 20 y := laidL_ok hok (by decide)
  have psL := laid_pos hlen hperm hps
  have ll := laidL_len xs os
  have bX := a.bounds Ir hok hps okx.vl
  refine ⟨_, rfl, c, _, _, _, rfl, rfl, SqT.of hc, at0, ?_⟩
  refine ⟨_, rfl, _, rfl, c, r, xs, os, v, x, rfl, hch, hR, hps, hv, okx.mono (by decide), hTb, bX.1, bX.2, fun i1 H1 g1 a1 => ?_⟩
  have e1 : i1 = i := a1.uniq Ir hok hps okx.vl a
  subst e1
  refine ⟨_, rfl, c, r, xs, os, rfl, hch.mono g1, fun tb ub H2 g2 htb hUb => ?_⟩
  have ubl : ub.length = xs.length := by rw [hUb.1, ends_len]
  refine ⟨_, rfl, c, r, xs, os, rfl, hch.mono (g1.trans g2), fun vw H3 g3 hw => ⟨smallB rfl, fun tw htw => ?_⟩⟩
  have g4 := Same.new htw (.tup [vw])
  refine ⟨tb, tw, ub, [vw], rfl, rfl, SqT.of ((g3.trans g4) _ _ htb), SqT.of upd_same, (by intro z; rw [z] at ubl; rw [← ubl] at hpos; exact Nat.lt_irrefl _ hpos), smallN (by rw [ubl]; show xs.length + 1 ≤ 1000; omega), fun z => (nomatch z), fun _ t5 ht5 => ?_⟩
  have g5 := Same.new ht5 (.tup (ub ++ [vw]))
  have hB5 : (upd (upd H3 tw (.tup [vw])) t5 (.tup (ub ++ [vw]))) t5 = some (.tup (ub ++ [vw])) := upd_same
  have hU5 : Nums K (upd (upd H3 tw (.tup [vw])) t5 (.tup (ub ++ [vw]))) (ub ++ [vw]) (ends xs (xs.length + 1)) := by
    rw [ends_succ]
    exact Nums.snoc (hUb.mono (g3.trans (g4.trans g5))) (hw.mono (g4.trans g5))
  have G5 := (g1.trans g2).trans (g3.trans (g4.trans g5))
  generalize upd (upd H3 tw (.tup [vw])) t5 (.tup (ub ++ [vw])) = H5 at *
  obtain ⟨b0, hb0, b0a, rfl, hb0n⟩ := hU5.get (i := i1) (ends_at (by have := a.lt; omega))
  obtain ⟨b1, hb1, b1a, rfl, hb1n⟩ := hU5.get (i := i1 + 1) (ends_at (by have := a.lt; omega))
  have ok0 := pre_okB hok h12 (i := i1) (by have := a.lt; omega)
  have ok1 := pre_okB hok h12 (i := i1 + 1) (by have := a.lt; omega)
  obtain ⟨va, rfl, hva⟩ := id hv
  have n0 : ltN r x (pre xs i1) = false := by
    cases e : ltN r x (pre xs i1) with
    | false => rfl
    | true => exact absurd ((ltN_iff Ir okx ok0).mp e) a.lo
  have n1 : ltN r x (pre xs (i1 + 1)) = true := (ltN_iff Ir okx ok1).mpr a.hi
  refine ⟨_, rfl, _, rfl, _, rfl, _, rfl, t5, _, _, _, rfl, rfl, SqT.of hB5, at_of rfl hb0, r, va, b0a, x, pre xs i1, rfl, G5.tup hva, hb0n, zr, okx.za.mono (by decide), okx.zb.mono (by decide), okx.zc.mono (by decide), ok0.za.mono (by decide), ok0.zb.mono (by decide), ok0.zc.mono (by decide), _, rfl, ?_⟩
  rw [n0]
  refine iteF ?_
  refine ⟨_, rfl, _, rfl, _, rfl, _, rfl, _, _, rfl, rfl, t5, _, _, _, rfl, rfl, SqT.of hB5, at_of (j := i1 + 1) (by omega) hb1, r, va, b1a, x, pre xs (i1 + 1), rfl, G5.tup hva, hb1n, zr, okx.za.mono (by decide), okx.zb.mono (by decide), okx.zc.mono (by decide), ok1.za.mono (by decide), ok1.zb.mono (by decide), ok1.zc.mono (by decide), _, rfl, ?_⟩
  rw [n1]
  refine iteF ?_
  have om := mvN_ok hok h12 hlen hperm a.lt
  have og := addN_ok okx om
  -- minus(goes, point) is the move
  refine ⟨_, rfl, _, rfl, _, rfl, c, r, xs, os, (.ref va), x, rfl, hch.mono G5, hR, hps, hv.mono G5, okx.mono (by decide), hTb.mono G5, bX.1, bX.2, fun i2 t6 H6 g6 a2 hn6 => ?_⟩
  have e2 : i2 = i1 := a2.uniq Ir hok hps okx.vl a
  subst e2
  obtain ⟨t6a, e6, hn6'⟩ := id hn6
  cases e6
  have G6 := G5.trans g6
  refine ⟨_, rfl, _, t6, va, addN x (mvN xs os i2), x, rfl, hn6', G6.tup hva, Int.ne_of_gt (Int.mul_pos og.pos okx.pos), og.za.mono (by decide), og.zb.mono (by decide), og.zc.mono (by decide), okx.za.mono (by decide), okx.zb.mono (by decide), okx.zc.mono (by decide), fun t7 ht7 => ?_⟩
  have g7 := Same.new ht7 (.tup (vN (subN (addN x (mvN xs os i2)) x)))
  have hn7 : NumAt K (upd H6 t7 (.tup (vN (subN (addN x (mvN xs os i2)) x)))) (.ref t7) (mvN xs os i2) := by
    have h : NumAt K (upd H6 t7 (.tup (vN (subN (addN x (mvN xs os i2)) x)))) (.ref t7) (subN (addN x (mvN xs os i2)) x) := ⟨t7, rfl, SqT.of upd_same⟩
    rw [goes_by okx om] at h
    rw [goes_by okx om]
    exact h
  have G7 := G6.trans g7
  generalize upd H6 t7 (.tup (vN (subN (addN x (mvN xs os i2)) x))) = H7 at *
  refine ⟨_, rfl, c, r, xs, os, rfl, hch.mono G7, fun tm um H8 g8 htm hUm => ?_⟩
  obtain ⟨um1, hum, humn⟩ := hUm.get (i := i2) (x := mvN xs os i2) (by rw [List.getElem?_map, List.getElem?_range a.lt]; rfl)
  refine ⟨_, rfl, tm, um, _, um1, rfl, rfl, SqT.of htm, at_of rfl hum, dN _, dN _, (hn7.mono g8).dp, humn.dp, shaped_dN _, shaped_dN _, _, rfl, ?_⟩
  rw [eqv_self (shaped_dN _)]
  refine iteF ?_
  have G8 := G7.trans g8
  -- came(goes)
  have aG := goes_in (os := os) Ir hok h12 hlen hperm okx a
  have bG := aG.bounds Ir okL psL og.vl
  rw [ll, whole_laid hlen hok hperm] at bG
  refine ⟨_, rfl, _, rfl, _, rfl, c, r, xs, os, (.ref va), x, rfl, hch.mono G8, hR, hps, hv.mono G8, okx.mono (by decide), hTb.mono G8, bX.1, bX.2, fun i3 t9 H9 g9 a3 hn9 => ?_⟩
  have e3 : i3 = i2 := a3.uniq Ir hok hps okx.vl a
  subst e3
  have G9 := G8.trans g9
  refine ⟨c, r, xs, os, (.ref t9), addN x (mvN xs os i3), rfl, hch.mono G9, hR, hps, hn9, og.mono (by decide), hTb.mono G9, bG.1, bG.2, fun k t10 H10 g10 a4 hn10 => ?_⟩
  have e4 : k = os.idxOf i3 := a4.uniq Ir okL psL og.vl aG
  subst e4
  rw [(perm_get hperm a.lt).2, goes_back okx om] at hn10
  have G10 := G9.trans g10
  refine ⟨_, rfl, dN _, dN _, hn10.dp, (hv.mono G10).dp, shaped_dN _, shaped_dN _, _, rfl, ?_⟩
  rw [eqv_self (shaped_dN _)]
  refine iteT ?_
  -- goes(came): the point lies behind a go too
  refine ⟨_, rfl, _, rfl, _, rfl, c, r, xs, os, (.ref va), x, rfl, hch.mono G10, hR, hps, hv.mono G10, okx.mono (by decide), hTb.mono G10, bX.1, bX.2, fun k t11 H11 g11 a5 hn11 => ?_⟩
  have hk : k < os.length := by have := a5.lt; rw [ll] at this; exact this
  obtain ⟨k1, k2, k3⟩ := got_lt hlen hperm hk
  have om2 := mvN_ok hok h12 hlen hperm k1
  have oc := subN_ok okx om2
  have aC := came_in Ir hok h12 hlen hperm okx a5
  have bC := aC.bounds Ir hok hps oc.vl
  have G11 := G10.trans g11
  refine ⟨c, r, xs, os, (.ref t11), subN x (mvN xs os (os.getD k 0)), rfl, hch.mono G11, hR, hps, hn11, oc.mono (by decide), hTb.mono G11, bC.1, bC.2, fun j t12 H12 g12 a6 hn12 => ?_⟩
  have e6 : j = os.getD k 0 := a6.uniq Ir hok hps oc.vl aC
  subst e6
  rw [back_goes okx om2] at hn12
  refine ⟨_, rfl, dN _, dN _, hn12.dp, (hv.mono (G11.trans g12)).dp, shaped_dN _, shaped_dN _, ?_⟩
  rw [eqv_self (shaped_dN _)]
  exact q _ (G11.trans g12)
theorem sc_law : FnScope ["_law_script", "_law_k", "_law_box_here", "_law_change", "_law_one", "_law_other", "_law_turn"] ["_law_script"] (defScope s_law) := ⟨rfl, rfl, rfl, by decide +kernel, rfl, by decide +kernel, by decide +kernel⟩
set_option maxHeartbeats 4000000 in
theorem ok_law {f : Addr} {fd : FuncData} {n : Nat}  (F : Fun K "law" "law" s_law f fd) (C__law_box : Cal P w K mg base n "_law_box" ["_law_script", "_law_k"] (spBox K)) (C__law_with : Cal P w K mg base n "_law_with" ["_law_box_here", "_law_root_here", "_law_most"] (spWith K)) (C__law_root : Cal P w K mg base n "_law_root" ["_law_box_here"] spRoot) (C__law_point : Cal P w K mg base n "_law_point" ["_law_box_here", "_law_change"] (spPoint K)) (C__law_balanced : Cal P w K mg base n "_law_balanced" ["_law_change"] (spBalanced K)) (C__law_laid_right : Cal P w K mg base n "_law_laid_right" ["_law_change"] (spLaidRight K tabs)) (C__law_point_right : Cal P w K mg base n "_law_point_right" ["_law_change", "_law_point_here"] (spPointRight K tabs)) (C_goes : Cal P w K mg base n "goes" ["change", "point"] (spGoes K tabs)) (m_range : mg "range" = none) (m_max : mg "max" = none) (m_min : mg "min" = none) (m_len : mg "len" = none) :
    FnOk P w K mg base CX0 (n + 1) f fd ["_law_script"] (spLaw K tabs) := by
  obtain ⟨f__law_box, fd__law_box, G__law_box, b__law_box, k__law_box, m__law_box⟩ := C__law_box.ex
  obtain ⟨f__law_with, fd__law_with, G__law_with, b__law_with, k__law_with, m__law_with⟩ := C__law_with.ex
  obtain ⟨f__law_root, fd__law_root, G__law_root, b__law_root, k__law_root, m__law_root⟩ := C__law_root.ex
  obtain ⟨f__law_point, fd__law_point, G__law_point, b__law_point, k__law_point, m__law_point⟩ := C__law_point.ex
  obtain ⟨f__law_balanced, fd__law_balanced, G__law_balanced, b__law_balanced, k__law_balanced, m__law_balanced⟩ := C__law_balanced.ex
  obtain ⟨f__law_laid_right, fd__law_laid_right, G__law_laid_right, b__law_laid_right, k__law_laid_right, m__law_laid_right⟩ := C__law_laid_right.ex
  obtain ⟨f__law_point_right, fd__law_point_right, G__law_point_right, b__law_point_right, k__law_point_right, m__law_point_right⟩ := C__law_point_right.ex
  obtain ⟨f_goes, fd_goes, G_goes, b_goes, k_goes, m_goes⟩ := C_goes.ex
  refine F.ok sc_law (fun vs H Q E h => ?_) (fun cdv A outer s H vs Q E hr h => ?_)
  · obtain ⟨a, ns, rfl, _⟩ := h
    rfl
  obtain ⟨a, ns, rfl, hS, h63, hTb0, q⟩ := h
  refine ⟨_, (pss_cons (ps_for PassesOwn.never (by rfl) (pi_range1 (by rfl) m_range (pa_cons (pe_callB (call_max2 rfl) (by rfl) m_max (by decide +kernel) (pa_cons pe_int (pa_cons (pe_callB (call_min2 rfl) (by rfl) m_min (by decide +kernel) (pa_cons (pe_callB call_len_seq (by rfl) m_len (by decide +kernel) (pa_cons (pv 0) pa_nil)) (pa_cons pe_int pa_nil))) pa_nil))) pa_nil)) (pg_name (i := 1) sc_law.nd rfl (by first | exact Or.inl rfl | exact Or.inr rfl)) (pss_cons (ps_set (i := 2) sc_law.nd rfl (by first | exact Or.inl rfl | exact Or.inr rfl) (pe_call G__law_box hr (by rfl) m__law_box k__law_box b__law_box .nil pass0 (pa_cons (pv 0) (pa_cons (pv 1) pa_nil))))
      (pss_cons (ps_set (i := 3) sc_law.nd rfl (by first | exact Or.inl rfl | exact Or.inr rfl) (pe_call G__law_with hr (by rfl) m__law_with k__law_with b__law_with .nil pass0 (pa_cons (pv 2) (pa_cons (pe_call G__law_root hr (by rfl) m__law_root k__law_root b__law_root .nil pass0 (pa_cons (pv 2) pa_nil)) (pa_cons pe_int pa_nil)))))
      (pss_cons (ps_if (PW.pt (pw_or (pt_not (pt_val (pe_call G__law_balanced hr (by rfl) m__law_balanced k__law_balanced b__law_balanced .nil pass0 (pa_cons (pv 3) pa_nil)))) (pw_or1 (pt_not (pt_val (pe_call G__law_laid_right hr (by rfl) m__law_laid_right k__law_laid_right b__law_laid_right .nil pass0 (pa_cons (pv 3) pa_nil))))))) (pss_one (ps_ret pe_bl)) pss_nil)
      (pss_cons (ps_asg (pe_lc (own := [("_law_turn", 6)]) (g := gName 6) (by rfl) sc_law.nd (pi_range1 (by rfl) m_range (pa_cons pe_int pa_nil)) (blkOk_by (own := [("_law_turn", 6)]) (N := ["_law_script", "_law_k", "_law_box_here", "_law_change", "_law_one", "_law_other", "_law_turn"]) (sc := defScope s_law) (by decide +kernel)) (fun _ _ _ _ _ => (pg_name (i := 6) sc_law.nd rfl (by first | exact Or.inl rfl | exact Or.inr rfl))) (fun _ _ _ _ _ => pts_nil) (fun _ _ _ _ _ => (pe_call G__law_point hr (by rfl) m__law_point k__law_point b__law_point .nil pass0 (pa_cons (pv 2) (pa_cons (pv 3) pa_nil))))) (pg_lst (n := 2) (by rfl) (pgs_cons (pg_name (i := 4) sc_law.nd rfl (by first | exact Or.inl rfl | exact Or.inr rfl)) (pgs_cons (pg_name (i := 5) sc_law.nd rfl (by first | exact Or.inl rfl | exact Or.inr rfl)) pgs_nil))))
      (pss_cons (ps_if (PW.pt (pw_or (pt_not (pt_val (pe_call G__law_point_right hr (by rfl) m__law_point_right k__law_point_right b__law_point_right .nil pass0 (pa_cons (pv 3) (pa_cons (pv 4) pa_nil))))) (pw_or1 (pt_not (pt_val (pe_call G__law_point_right hr (by rfl) m__law_point_right k__law_point_right b__law_point_right .nil pass0 (pa_cons (pv 3) (pa_cons (pv 5) pa_nil)))))))) (pss_one (ps_ret pe_bl)) pss_nil)
      (pss_one (ps_if (pt_cmpR op_ne (pe_cmpR (op_eqD hr.units) (pv 4) (pv 5) (nomark _)) (pe_cmpR (op_eqD hr.units) (pe_call G_goes hr (by rfl) m_goes k_goes b_goes .nil pass0 (pa_cons (pv 3) (pa_cons (pv 4) pa_nil))) (pe_call G_goes hr (by rfl) m_goes k_goes b_goes .nil pass0 (pa_cons (pv 3) (pa_cons (pv 5) pa_nil))) (nomark _)) (nomark _)) (pss_one (ps_ret pe_bl)) pss_nil))))))))
      (pss_one (ps_ret pe_bl))), ?_⟩
  obtain ⟨m, hm, hm0, hm1⟩ : ∃ m : Int, (if (if (4 : Int) < ((ns.map V.int).length : Int) then (4 : Int) else ((ns.map V.int).length : Int)) > 1 then (if (4 : Int) < ((ns.map V.int).length : Int) then (4 : Int) else ((ns.map V.int).length : Int)) else 1) = m ∧ 0 ≤ m ∧ m ≤ 4 := by
    have hL : 0 ≤ ((ns.map V.int).length : Int) := Int.natCast_nonneg _
    generalize ((ns.map V.int).length : Int) = L at hL
    refine ⟨_, rfl, ?_, ?_⟩ <;> (repeat' split) <;> omega
  refine ⟨_, rfl, a, _, rfl, .inl hS, _, _, rfl, _, _, rfl, ?_⟩
  
  refine ⟨m, by rw [← hm], by omega, by omega, for_range (n := m.toNat) (fun i σ H' => Same H H' ∧ ∃ v1 v2 v3 v4 v5 v6 : Option V, σ = [some (.ref a), v1, v2, v3, v4, v5, v6]) ⟨Same.refl H, _, _, _, _, _, _, rfl⟩ ?_ ?_⟩
  case refine_2 =>
    rintro σ H1 ⟨g1, v1, v2, v3, v4, v5, v6, rfl⟩
    exact q H1 (hTb0.mono g1)
  rintro i σ H1 hi ⟨g1, v1, v2, v3, v4, v5, v6, rfl⟩
  refine ⟨_, rfl, _, rfl, a, ns, _, rfl, g1.seq hS, h63, by omega, by omega, fun p n H2 hp0 g2 hp => ?_⟩
  refine ⟨_, rfl, _, rfl, p, n, rfl, hp, fun r n2 H3 hR x3 hp3 => ?_⟩
  refine ⟨p, n2, r, 8, rfl, hp3, hR, by decide, by decide, fun c xs os n3 H4 x4 hp4 hh => ?_⟩
  obtain ⟨hch, hps, h8⟩ := hh
  have s4 : Same H H4 := SameX.same (g1.free hp0) (g1.trans g2) (x3.trans x4)
  have f4 : H p = none := g1.free hp0
  have hTb := hTb0.mono s4
  have Ir := Num.Root.irr hR
  refine ⟨_, rfl, c, r, xs, os, rfl, hch, hR, by omega, fun H5 g5 => ⟨_, rfl, iteF ?_⟩⟩
  refine ⟨_, rfl, c, r, xs, os, rfl, hch.mono g5, hR, hps, hTb.mono g5, fun H6 g6 => ⟨_, rfl, iteF ?_⟩⟩
  have s6 := s4.trans (g5.trans g6)
  have hch6 := hch.mono (g5.trans g6)
  have hp6 := (g5.trans g6) _ _ hp4
  have hTb6 := hTb.mono (g5.trans g6)
  obtain ⟨_, hok, hlen, hpos, h12, hperm⟩ := id hch
  refine ⟨2, rfl, by decide, by decide, fun D hD => lc_range (lo := 0) (n := 2) (fun i H' => ∃ acc pts n', H' D = some (.lst acc) ∧ Nums K H' acc pts ∧ pts.length = i ∧ (∀ x ∈ pts, Ok r 500 x ∧ ∃ k, In r xs k (wN x)) ∧ SameX p H6 H' ∧ H' p = some (.lst [.int n']))
    ⟨[], [], n3, upd_same, Nums.nil, rfl, (fun x m => nomatch m), (Same.new hD _).x p, (Same.new hD _) _ _ hp6⟩ ?_ ?_⟩
  · rintro j H' hj ⟨acc, pts, n', hA, hAn, hl, hpt, sx, hp'⟩
    refine ⟨rfl, ?_⟩
    refine ⟨_, rfl, _, rfl, p, c, n', r, xs, os, rfl, hp', hch6.monoX sx hp6, hR, hps, fun v x k n4 H7 sx7 hp7 hv okx ax => ?_⟩
    have nDp : D ≠ p := ne_of_none hp6 hD |>.symm
    have hA7 : H7 D = some (.lst acc) := sx7 _ _ hA nDp
    refine ⟨acc, hA7, small1000 (by rw [hAn.1, hl]; omega), acc ++ [v], pts ++ [x], n4, upd_same, ?_, by rw [List.length_append, hl]; rfl, ?_, ?_, ?_⟩
    · exact Nums.snoc ((hAn.monoX sx7 hp').monoX (SameX.upd _) hA7) (hv.monoX (SameX.upd _) hA7)
    · intro y hy
      rcases List.mem_append.mp hy with hy | hy
      · exact hpt y hy
      · rw [List.mem_singleton.mp hy]
        exact ⟨okx, k, ax⟩
    · intro b o hb hne
      rw [upd_ne (ne_of_none hb hD)]
      exact (sx.trans sx7) b o hb hne
    · rw [upd_ne nDp.symm]
      exact hp7
  rintro H7 ⟨acc, pts, n', hA, hAn, hl, hpt, sx, hp7⟩
  obtain ⟨v, u, x, y, rfl, rfl, hv, hu⟩ := hAn.two hl
  obtain ⟨okx, i1, ax⟩ := hpt x (List.mem_cons_self)
  obtain ⟨oky, i2, ay⟩ := hpt y (List.mem_cons_of_mem _ List.mem_cons_self)
  have s7 : Same H H7 := SameX.same f4 s6 sx
  have hch7 := hch6.monoX sx hp6
  have hTb7 := hTb0.mono s7
  refine ⟨D, _, rfl, SqL.of hA, rfl, ?_⟩
  refine ⟨_, _, rfl, _, _, rfl, rfl, ?_⟩
  refine ⟨_, rfl, _, rfl, c, r, xs, os, v, x, i1, rfl, hch7, hR, hps, hTb7, hv, okx, ax, fun H8 g8 => ⟨_, rfl, iteF ?_⟩⟩
  refine ⟨_, rfl, _, rfl, c, r, xs, os, u, y, i2, rfl, hch7.mono g8, hR, hps, hTb7.mono g8, hu.mono g8, oky, ay, fun H9 g9 => ⟨_, rfl, iteF ?_⟩⟩
  have g79 := g8.trans g9
  have bX := ax.bounds Ir hok hps okx.vl
  have bY := ay.bounds Ir hok hps oky.vl
  refine ⟨_, rfl, _, rfl, dN _, dN _, (hv.mono g79).dp, (hu.mono g79).dp, shaped_dN _, shaped_dN _, ?_⟩
  refine ⟨_, rfl, _, rfl, c, r, xs, os, v, x, rfl, hch7.mono g79, hR, hps, hv.mono g79, okx.mono (by decide), hTb7.mono g79, bX.1, bX.2, fun j1 t1 H10 g10 a1 hn1 => ?_⟩
  have e1 : j1 = i1 := a1.uniq Ir hok hps okx.vl ax
  subst e1
  have g710 := g79.trans g10
  refine ⟨_, rfl, _, rfl, c, r, xs, os, u, y, rfl, hch7.mono g710, hR, hps, hu.mono g710, oky.mono (by decide), hTb7.mono g710, bY.1, bY.2, fun j2 t2 H11 g11 a2 hn2 => ?_⟩
  have e2 : j2 = i2 := a2.uniq Ir hok hps oky.vl ay
  subst e2
  refine ⟨dN _, dN _, (hn1.mono g11).dp, hn2.dp, shaped_dN _, shaped_dN _, ?_⟩
  have ee : PyData.eqv (dN (addN x (mvN xs os j1))) (dN (addN y (mvN xs os j2))) = PyData.eqv (dN x) (dN y) := by
    rw [dN_eqv, dN_eqv]
    exact decide_eq_decide.mpr (goes_inj Ir hok hps h12 hlen hperm okx oky ax ay)
  rw [ee]
  refine ⟨rfl, _, rfl, ?_⟩
  rw [decide_eq_true rfl]
  refine iteF ?_
  exact ⟨s7.trans (g710.trans g11), _, _, _, _, _, _, rfl⟩
end
set_option maxHeartbeats 4000000 in
theorem all_mk {l : PySem.W.OpenLaw} {w : World} {K : PySem.W.Frag} {h : Heap} {mg : Str → Option Value} {fa f__law_cell f__law_box f__law_take f__law_low f__law_sign f__law_plus f__law_number f__law_with f__law_root f__law_ends f__law_point f_divisor_of_both f_divisor_of_all f_in_lowest_terms f_plus f_edges_of f_laid_edges_of f_laid_of f_minus f_begins_of f_moves_of f_times f__law_balanced f_is_below_zero f_less f_is_whole f_is_number f_place_between f_piece_at f_goes f_came f__law_laid_right f_whole_of f__law_point_right f_law : Addr} (X : K.In h) (G : h.Ns mainGlobals mg) (hfa : mg "law" = some (.ref fa))
    {od__law_cell an__law_cell od__law_box an__law_box od__law_take an__law_take od__law_low an__law_low od__law_sign an__law_sign od__law_plus an__law_plus od__law_number an__law_number od__law_with an__law_with od__law_root an__law_root od__law_ends an__law_ends od__law_point an__law_point od_divisor_of_both an_divisor_of_both od_divisor_of_all an_divisor_of_all od_in_lowest_terms an_in_lowest_terms od_plus an_plus od_edges_of an_edges_of od_laid_edges_of an_laid_edges_of od_laid_of an_laid_of od_minus an_minus od_begins_of an_begins_of od_moves_of an_moves_of od_times an_times od__law_balanced an__law_balanced od_is_below_zero an_is_below_zero od_less an_less od_is_whole an_is_whole od_is_number an_is_number od_place_between an_place_between od_piece_at an_piece_at od_goes an_goes od_came an_came od__law_laid_right an__law_laid_right od_whole_of an_whole_of od__law_point_right an__law_point_right od_law an_law : Option Addr} {sl__law_cell sl__law_box sl__law_take sl__law_low sl__law_sign sl__law_plus sl__law_number sl__law_with sl__law_root sl__law_ends sl__law_point sl_divisor_of_both sl_divisor_of_all sl_in_lowest_terms sl_plus sl_edges_of sl_laid_edges_of sl_laid_of sl_minus sl_begins_of sl_moves_of sl_times sl__law_balanced sl_is_below_zero sl_less sl_is_whole sl_is_number sl_place_between sl_piece_at sl_goes sl_came sl__law_laid_right sl_whole_of sl__law_point_right sl_law : Array (Option Value)} {oc__law_cell kV__law_cell dc__law_cell pm__law_cell cd__law_cell ct__law_cell oc__law_box kV__law_box dc__law_box pm__law_box cd__law_box ct__law_box oc__law_take kV__law_take dc__law_take pm__law_take cd__law_take ct__law_take oc__law_low kV__law_low dc__law_low pm__law_low cd__law_low ct__law_low oc__law_sign kV__law_sign dc__law_sign pm__law_sign cd__law_sign ct__law_sign oc__law_plus kV__law_plus dc__law_plus pm__law_plus cd__law_plus ct__law_plus oc__law_number kV__law_number dc__law_number pm__law_number cd__law_number ct__law_number oc__law_with kV__law_with dc__law_with pm__law_with cd__law_with ct__law_with oc__law_root kV__law_root dc__law_root pm__law_root cd__law_root ct__law_root oc__law_ends kV__law_ends dc__law_ends pm__law_ends cd__law_ends ct__law_ends oc__law_point kV__law_point dc__law_point pm__law_point cd__law_point ct__law_point oc_divisor_of_both kV_divisor_of_both dc_divisor_of_both pm_divisor_of_both cd_divisor_of_both ct_divisor_of_both oc_divisor_of_all kV_divisor_of_all dc_divisor_of_all pm_divisor_of_all cd_divisor_of_all ct_divisor_of_all oc_in_lowest_terms kV_in_lowest_terms dc_in_lowest_terms pm_in_lowest_terms cd_in_lowest_terms ct_in_lowest_terms oc_plus kV_plus dc_plus pm_plus cd_plus ct_plus oc_edges_of kV_edges_of dc_edges_of pm_edges_of cd_edges_of ct_edges_of oc_laid_edges_of kV_laid_edges_of dc_laid_edges_of pm_laid_edges_of cd_laid_edges_of ct_laid_edges_of oc_laid_of kV_laid_of dc_laid_of pm_laid_of cd_laid_of ct_laid_of oc_minus kV_minus dc_minus pm_minus cd_minus ct_minus oc_begins_of kV_begins_of dc_begins_of pm_begins_of cd_begins_of ct_begins_of oc_moves_of kV_moves_of dc_moves_of pm_moves_of cd_moves_of ct_moves_of oc_times kV_times dc_times pm_times cd_times ct_times oc__law_balanced kV__law_balanced dc__law_balanced pm__law_balanced cd__law_balanced ct__law_balanced oc_is_below_zero kV_is_below_zero dc_is_below_zero pm_is_below_zero cd_is_below_zero ct_is_below_zero oc_less kV_less dc_less pm_less cd_less ct_less oc_is_whole kV_is_whole dc_is_whole pm_is_whole cd_is_whole ct_is_whole oc_is_number kV_is_number dc_is_number pm_is_number cd_is_number ct_is_number oc_place_between kV_place_between dc_place_between pm_place_between cd_place_between ct_place_between oc_piece_at kV_piece_at dc_piece_at pm_piece_at cd_piece_at ct_piece_at oc_goes kV_goes dc_goes pm_goes cd_goes ct_goes oc_came kV_came dc_came pm_came cd_came ct_came oc__law_laid_right kV__law_laid_right dc__law_laid_right pm__law_laid_right cd__law_laid_right ct__law_laid_right oc_whole_of kV_whole_of dc_whole_of pm_whole_of cd_whole_of ct_whole_of oc__law_point_right kV__law_point_right dc__law_point_right pm__law_point_right cd__law_point_right ct__law_point_right oc_law kV_law dc_law pm_law cd_law ct_law : Value}
    {zZ : Addr} {odZ : Option Addr} {tz0 tz1 tz2 : Tok} {nZ : Nat} {slZ : Array (Option Value)}
    (a__law_cell : PySem.W.nsIn K mainGlobals "_law_cell" = some (some (.ref f__law_cell))) (l__law_cell : K.lookup f__law_cell = some ⟨oc__law_cell, od__law_cell, .func (PySem.W.fnOf "_law_cell" "_law_cell" (defArgs s__law_cell) (defBody s__law_cell) (defScope s__law_cell) .none kV__law_cell dc__law_cell pm__law_cell an__law_cell cd__law_cell ct__law_cell), sl__law_cell⟩) (c__law_cell : PySem.W.codeIn K cd__law_cell "_law_cell" = true) (k__law_cell : PySem.W.keepIn K (.ref f__law_cell) = true)
    (a__law_box : PySem.W.nsIn K mainGlobals "_law_box" = some (some (.ref f__law_box))) (l__law_box : K.lookup f__law_box = some ⟨oc__law_box, od__law_box, .func (PySem.W.fnOf "_law_box" "_law_box" (defArgs s__law_box) (defBody s__law_box) (defScope s__law_box) .none kV__law_box dc__law_box pm__law_box an__law_box cd__law_box ct__law_box), sl__law_box⟩) (c__law_box : PySem.W.codeIn K cd__law_box "_law_box" = true) (k__law_box : PySem.W.keepIn K (.ref f__law_box) = true)
    (a__law_take : PySem.W.nsIn K mainGlobals "_law_take" = some (some (.ref f__law_take))) (l__law_take : K.lookup f__law_take = some ⟨oc__law_take, od__law_take, .func (PySem.W.fnOf "_law_take" "_law_take" (defArgs s__law_take) (defBody s__law_take) (defScope s__law_take) .none kV__law_take dc__law_take pm__law_take an__law_take cd__law_take ct__law_take), sl__law_take⟩) (c__law_take : PySem.W.codeIn K cd__law_take "_law_take" = true) (k__law_take : PySem.W.keepIn K (.ref f__law_take) = true)
    (a__law_low : PySem.W.nsIn K mainGlobals "_law_low" = some (some (.ref f__law_low))) (l__law_low : K.lookup f__law_low = some ⟨oc__law_low, od__law_low, .func (PySem.W.fnOf "_law_low" "_law_low" (defArgs s__law_low) (defBody s__law_low) (defScope s__law_low) .none kV__law_low dc__law_low pm__law_low an__law_low cd__law_low ct__law_low), sl__law_low⟩) (c__law_low : PySem.W.codeIn K cd__law_low "_law_low" = true) (k__law_low : PySem.W.keepIn K (.ref f__law_low) = true)
    (a__law_sign : PySem.W.nsIn K mainGlobals "_law_sign" = some (some (.ref f__law_sign))) (l__law_sign : K.lookup f__law_sign = some ⟨oc__law_sign, od__law_sign, .func (PySem.W.fnOf "_law_sign" "_law_sign" (defArgs s__law_sign) (defBody s__law_sign) (defScope s__law_sign) .none kV__law_sign dc__law_sign pm__law_sign an__law_sign cd__law_sign ct__law_sign), sl__law_sign⟩) (c__law_sign : PySem.W.codeIn K cd__law_sign "_law_sign" = true) (k__law_sign : PySem.W.keepIn K (.ref f__law_sign) = true)
    (a__law_plus : PySem.W.nsIn K mainGlobals "_law_plus" = some (some (.ref f__law_plus))) (l__law_plus : K.lookup f__law_plus = some ⟨oc__law_plus, od__law_plus, .func (PySem.W.fnOf "_law_plus" "_law_plus" (defArgs s__law_plus) (defBody s__law_plus) (defScope s__law_plus) .none kV__law_plus dc__law_plus pm__law_plus an__law_plus cd__law_plus ct__law_plus), sl__law_plus⟩) (c__law_plus : PySem.W.codeIn K cd__law_plus "_law_plus" = true) (k__law_plus : PySem.W.keepIn K (.ref f__law_plus) = true)
    (a__law_number : PySem.W.nsIn K mainGlobals "_law_number" = some (some (.ref f__law_number))) (l__law_number : K.lookup f__law_number = some ⟨oc__law_number, od__law_number, .func (PySem.W.fnOf "_law_number" "_law_number" (defArgs s__law_number) (defBody s__law_number) (defScope s__law_number) .none kV__law_number dc__law_number pm__law_number an__law_number cd__law_number ct__law_number), sl__law_number⟩) (c__law_number : PySem.W.codeIn K cd__law_number "_law_number" = true) (k__law_number : PySem.W.keepIn K (.ref f__law_number) = true)
    (a__law_with : PySem.W.nsIn K mainGlobals "_law_with" = some (some (.ref f__law_with))) (l__law_with : K.lookup f__law_with = some ⟨oc__law_with, od__law_with, .func (PySem.W.fnOf "_law_with" "_law_with" (defArgs s__law_with) (defBody s__law_with) (defScope s__law_with) .none kV__law_with dc__law_with pm__law_with an__law_with cd__law_with ct__law_with), sl__law_with⟩) (c__law_with : PySem.W.codeIn K cd__law_with "_law_with" = true) (k__law_with : PySem.W.keepIn K (.ref f__law_with) = true)
    (a__law_root : PySem.W.nsIn K mainGlobals "_law_root" = some (some (.ref f__law_root))) (l__law_root : K.lookup f__law_root = some ⟨oc__law_root, od__law_root, .func (PySem.W.fnOf "_law_root" "_law_root" (defArgs s__law_root) (defBody s__law_root) (defScope s__law_root) .none kV__law_root dc__law_root pm__law_root an__law_root cd__law_root ct__law_root), sl__law_root⟩) (c__law_root : PySem.W.codeIn K cd__law_root "_law_root" = true) (k__law_root : PySem.W.keepIn K (.ref f__law_root) = true)
    (a__law_ends : PySem.W.nsIn K mainGlobals "_law_ends" = some (some (.ref f__law_ends))) (l__law_ends : K.lookup f__law_ends = some ⟨oc__law_ends, od__law_ends, .func (PySem.W.fnOf "_law_ends" "_law_ends" (defArgs s__law_ends) (defBody s__law_ends) (defScope s__law_ends) .none kV__law_ends dc__law_ends pm__law_ends an__law_ends cd__law_ends ct__law_ends), sl__law_ends⟩) (c__law_ends : PySem.W.codeIn K cd__law_ends "_law_ends" = true) (k__law_ends : PySem.W.keepIn K (.ref f__law_ends) = true)
    (a__law_point : PySem.W.nsIn K mainGlobals "_law_point" = some (some (.ref f__law_point))) (l__law_point : K.lookup f__law_point = some ⟨oc__law_point, od__law_point, .func (PySem.W.fnOf "_law_point" "_law_point" (defArgs s__law_point) (defBody s__law_point) (defScope s__law_point) .none kV__law_point dc__law_point pm__law_point an__law_point cd__law_point ct__law_point), sl__law_point⟩) (c__law_point : PySem.W.codeIn K cd__law_point "_law_point" = true) (k__law_point : PySem.W.keepIn K (.ref f__law_point) = true)
    (a_divisor_of_both : PySem.W.nsIn K mainGlobals "divisor_of_both" = some (some (.ref f_divisor_of_both))) (l_divisor_of_both : K.lookup f_divisor_of_both = some ⟨oc_divisor_of_both, od_divisor_of_both, .func (PySem.W.fnOf "divisor_of_both" "divisor_of_both" (defArgs s_divisor_of_both) (defBody s_divisor_of_both) (defScope s_divisor_of_both) .none kV_divisor_of_both dc_divisor_of_both pm_divisor_of_both an_divisor_of_both cd_divisor_of_both ct_divisor_of_both), sl_divisor_of_both⟩) (c_divisor_of_both : PySem.W.codeIn K cd_divisor_of_both "divisor_of_both" = true) (k_divisor_of_both : PySem.W.keepIn K (.ref f_divisor_of_both) = true)
    (a_divisor_of_all : PySem.W.nsIn K mainGlobals "divisor_of_all" = some (some (.ref f_divisor_of_all))) (l_divisor_of_all : K.lookup f_divisor_of_all = some ⟨oc_divisor_of_all, od_divisor_of_all, .func (PySem.W.fnOf "divisor_of_all" "divisor_of_all" (defArgs s_divisor_of_all) (defBody s_divisor_of_all) (defScope s_divisor_of_all) .none kV_divisor_of_all dc_divisor_of_all pm_divisor_of_all an_divisor_of_all cd_divisor_of_all ct_divisor_of_all), sl_divisor_of_all⟩) (c_divisor_of_all : PySem.W.codeIn K cd_divisor_of_all "divisor_of_all" = true) (k_divisor_of_all : PySem.W.keepIn K (.ref f_divisor_of_all) = true)
    (a_in_lowest_terms : PySem.W.nsIn K mainGlobals "in_lowest_terms" = some (some (.ref f_in_lowest_terms))) (l_in_lowest_terms : K.lookup f_in_lowest_terms = some ⟨oc_in_lowest_terms, od_in_lowest_terms, .func (PySem.W.fnOf "in_lowest_terms" "in_lowest_terms" (defArgs s_in_lowest_terms) (defBody s_in_lowest_terms) (defScope s_in_lowest_terms) .none kV_in_lowest_terms dc_in_lowest_terms pm_in_lowest_terms an_in_lowest_terms cd_in_lowest_terms ct_in_lowest_terms), sl_in_lowest_terms⟩) (c_in_lowest_terms : PySem.W.codeIn K cd_in_lowest_terms "in_lowest_terms" = true) (k_in_lowest_terms : PySem.W.keepIn K (.ref f_in_lowest_terms) = true)
    (a_plus : PySem.W.nsIn K mainGlobals "plus" = some (some (.ref f_plus))) (l_plus : K.lookup f_plus = some ⟨oc_plus, od_plus, .func (PySem.W.fnOf "plus" "plus" (defArgs s_plus) (defBody s_plus) (defScope s_plus) .none kV_plus dc_plus pm_plus an_plus cd_plus ct_plus), sl_plus⟩) (c_plus : PySem.W.codeIn K cd_plus "plus" = true) (k_plus : PySem.W.keepIn K (.ref f_plus) = true)
    (a_edges_of : PySem.W.nsIn K mainGlobals "edges_of" = some (some (.ref f_edges_of))) (l_edges_of : K.lookup f_edges_of = some ⟨oc_edges_of, od_edges_of, .func (PySem.W.fnOf "edges_of" "edges_of" (defArgs s_edges_of) (defBody s_edges_of) (defScope s_edges_of) .none kV_edges_of dc_edges_of pm_edges_of an_edges_of cd_edges_of ct_edges_of), sl_edges_of⟩) (c_edges_of : PySem.W.codeIn K cd_edges_of "edges_of" = true) (k_edges_of : PySem.W.keepIn K (.ref f_edges_of) = true)
    (a_laid_edges_of : PySem.W.nsIn K mainGlobals "laid_edges_of" = some (some (.ref f_laid_edges_of))) (l_laid_edges_of : K.lookup f_laid_edges_of = some ⟨oc_laid_edges_of, od_laid_edges_of, .func (PySem.W.fnOf "laid_edges_of" "laid_edges_of" (defArgs s_laid_edges_of) (defBody s_laid_edges_of) (defScope s_laid_edges_of) .none kV_laid_edges_of dc_laid_edges_of pm_laid_edges_of an_laid_edges_of cd_laid_edges_of ct_laid_edges_of), sl_laid_edges_of⟩) (c_laid_edges_of : PySem.W.codeIn K cd_laid_edges_of "laid_edges_of" = true) (k_laid_edges_of : PySem.W.keepIn K (.ref f_laid_edges_of) = true)
    (a_laid_of : PySem.W.nsIn K mainGlobals "laid_of" = some (some (.ref f_laid_of))) (l_laid_of : K.lookup f_laid_of = some ⟨oc_laid_of, od_laid_of, .func (PySem.W.fnOf "laid_of" "laid_of" (defArgs s_laid_of) (defBody s_laid_of) (defScope s_laid_of) .none kV_laid_of dc_laid_of pm_laid_of an_laid_of cd_laid_of ct_laid_of), sl_laid_of⟩) (c_laid_of : PySem.W.codeIn K cd_laid_of "laid_of" = true) (k_laid_of : PySem.W.keepIn K (.ref f_laid_of) = true)
    (a_minus : PySem.W.nsIn K mainGlobals "minus" = some (some (.ref f_minus))) (l_minus : K.lookup f_minus = some ⟨oc_minus, od_minus, .func (PySem.W.fnOf "minus" "minus" (defArgs s_minus) (defBody s_minus) (defScope s_minus) .none kV_minus dc_minus pm_minus an_minus cd_minus ct_minus), sl_minus⟩) (c_minus : PySem.W.codeIn K cd_minus "minus" = true) (k_minus : PySem.W.keepIn K (.ref f_minus) = true)
    (a_begins_of : PySem.W.nsIn K mainGlobals "begins_of" = some (some (.ref f_begins_of))) (l_begins_of : K.lookup f_begins_of = some ⟨oc_begins_of, od_begins_of, .func (PySem.W.fnOf "begins_of" "begins_of" (defArgs s_begins_of) (defBody s_begins_of) (defScope s_begins_of) .none kV_begins_of dc_begins_of pm_begins_of an_begins_of cd_begins_of ct_begins_of), sl_begins_of⟩) (c_begins_of : PySem.W.codeIn K cd_begins_of "begins_of" = true) (k_begins_of : PySem.W.keepIn K (.ref f_begins_of) = true)
    (a_moves_of : PySem.W.nsIn K mainGlobals "moves_of" = some (some (.ref f_moves_of))) (l_moves_of : K.lookup f_moves_of = some ⟨oc_moves_of, od_moves_of, .func (PySem.W.fnOf "moves_of" "moves_of" (defArgs s_moves_of) (defBody s_moves_of) (defScope s_moves_of) .none kV_moves_of dc_moves_of pm_moves_of an_moves_of cd_moves_of ct_moves_of), sl_moves_of⟩) (c_moves_of : PySem.W.codeIn K cd_moves_of "moves_of" = true) (k_moves_of : PySem.W.keepIn K (.ref f_moves_of) = true)
    (a_times : PySem.W.nsIn K mainGlobals "times" = some (some (.ref f_times))) (l_times : K.lookup f_times = some ⟨oc_times, od_times, .func (PySem.W.fnOf "times" "times" (defArgs s_times) (defBody s_times) (defScope s_times) .none kV_times dc_times pm_times an_times cd_times ct_times), sl_times⟩) (c_times : PySem.W.codeIn K cd_times "times" = true) (k_times : PySem.W.keepIn K (.ref f_times) = true)
    (a__law_balanced : PySem.W.nsIn K mainGlobals "_law_balanced" = some (some (.ref f__law_balanced))) (l__law_balanced : K.lookup f__law_balanced = some ⟨oc__law_balanced, od__law_balanced, .func (PySem.W.fnOf "_law_balanced" "_law_balanced" (defArgs s__law_balanced) (defBody s__law_balanced) (defScope s__law_balanced) .none kV__law_balanced dc__law_balanced pm__law_balanced an__law_balanced cd__law_balanced ct__law_balanced), sl__law_balanced⟩) (c__law_balanced : PySem.W.codeIn K cd__law_balanced "_law_balanced" = true) (k__law_balanced : PySem.W.keepIn K (.ref f__law_balanced) = true)
    (a_is_below_zero : PySem.W.nsIn K mainGlobals "is_below_zero" = some (some (.ref f_is_below_zero))) (l_is_below_zero : K.lookup f_is_below_zero = some ⟨oc_is_below_zero, od_is_below_zero, .func (PySem.W.fnOf "is_below_zero" "is_below_zero" (defArgs s_is_below_zero) (defBody s_is_below_zero) (defScope s_is_below_zero) .none kV_is_below_zero dc_is_below_zero pm_is_below_zero an_is_below_zero cd_is_below_zero ct_is_below_zero), sl_is_below_zero⟩) (c_is_below_zero : PySem.W.codeIn K cd_is_below_zero "is_below_zero" = true) (k_is_below_zero : PySem.W.keepIn K (.ref f_is_below_zero) = true)
    (a_less : PySem.W.nsIn K mainGlobals "less" = some (some (.ref f_less))) (l_less : K.lookup f_less = some ⟨oc_less, od_less, .func (PySem.W.fnOf "less" "less" (defArgs s_less) (defBody s_less) (defScope s_less) .none kV_less dc_less pm_less an_less cd_less ct_less), sl_less⟩) (c_less : PySem.W.codeIn K cd_less "less" = true) (k_less : PySem.W.keepIn K (.ref f_less) = true)
    (a_is_whole : PySem.W.nsIn K mainGlobals "is_whole" = some (some (.ref f_is_whole))) (l_is_whole : K.lookup f_is_whole = some ⟨oc_is_whole, od_is_whole, .func (PySem.W.fnOf "is_whole" "is_whole" (defArgs s_is_whole) (defBody s_is_whole) (defScope s_is_whole) .none kV_is_whole dc_is_whole pm_is_whole an_is_whole cd_is_whole ct_is_whole), sl_is_whole⟩) (c_is_whole : PySem.W.codeIn K cd_is_whole "is_whole" = true) (k_is_whole : PySem.W.keepIn K (.ref f_is_whole) = true)
    (a_is_number : PySem.W.nsIn K mainGlobals "is_number" = some (some (.ref f_is_number))) (l_is_number : K.lookup f_is_number = some ⟨oc_is_number, od_is_number, .func (PySem.W.fnOf "is_number" "is_number" (defArgs s_is_number) (defBody s_is_number) (defScope s_is_number) .none kV_is_number dc_is_number pm_is_number an_is_number cd_is_number ct_is_number), sl_is_number⟩) (c_is_number : PySem.W.codeIn K cd_is_number "is_number" = true) (k_is_number : PySem.W.keepIn K (.ref f_is_number) = true)
    (a_place_between : PySem.W.nsIn K mainGlobals "place_between" = some (some (.ref f_place_between))) (l_place_between : K.lookup f_place_between = some ⟨oc_place_between, od_place_between, .func (PySem.W.fnOf "place_between" "place_between" (defArgs s_place_between) (defBody s_place_between) (defScope s_place_between) .none kV_place_between dc_place_between pm_place_between an_place_between cd_place_between ct_place_between), sl_place_between⟩) (c_place_between : PySem.W.codeIn K cd_place_between "place_between" = true) (k_place_between : PySem.W.keepIn K (.ref f_place_between) = true)
    (a_piece_at : PySem.W.nsIn K mainGlobals "piece_at" = some (some (.ref f_piece_at))) (l_piece_at : K.lookup f_piece_at = some ⟨oc_piece_at, od_piece_at, .func (PySem.W.fnOf "piece_at" "piece_at" (defArgs s_piece_at) (defBody s_piece_at) (defScope s_piece_at) .none kV_piece_at dc_piece_at pm_piece_at an_piece_at cd_piece_at ct_piece_at), sl_piece_at⟩) (c_piece_at : PySem.W.codeIn K cd_piece_at "piece_at" = true) (k_piece_at : PySem.W.keepIn K (.ref f_piece_at) = true)
    (a_goes : PySem.W.nsIn K mainGlobals "goes" = some (some (.ref f_goes))) (l_goes : K.lookup f_goes = some ⟨oc_goes, od_goes, .func (PySem.W.fnOf "goes" "goes" (defArgs s_goes) (defBody s_goes) (defScope s_goes) .none kV_goes dc_goes pm_goes an_goes cd_goes ct_goes), sl_goes⟩) (c_goes : PySem.W.codeIn K cd_goes "goes" = true) (k_goes : PySem.W.keepIn K (.ref f_goes) = true)
    (a_came : PySem.W.nsIn K mainGlobals "came" = some (some (.ref f_came))) (l_came : K.lookup f_came = some ⟨oc_came, od_came, .func (PySem.W.fnOf "came" "came" (defArgs s_came) (defBody s_came) (defScope s_came) .none kV_came dc_came pm_came an_came cd_came ct_came), sl_came⟩) (c_came : PySem.W.codeIn K cd_came "came" = true) (k_came : PySem.W.keepIn K (.ref f_came) = true)
    (a__law_laid_right : PySem.W.nsIn K mainGlobals "_law_laid_right" = some (some (.ref f__law_laid_right))) (l__law_laid_right : K.lookup f__law_laid_right = some ⟨oc__law_laid_right, od__law_laid_right, .func (PySem.W.fnOf "_law_laid_right" "_law_laid_right" (defArgs s__law_laid_right) (defBody s__law_laid_right) (defScope s__law_laid_right) .none kV__law_laid_right dc__law_laid_right pm__law_laid_right an__law_laid_right cd__law_laid_right ct__law_laid_right), sl__law_laid_right⟩) (c__law_laid_right : PySem.W.codeIn K cd__law_laid_right "_law_laid_right" = true) (k__law_laid_right : PySem.W.keepIn K (.ref f__law_laid_right) = true)
    (a_whole_of : PySem.W.nsIn K mainGlobals "whole_of" = some (some (.ref f_whole_of))) (l_whole_of : K.lookup f_whole_of = some ⟨oc_whole_of, od_whole_of, .func (PySem.W.fnOf "whole_of" "whole_of" (defArgs s_whole_of) (defBody s_whole_of) (defScope s_whole_of) .none kV_whole_of dc_whole_of pm_whole_of an_whole_of cd_whole_of ct_whole_of), sl_whole_of⟩) (c_whole_of : PySem.W.codeIn K cd_whole_of "whole_of" = true) (k_whole_of : PySem.W.keepIn K (.ref f_whole_of) = true)
    (a__law_point_right : PySem.W.nsIn K mainGlobals "_law_point_right" = some (some (.ref f__law_point_right))) (l__law_point_right : K.lookup f__law_point_right = some ⟨oc__law_point_right, od__law_point_right, .func (PySem.W.fnOf "_law_point_right" "_law_point_right" (defArgs s__law_point_right) (defBody s__law_point_right) (defScope s__law_point_right) .none kV__law_point_right dc__law_point_right pm__law_point_right an__law_point_right cd__law_point_right ct__law_point_right), sl__law_point_right⟩) (c__law_point_right : PySem.W.codeIn K cd__law_point_right "_law_point_right" = true) (k__law_point_right : PySem.W.keepIn K (.ref f__law_point_right) = true)
    (a_law : PySem.W.nsIn K mainGlobals "law" = some (some (.ref f_law))) (l_law : K.lookup f_law = some ⟨oc_law, od_law, .func (PySem.W.fnOf "law" "law" (defArgs s_law) (defBody s_law) (defScope s_law) .none kV_law dc_law pm_law an_law cd_law ct_law), sl_law⟩) (c_law : PySem.W.codeIn K cd_law "law" = true) (k_law : PySem.W.keepIn K (.ref f_law) = true)
    (z_len : PySem.W.nsIn K mainGlobals "len" = some none)
    (z_range : PySem.W.nsIn K mainGlobals "range" = some none)
    (z_abs : PySem.W.nsIn K mainGlobals "abs" = some none)
    (z_int : PySem.W.nsIn K mainGlobals "int" = some none)
    (z_tuple : PySem.W.nsIn K mainGlobals "tuple" = some none)
    (z_list : PySem.W.nsIn K mainGlobals "list" = some none)
    (z_zip : PySem.W.nsIn K mainGlobals "zip" = some none)
    (z_dict : PySem.W.nsIn K mainGlobals "dict" = some none)
    (z_enumerate : PySem.W.nsIn K mainGlobals "enumerate" = some none)
    (z_isinstance : PySem.W.nsIn K mainGlobals "isinstance" = some none)
    (z_bool : PySem.W.nsIn K mainGlobals "bool" = some none)
    (z_all : PySem.W.nsIn K mainGlobals "all" = some none)
    (z_sorted : PySem.W.nsIn K mainGlobals "sorted" = some none)
    (z_max : PySem.W.nsIn K mainGlobals "max" = some none)
    (z_min : PySem.W.nsIn K mainGlobals "min" = some none)
    (a_ZERO : PySem.W.nsIn K mainGlobals "ZERO" = some (some (.ref zZ)))
    (l_ZERO : K.lookup zZ = some ⟨.type "tuple", odZ, .seq #[.int 0 tz0, .int 0 tz1, .int 1 tz2] nZ, slZ⟩)
    : ∃ fd : FuncData, (∀ (s : Shared) (v : Value), BindsTo s fd ⟨[v], []⟩ [("_law_script", v)]) ∧ ∀ (tabs : List Addr) (base : Heap) (bm : Addr) (ob : Obj), K.In base → base.Ns mainGlobals mg → PyProof.Rows.BMod base mainGlobals mg bm ob → (∀ x ∈ (["is_number"] : List Str), ∀ f o fd, mg x = some (.ref f) → K.lookup f = some o → o.data = .func fd → TabF base tabs fd) → FnOk l.prog w K mg base CX0 11 fa fd ["_law_script"] (spLaw K tabs) := by
  have e := hfa.symm.trans (PySem.W.mg_of X G a_law)
  cases e
  have m_len := PySem.W.mg_none_of X G z_len
  have m_range := PySem.W.mg_none_of X G z_range
  have m_abs := PySem.W.mg_none_of X G z_abs
  have m_int := PySem.W.mg_none_of X G z_int
  have m_tuple := PySem.W.mg_none_of X G z_tuple
  have m_list := PySem.W.mg_none_of X G z_list
  have m_zip := PySem.W.mg_none_of X G z_zip
  have m_dict := PySem.W.mg_none_of X G z_dict
  have m_enumerate := PySem.W.mg_none_of X G z_enumerate
  have m_isinstance := PySem.W.mg_none_of X G z_isinstance
  have m_bool := PySem.W.mg_none_of X G z_bool
  have m_all := PySem.W.mg_none_of X G z_all
  have m_sorted := PySem.W.mg_none_of X G z_sorted
  have m_max := PySem.W.mg_none_of X G z_max
  have m_min := PySem.W.mg_none_of X G z_min
  have m_ZERO := PySem.W.mg_of X G a_ZERO
  have hZ : ZeroK K zZ := fun H => .inr ⟨_, _, _, l_ZERO, rfl, rfl, smallB rfl, .cons ⟨_, rfl⟩ (.cons ⟨_, rfl⟩ (.cons ⟨_, rfl⟩ .nil))⟩
  have F__law_cell := fun_mk (st := s__law_cell) l__law_cell c__law_cell k__law_cell
  have b__law_cell := F__law_cell.binds (ps := ["_law_script", "_law_k"]) fun _ _ _ _ _ _ us hl => match us, hl with | [_, _], _ => rfl
  have F__law_box := fun_mk (st := s__law_box) l__law_box c__law_box k__law_box
  have b__law_box := F__law_box.binds (ps := ["_law_script", "_law_k"]) fun _ _ _ _ _ _ us hl => match us, hl with | [_, _], _ => rfl
  have F__law_take := fun_mk (st := s__law_take) l__law_take c__law_take k__law_take
  have b__law_take := F__law_take.binds (ps := ["_law_box_here", "_law_many"]) fun _ _ _ _ _ _ us hl => match us, hl with | [_, _], _ => rfl
  have F__law_low := fun_mk (st := s__law_low) l__law_low c__law_low k__law_low
  have b__law_low := F__law_low.binds (ps := ["_law_a", "_law_b", "_law_c"]) fun _ _ _ _ _ _ us hl => match us, hl with | [_, _, _], _ => rfl
  have F__law_sign := fun_mk (st := s__law_sign) l__law_sign c__law_sign k__law_sign
  have b__law_sign := F__law_sign.binds (ps := ["_law_root_here", "_law_one"]) fun _ _ _ _ _ _ us hl => match us, hl with | [_, _], _ => rfl
  have F__law_plus := fun_mk (st := s__law_plus) l__law_plus c__law_plus k__law_plus
  have b__law_plus := F__law_plus.binds (ps := ["_law_one", "_law_other"]) fun _ _ _ _ _ _ us hl => match us, hl with | [_, _], _ => rfl
  have F__law_number := fun_mk (st := s__law_number) l__law_number c__law_number k__law_number
  have b__law_number := F__law_number.binds (ps := ["_law_box_here", "_law_root_here"]) fun _ _ _ _ _ _ us hl => match us, hl with | [_, _], _ => rfl
  have F__law_with := fun_mk (st := s__law_with) l__law_with c__law_with k__law_with
  have b__law_with := F__law_with.binds (ps := ["_law_box_here", "_law_root_here", "_law_most"]) fun _ _ _ _ _ _ us hl => match us, hl with | [_, _, _], _ => rfl
  have F__law_root := fun_mk (st := s__law_root) l__law_root c__law_root k__law_root
  have b__law_root := F__law_root.binds (ps := ["_law_box_here"]) fun _ _ _ _ _ _ us hl => match us, hl with | [_], _ => rfl
  have F__law_ends := fun_mk (st := s__law_ends) l__law_ends c__law_ends k__law_ends
  have b__law_ends := F__law_ends.binds (ps := ["_law_longs"]) fun _ _ _ _ _ _ us hl => match us, hl with | [_], _ => rfl
  have F__law_point := fun_mk (st := s__law_point) l__law_point c__law_point k__law_point
  have b__law_point := F__law_point.binds (ps := ["_law_box_here", "_law_change"]) fun _ _ _ _ _ _ us hl => match us, hl with | [_, _], _ => rfl
  have F_divisor_of_both := fun_mk (st := s_divisor_of_both) l_divisor_of_both c_divisor_of_both k_divisor_of_both
  have b_divisor_of_both := F_divisor_of_both.binds (ps := ["one", "other"]) fun _ _ _ _ _ _ us hl => match us, hl with | [_, _], _ => rfl
  have F_divisor_of_all := fun_mk (st := s_divisor_of_all) l_divisor_of_all c_divisor_of_all k_divisor_of_all
  have b_divisor_of_all := F_divisor_of_all.binds (ps := ["a", "b", "c"]) fun _ _ _ _ _ _ us hl => match us, hl with | [_, _, _], _ => rfl
  have F_in_lowest_terms := fun_mk (st := s_in_lowest_terms) l_in_lowest_terms c_in_lowest_terms k_in_lowest_terms
  have b_in_lowest_terms := F_in_lowest_terms.binds (ps := ["a", "b", "c"]) fun _ _ _ _ _ _ us hl => match us, hl with | [_, _, _], _ => rfl
  have F_plus := fun_mk (st := s_plus) l_plus c_plus k_plus
  have b_plus := F_plus.binds (ps := ["root", "one", "other"]) fun _ _ _ _ _ _ us hl => match us, hl with | [_, _, _], _ => rfl
  have F_edges_of := fun_mk (st := s_edges_of) l_edges_of c_edges_of k_edges_of
  have b_edges_of := F_edges_of.binds (ps := ["root", "longs"]) fun _ _ _ _ _ _ us hl => match us, hl with | [_, _], _ => rfl
  have F_laid_edges_of := fun_mk (st := s_laid_edges_of) l_laid_edges_of c_laid_edges_of k_laid_edges_of
  have b_laid_edges_of := F_laid_edges_of.binds (ps := ["change"]) fun _ _ _ _ _ _ us hl => match us, hl with | [_], _ => rfl
  have F_laid_of := fun_mk (st := s_laid_of) l_laid_of c_laid_of k_laid_of
  have b_laid_of := F_laid_of.binds (ps := ["change"]) fun _ _ _ _ _ _ us hl => match us, hl with | [_], _ => rfl
  have F_minus := fun_mk (st := s_minus) l_minus c_minus k_minus
  have b_minus := F_minus.binds (ps := ["root", "one", "other"]) fun _ _ _ _ _ _ us hl => match us, hl with | [_, _, _], _ => rfl
  have F_begins_of := fun_mk (st := s_begins_of) l_begins_of c_begins_of k_begins_of
  have b_begins_of := F_begins_of.binds (ps := ["change"]) fun _ _ _ _ _ _ us hl => match us, hl with | [_], _ => rfl
  have F_moves_of := fun_mk (st := s_moves_of) l_moves_of c_moves_of k_moves_of
  have b_moves_of := F_moves_of.binds (ps := ["change"]) fun _ _ _ _ _ _ us hl => match us, hl with | [_], _ => rfl
  have F_times := fun_mk (st := s_times) l_times c_times k_times
  have b_times := F_times.binds (ps := ["root", "one", "other"]) fun _ _ _ _ _ _ us hl => match us, hl with | [_, _, _], _ => rfl
  have F__law_balanced := fun_mk (st := s__law_balanced) l__law_balanced c__law_balanced k__law_balanced
  have b__law_balanced := F__law_balanced.binds (ps := ["_law_change"]) fun _ _ _ _ _ _ us hl => match us, hl with | [_], _ => rfl
  have F_is_below_zero := fun_mk (st := s_is_below_zero) l_is_below_zero c_is_below_zero k_is_below_zero
  have b_is_below_zero := F_is_below_zero.binds (ps := ["root", "a", "b"]) fun _ _ _ _ _ _ us hl => match us, hl with | [_, _, _], _ => rfl
  have F_less := fun_mk (st := s_less) l_less c_less k_less
  have b_less := F_less.binds (ps := ["root", "one", "other"]) fun _ _ _ _ _ _ us hl => match us, hl with | [_, _, _], _ => rfl
  have F_is_whole := fun_mk (st := s_is_whole) l_is_whole c_is_whole k_is_whole
  have b_is_whole := F_is_whole.binds (ps := ["thing"]) fun _ _ _ _ _ _ us hl => match us, hl with | [_], _ => rfl
  have F_is_number := fun_mk (st := s_is_number) l_is_number c_is_number k_is_number
  have b_is_number := F_is_number.binds (ps := ["root", "thing"]) fun _ _ _ _ _ _ us hl => match us, hl with | [_, _], _ => rfl
  have F_place_between := fun_mk (st := s_place_between) l_place_between c_place_between k_place_between
  have b_place_between := F_place_between.binds (ps := ["root", "edges", "point"]) fun _ _ _ _ _ _ us hl => match us, hl with | [_, _, _], _ => rfl
  have F_piece_at := fun_mk (st := s_piece_at) l_piece_at c_piece_at k_piece_at
  have b_piece_at := F_piece_at.binds (ps := ["change", "point"]) fun _ _ _ _ _ _ us hl => match us, hl with | [_, _], _ => rfl
  have F_goes := fun_mk (st := s_goes) l_goes c_goes k_goes
  have b_goes := F_goes.binds (ps := ["change", "point"]) fun _ _ _ _ _ _ us hl => match us, hl with | [_, _], _ => rfl
  have F_came := fun_mk (st := s_came) l_came c_came k_came
  have b_came := F_came.binds (ps := ["change", "point"]) fun _ _ _ _ _ _ us hl => match us, hl with | [_, _], _ => rfl
  have F__law_laid_right := fun_mk (st := s__law_laid_right) l__law_laid_right c__law_laid_right k__law_laid_right
  have b__law_laid_right := F__law_laid_right.binds (ps := ["_law_change"]) fun _ _ _ _ _ _ us hl => match us, hl with | [_], _ => rfl
  have F_whole_of := fun_mk (st := s_whole_of) l_whole_of c_whole_of k_whole_of
  have b_whole_of := F_whole_of.binds (ps := ["change"]) fun _ _ _ _ _ _ us hl => match us, hl with | [_], _ => rfl
  have F__law_point_right := fun_mk (st := s__law_point_right) l__law_point_right c__law_point_right k__law_point_right
  have b__law_point_right := F__law_point_right.binds (ps := ["_law_change", "_law_point_here"]) fun _ _ _ _ _ _ us hl => match us, hl with | [_, _], _ => rfl
  have F_law := fun_mk (st := s_law) l_law c_law k_law
  refine ⟨PySem.W.fnOf "law" "law" (defArgs s_law) (defBody s_law) (defScope s_law) .none kV_law dc_law pm_law an_law cd_law ct_law, fun s v => .of_eq rfl, fun tabs base bm ob kb nb hM TB => ?_⟩
  have TF_is_number := TB "is_number" (by decide) _ _ _ (PySem.W.mg_of X G a_is_number) l_is_number rfl
  have C__law_cell : Cal l.prog w K mg base 1 "_law_cell" ["_law_script", "_law_k"] (spCell K) := ⟨⟨_, _, ok__law_cell (n := 0) F__law_cell m_len, b__law_cell, k__law_cell, PySem.W.mg_of X G a__law_cell⟩⟩
  have C__law_box : Cal l.prog w K mg base 2 "_law_box" ["_law_script", "_law_k"] (spBox K) := ⟨⟨_, _, ok__law_box (n := 1) F__law_box (C__law_cell.mono) m_range, b__law_box, k__law_box, PySem.W.mg_of X G a__law_box⟩⟩
  have C__law_take : Cal l.prog w K mg base 1 "_law_take" ["_law_box_here", "_law_many"] spTake := ⟨⟨_, _, ok__law_take (n := 0) F__law_take, b__law_take, k__law_take, PySem.W.mg_of X G a__law_take⟩⟩
  have C__law_low : Cal l.prog w K mg base 1 "_law_low" ["_law_a", "_law_b", "_law_c"] spLow := ⟨⟨_, _, ok__law_low (n := 0) F__law_low m_abs, b__law_low, k__law_low, PySem.W.mg_of X G a__law_low⟩⟩
  have C__law_sign : Cal l.prog w K mg base 1 "_law_sign" ["_law_root_here", "_law_one"] (spSign K) := ⟨⟨_, _, ok__law_sign (n := 0) F__law_sign m_int m_abs, b__law_sign, k__law_sign, PySem.W.mg_of X G a__law_sign⟩⟩
  have C__law_plus : Cal l.prog w K mg base 2 "_law_plus" ["_law_one", "_law_other"] (spPlus K) := ⟨⟨_, _, ok__law_plus (n := 1) F__law_plus (C__law_low.mono), b__law_plus, k__law_plus, PySem.W.mg_of X G a__law_plus⟩⟩
  have C__law_number : Cal l.prog w K mg base 3 "_law_number" ["_law_box_here", "_law_root_here"] (spNumber K) := ⟨⟨_, _, ok__law_number (n := 2) F__law_number (C__law_low.mono) (C__law_sign.mono) (C__law_plus.mono) (C__law_take.mono) m_int, b__law_number, k__law_number, PySem.W.mg_of X G a__law_number⟩⟩
  have C__law_with : Cal l.prog w K mg base 4 "_law_with" ["_law_box_here", "_law_root_here", "_law_most"] (spWith K) := ⟨⟨_, _, ok__law_with (n := 3) F__law_with (C__law_take.mono) (C__law_number.mono) m_tuple m_list m_range m_len, b__law_with, k__law_with, PySem.W.mg_of X G a__law_with⟩⟩
  have C__law_root : Cal l.prog w K mg base 2 "_law_root" ["_law_box_here"] spRoot := ⟨⟨_, _, ok__law_root (n := 1) F__law_root (C__law_take.mono), b__law_root, k__law_root, PySem.W.mg_of X G a__law_root⟩⟩
  have C__law_ends : Cal l.prog w K mg base 3 "_law_ends" ["_law_longs"] (spEnds K) := ⟨⟨_, _, ok__law_ends (n := 2) F__law_ends (C__law_plus.mono), b__law_ends, k__law_ends, PySem.W.mg_of X G a__law_ends⟩⟩
  have C__law_point : Cal l.prog w K mg base 4 "_law_point" ["_law_box_here", "_law_change"] (spPoint K) := ⟨⟨_, _, ok__law_point (n := 3) F__law_point (C__law_take.mono) (C__law_low.mono) (C__law_plus.mono) (C__law_ends.mono) m_len, b__law_point, k__law_point, PySem.W.mg_of X G a__law_point⟩⟩
  have C_divisor_of_both : Cal l.prog w K mg base 1 "divisor_of_both" ["one", "other"] spGcd := ⟨⟨_, _, ok_divisor_of_both (n := 0) F_divisor_of_both m_abs, b_divisor_of_both, k_divisor_of_both, PySem.W.mg_of X G a_divisor_of_both⟩⟩
  have C_divisor_of_all : Cal l.prog w K mg base 2 "divisor_of_all" ["a", "b", "c"] spDiv := ⟨⟨_, _, ok_divisor_of_all (n := 1) F_divisor_of_all (C_divisor_of_both.mono), b_divisor_of_all, k_divisor_of_all, PySem.W.mg_of X G a_divisor_of_all⟩⟩
  have C_in_lowest_terms : Cal l.prog w K mg base 3 "in_lowest_terms" ["a", "b", "c"] spLowP := ⟨⟨_, _, ok_in_lowest_terms (n := 2) F_in_lowest_terms (C_divisor_of_all.mono), b_in_lowest_terms, k_in_lowest_terms, PySem.W.mg_of X G a_in_lowest_terms⟩⟩
  have C_plus : Cal l.prog w K mg base 4 "plus" ["root", "one", "other"] (spPlusP K) := ⟨⟨_, _, ok_plus (n := 3) F_plus (C_in_lowest_terms.mono), b_plus, k_plus, PySem.W.mg_of X G a_plus⟩⟩
  have C_edges_of : Cal l.prog w K mg base 5 "edges_of" ["root", "longs"] (spEdges K) := ⟨⟨_, _, ok_edges_of (n := 4) F_edges_of (C_plus.mono) m_ZERO hZ, b_edges_of, k_edges_of, PySem.W.mg_of X G a_edges_of⟩⟩
  have C_laid_edges_of : Cal l.prog w K mg base 6 "laid_edges_of" ["change"] (spLaidE K) := ⟨⟨_, _, ok_laid_edges_of (n := 5) F_laid_edges_of (C_edges_of.mono), b_laid_edges_of, k_laid_edges_of, PySem.W.mg_of X G a_laid_edges_of⟩⟩
  have C_laid_of : Cal l.prog w K mg base 7 "laid_of" ["change"] (spLaidOf K) := ⟨⟨_, _, ok_laid_of (n := 6) F_laid_of (C_laid_edges_of.mono) m_list m_zip, b_laid_of, k_laid_of, PySem.W.mg_of X G a_laid_of⟩⟩
  have C_minus : Cal l.prog w K mg base 4 "minus" ["root", "one", "other"] (spMinusP K) := ⟨⟨_, _, ok_minus (n := 3) F_minus (C_in_lowest_terms.mono), b_minus, k_minus, PySem.W.mg_of X G a_minus⟩⟩
  have C_begins_of : Cal l.prog w K mg base 6 "begins_of" ["change"] (spBegins K) := ⟨⟨_, _, ok_begins_of (n := 5) F_begins_of (C_edges_of.mono) m_tuple, b_begins_of, k_begins_of, PySem.W.mg_of X G a_begins_of⟩⟩
  have C_moves_of : Cal l.prog w K mg base 8 "moves_of" ["change"] (spMoves K) := ⟨⟨_, _, ok_moves_of (n := 7) F_moves_of (C_laid_of.mono) (C_minus.mono) (C_begins_of.mono) m_dict m_tuple m_enumerate, b_moves_of, k_moves_of, PySem.W.mg_of X G a_moves_of⟩⟩
  have C_times : Cal l.prog w K mg base 4 "times" ["root", "one", "other"] (spTimes K) := ⟨⟨_, _, ok_times (n := 3) F_times (C_in_lowest_terms.mono), b_times, k_times, PySem.W.mg_of X G a_times⟩⟩
  have C__law_balanced : Cal l.prog w K mg base 9 "_law_balanced" ["_law_change"] (spBalanced K) := ⟨⟨_, _, ok__law_balanced (n := 8) F__law_balanced (C_moves_of.mono) (C_plus.mono) (C_times.mono) m_zip, b__law_balanced, k__law_balanced, PySem.W.mg_of X G a__law_balanced⟩⟩
  have C_is_below_zero : Cal l.prog w K mg base 1 "is_below_zero" ["root", "a", "b"] spBelow := ⟨⟨_, _, ok_is_below_zero (n := 0) F_is_below_zero, b_is_below_zero, k_is_below_zero, PySem.W.mg_of X G a_is_below_zero⟩⟩
  have C_less : Cal l.prog w K mg base 2 "less" ["root", "one", "other"] (spLessP K) := ⟨⟨_, _, ok_less (n := 1) F_less (C_is_below_zero.mono), b_less, k_less, PySem.W.mg_of X G a_less⟩⟩
  have C_is_whole : Cal l.prog w K mg base 1 "is_whole" ["thing"] spIsWhole := ⟨⟨_, _, ok_is_whole (n := 0) F_is_whole m_isinstance m_int m_bool, b_is_whole, k_is_whole, PySem.W.mg_of X G a_is_whole⟩⟩
  have C_is_number : Cal l.prog w K mg base 4 "is_number" ["root", "thing"] (spIsNumberP K tabs) := ⟨⟨_, _, ok_is_number (n := 2) F_is_number (C_divisor_of_all.mono) (C_is_whole.mono) m_all m_isinstance m_tuple m_len TF_is_number hM, b_is_number, k_is_number, PySem.W.mg_of X G a_is_number⟩⟩
  have C_place_between : Cal l.prog w K mg base 5 "place_between" ["root", "edges", "point"] (spPlace K tabs) := ⟨⟨_, _, ok_place_between (n := 4) F_place_between (C_less.mono) (C_is_number.mono) m_enumerate m_ZERO hZ, b_place_between, k_place_between, PySem.W.mg_of X G a_place_between⟩⟩
  have C_piece_at : Cal l.prog w K mg base 6 "piece_at" ["change", "point"] (spPieceAt K tabs) := ⟨⟨_, _, ok_piece_at (n := 5) F_piece_at (C_place_between.mono) (C_edges_of.mono), b_piece_at, k_piece_at, PySem.W.mg_of X G a_piece_at⟩⟩
  have C_goes : Cal l.prog w K mg base 9 "goes" ["change", "point"] (spGoes K tabs) := ⟨⟨_, _, ok_goes (n := 8) F_goes (C_piece_at.mono) (C_plus.mono) (C_moves_of.mono), b_goes, k_goes, PySem.W.mg_of X G a_goes⟩⟩
  have C_came : Cal l.prog w K mg base 9 "came" ["change", "point"] (spCame K tabs) := ⟨⟨_, _, ok_came (n := 8) F_came (C_minus.mono) (C_place_between.mono) (C_laid_edges_of.mono) (C_moves_of.mono), b_came, k_came, PySem.W.mg_of X G a_came⟩⟩
  have C__law_laid_right : Cal l.prog w K mg base 10 "_law_laid_right" ["_law_change"] (spLaidRight K tabs) := ⟨⟨_, _, ok__law_laid_right (n := 9) F__law_laid_right (C_begins_of.mono) (C_laid_of.mono) (C_goes.mono) (C_came.mono) m_sorted m_list m_range m_len, b__law_laid_right, k__law_laid_right, PySem.W.mg_of X G a__law_laid_right⟩⟩
  have C_whole_of : Cal l.prog w K mg base 6 "whole_of" ["change"] (spWholeOf K) := ⟨⟨_, _, ok_whole_of (n := 5) F_whole_of (C_edges_of.mono), b_whole_of, k_whole_of, PySem.W.mg_of X G a_whole_of⟩⟩
  have C__law_point_right : Cal l.prog w K mg base 10 "_law_point_right" ["_law_change", "_law_point_here"] (spPointRight K tabs) := ⟨⟨_, _, ok__law_point_right (n := 9) F__law_point_right (C_piece_at.mono) (C_begins_of.mono) (C_less.mono) (C_minus.mono) (C_whole_of.mono) (C_goes.mono) (C_moves_of.mono) (C_came.mono), b__law_point_right, k__law_point_right, PySem.W.mg_of X G a__law_point_right⟩⟩
  exact ok_law (n := 10) F_law (C__law_box.mono) (C__law_with.mono) (C__law_root.mono) (C__law_point.mono) (C__law_balanced.mono) (C__law_laid_right.mono) (C__law_point_right.mono) (C_goes.mono) m_range m_max m_min m_len
theorem walk {l : PySem.W.OpenLaw} {q : Program} {loose : List Str} {XP : (Str → Option Value) → Heap → Prop} {YP : World → Heap → Prop} {d : DefRec} {K : Params → PySem.W.Frag} (hn : l.most = some 63) (hdf : d.params.defaults = [])
    (hY : ∀ (w : World) (h : Heap), YP w h → (K w.params).In h) (hKc : ∀ p : Params, PySem.W.kb_classed (K p) = true) (hgs : ((["is_number"] : List Str).all fun x => (PyProof.Rows.recsOf q).any fun e => decide (e.name = x)) = true)
    (F : ∀ (w : World) (mg : Str → Option Value) (fa : Addr) (h : Heap), (K w.params).In h → h.Ns mainGlobals mg → mg d.name = some (.ref fa) →
      ∃ fd : FuncData, (∀ (s : Shared) (u : Value), BindsTo s fd ⟨[u], []⟩ [("_law_script", u)]) ∧ ∀ (tabs : List Addr) (base : Heap) (bm : Addr) (ob : Obj), (K w.params).In base → base.Ns mainGlobals mg → PyProof.Rows.BMod base mainGlobals mg bm ob → (∀ x ∈ (["is_number"] : List Str), ∀ f o fd, mg x = some (.ref f) → (K w.params).lookup f = some o → o.data = .func fd → TabF base tabs fd) → FnOk l.prog w (K w.params) mg base CX0 11 fa fd ["_law_script"] (spLaw (K w.params) tabs)) :
    PySem.W.WalkO q loose XP YP l.row.toRowW d [] (fun f vs => PySem.call f vs) :=
  L2.walk_ofT (n := 63) (k := 11) (x := "_law_script") (sp := spLaw) ["is_number"] hn (by decide) hdf ⟨rfl, by decide, by decide⟩ hY hKc hgs F fun _ _ _ a ns hl hT hS => ⟨a, ns, rfl, hS, hl, hT, fun _ h => ⟨rfl, h⟩⟩
end My
open PySem PySem.W PyProof.Rows
set_option maxRecDepth 100000 in
set_option maxHeartbeats 0 in
theorem PySem.Challenge.cw_cutexchange_k14_whole_goes_are_one_to_on_holds : PySem.Challenge.rw_cutexchange_k14_whole_goes_are_one_to_on.Holds := by
  w_on; o_law; k_head; (case hw => w_witness2)
  k_fill
  refine My.walk (l := PySem.Challenge.rw_cutexchange_k14_whole_goes_are_one_to_on) rfl rfl (fun w h Y => PySem.W.kIn_of Y) (fun _ => by rfl) (by rfl) ?F
  case F =>
    intro w mg fa h KX G hmg
    refine' My.all_mk KX G hmg ?a__law_cell ?l__law_cell ?c__law_cell ?k__law_cell ?a__law_box ?l__law_box ?c__law_box ?k__law_box ?a__law_take ?l__law_take ?c__law_take ?k__law_take ?a__law_low ?l__law_low ?c__law_low ?k__law_low ?a__law_sign ?l__law_sign ?c__law_sign ?k__law_sign ?a__law_plus ?l__law_plus ?c__law_plus ?k__law_plus ?a__law_number ?l__law_number ?c__law_number ?k__law_number ?a__law_with ?l__law_with ?c__law_with ?k__law_with ?a__law_root ?l__law_root ?c__law_root ?k__law_root ?a__law_ends ?l__law_ends ?c__law_ends ?k__law_ends ?a__law_point ?l__law_point ?c__law_point ?k__law_point ?a_divisor_of_both ?l_divisor_of_both ?c_divisor_of_both ?k_divisor_of_both ?a_divisor_of_all ?l_divisor_of_all ?c_divisor_of_all ?k_divisor_of_all ?a_in_lowest_terms ?l_in_lowest_terms ?c_in_lowest_terms ?k_in_lowest_terms ?a_plus ?l_plus ?c_plus ?k_plus ?a_edges_of ?l_edges_of ?c_edges_of ?k_edges_of ?a_laid_edges_of ?l_laid_edges_of ?c_laid_edges_of ?k_laid_edges_of ?a_laid_of ?l_laid_of ?c_laid_of ?k_laid_of ?a_minus ?l_minus ?c_minus ?k_minus ?a_begins_of ?l_begins_of ?c_begins_of ?k_begins_of ?a_moves_of ?l_moves_of ?c_moves_of ?k_moves_of ?a_times ?l_times ?c_times ?k_times ?a__law_balanced ?l__law_balanced ?c__law_balanced ?k__law_balanced ?a_is_below_zero ?l_is_below_zero ?c_is_below_zero ?k_is_below_zero ?a_less ?l_less ?c_less ?k_less ?a_is_whole ?l_is_whole ?c_is_whole ?k_is_whole ?a_is_number ?l_is_number ?c_is_number ?k_is_number ?a_place_between ?l_place_between ?c_place_between ?k_place_between ?a_piece_at ?l_piece_at ?c_piece_at ?k_piece_at ?a_goes ?l_goes ?c_goes ?k_goes ?a_came ?l_came ?c_came ?k_came ?a__law_laid_right ?l__law_laid_right ?c__law_laid_right ?k__law_laid_right ?a_whole_of ?l_whole_of ?c_whole_of ?k_whole_of ?a__law_point_right ?l__law_point_right ?c__law_point_right ?k__law_point_right ?a_law ?l_law ?c_law ?k_law ?z_len ?z_range ?z_abs ?z_int ?z_tuple ?z_list ?z_zip ?z_dict ?z_enumerate ?z_isinstance ?z_bool ?z_all ?z_sorted ?z_max ?z_min ?a_ZERO ?l_ZERO
    (case a__law_cell => k_is)
    (case l__law_cell => k_is)
    (case c__law_cell => k_is)
    (case k__law_cell => k_is)
    (case a__law_box => k_is)
    (case l__law_box => k_is)
    (case c__law_box => k_is)
    (case k__law_box => k_is)
    (case a__law_take => k_is)
    (case l__law_take => k_is)
    (case c__law_take => k_is)
    (case k__law_take => k_is)
    (case a__law_low => k_is)
    (case l__law_low => k_is)
    (case c__law_low => k_is)
    (case k__law_low => k_is)
    (case a__law_sign => k_is)
    (case l__law_sign => k_is)
    (case c__law_sign => k_is)
    (case k__law_sign => k_is)
    (case a__law_plus => k_is)
    (case l__law_plus => k_is)
    (case c__law_plus => k_is)
    (case k__law_plus => k_is)
    (case a__law_number => k_is)
    (case l__law_number => k_is)
    (case c__law_number => k_is)
    (case k__law_number => k_is)
    (case a__law_with => k_is)
    (case l__law_with => k_is)
    (case c__law_with => k_is)
    (case k__law_with => k_is)
    (case a__law_root => k_is)
    (case l__law_root => k_is)
    (case c__law_root => k_is)
    (case k__law_root => k_is)
    (case a__law_ends => k_is)
    (case l__law_ends => k_is)
    (case c__law_ends => k_is)
    (case k__law_ends => k_is)
    (case a__law_point => k_is)
    (case l__law_point => k_is)
    (case c__law_point => k_is)
    (case k__law_point => k_is)
    (case a_divisor_of_both => k_is)
    (case l_divisor_of_both => k_is)
    (case c_divisor_of_both => k_is)
    (case k_divisor_of_both => k_is)
    (case a_divisor_of_all => k_is)
    (case l_divisor_of_all => k_is)
    (case c_divisor_of_all => k_is)
    (case k_divisor_of_all => k_is)
    (case a_in_lowest_terms => k_is)
    (case l_in_lowest_terms => k_is)
    (case c_in_lowest_terms => k_is)
    (case k_in_lowest_terms => k_is)
    (case a_plus => k_is)
    (case l_plus => k_is)
    (case c_plus => k_is)
    (case k_plus => k_is)
    (case a_edges_of => k_is)
    (case l_edges_of => k_is)
    (case c_edges_of => k_is)
    (case k_edges_of => k_is)
    (case a_laid_edges_of => k_is)
    (case l_laid_edges_of => k_is)
    (case c_laid_edges_of => k_is)
    (case k_laid_edges_of => k_is)
    (case a_laid_of => k_is)
    (case l_laid_of => k_is)
    (case c_laid_of => k_is)
    (case k_laid_of => k_is)
    (case a_minus => k_is)
    (case l_minus => k_is)
    (case c_minus => k_is)
    (case k_minus => k_is)
    (case a_begins_of => k_is)
    (case l_begins_of => k_is)
    (case c_begins_of => k_is)
    (case k_begins_of => k_is)
    (case a_moves_of => k_is)
    (case l_moves_of => k_is)
    (case c_moves_of => k_is)
    (case k_moves_of => k_is)
    (case a_times => k_is)
    (case l_times => k_is)
    (case c_times => k_is)
    (case k_times => k_is)
    (case a__law_balanced => k_is)
    (case l__law_balanced => k_is)
    (case c__law_balanced => k_is)
    (case k__law_balanced => k_is)
    (case a_is_below_zero => k_is)
    (case l_is_below_zero => k_is)
    (case c_is_below_zero => k_is)
    (case k_is_below_zero => k_is)
    (case a_less => k_is)
    (case l_less => k_is)
    (case c_less => k_is)
    (case k_less => k_is)
    (case a_is_whole => k_is)
    (case l_is_whole => k_is)
    (case c_is_whole => k_is)
    (case k_is_whole => k_is)
    (case a_is_number => k_is)
    (case l_is_number => k_is)
    (case c_is_number => k_is)
    (case k_is_number => k_is)
    (case a_place_between => k_is)
    (case l_place_between => k_is)
    (case c_place_between => k_is)
    (case k_place_between => k_is)
    (case a_piece_at => k_is)
    (case l_piece_at => k_is)
    (case c_piece_at => k_is)
    (case k_piece_at => k_is)
    (case a_goes => k_is)
    (case l_goes => k_is)
    (case c_goes => k_is)
    (case k_goes => k_is)
    (case a_came => k_is)
    (case l_came => k_is)
    (case c_came => k_is)
    (case k_came => k_is)
    (case a__law_laid_right => k_is)
    (case l__law_laid_right => k_is)
    (case c__law_laid_right => k_is)
    (case k__law_laid_right => k_is)
    (case a_whole_of => k_is)
    (case l_whole_of => k_is)
    (case c_whole_of => k_is)
    (case k_whole_of => k_is)
    (case a__law_point_right => k_is)
    (case l__law_point_right => k_is)
    (case c__law_point_right => k_is)
    (case k__law_point_right => k_is)
    (case a_law => k_is)
    (case l_law => k_is)
    (case c_law => k_is)
    (case k_law => k_is)
    (case z_len => k_is)
    (case z_range => k_is)
    (case z_abs => k_is)
    (case z_int => k_is)
    (case z_tuple => k_is)
    (case z_list => k_is)
    (case z_zip => k_is)
    (case z_dict => k_is)
    (case z_enumerate => k_is)
    (case z_isinstance => k_is)
    (case z_bool => k_is)
    (case z_all => k_is)
    (case z_sorted => k_is)
    (case z_max => k_is)
    (case z_min => k_is)
    (case a_ZERO => k_is)
    (case l_ZERO => k_is)
