import PyProof.Rows.All
import Wide.All
import OpenK.AllK
import Wide.FinOn
import PyProof.EqAt
import PyProof.EqKinds
import PyProof.TupleCall
import KE.BitLaws
import Open.SpecLaws
import KE.OsHead
import KE.OsGo
import PySem.SetTable
import PyProof.SetScanFacts
import PyFlatLaws
import PySem.Challenge.RW_orderedways_s01_answers
set_option Elab.async false
set_option linter.all false
set_option maxRecDepth 100000
namespace L2
open PySem PySem.Spec PyProof.Rows
abbrev Key := Sum Int Str
def keyIs : Key → Value → Bool
  | .inl k, v => Value.isInt k v
  | .inr x, v => Value.isStrOf x v
def keyH (w : World) : Key → Int
  | .inl k => hashInt k
  | .inr x => hashStr w x
theorem keyIs_shape : ∀ {k : Key} {v : Value}, keyIs k v = true → (∃ i t, k = Sum.inl i ∧ v = Value.int i t) ∨ (∃ x t, k = Sum.inr x ∧ v = Value.str x t)
  | .inl i, v, h => by
    obtain ⟨t, e⟩ := Value.isInt_shape (k := i) (v := v) h
    exact .inl ⟨i, t, rfl, e⟩
  | .inr x, v, h => by
    obtain ⟨t, e⟩ := Value.isStrOf_shape (x := x) (v := v) h
    exact .inr ⟨x, t, rfl, e⟩
theorem keyIs_int (i : Int) (t : Tok) : keyIs (.inl i) (.int i t) = true := by simp [keyIs, Value.isInt]
theorem keyIs_str (x : Str) (t : Tok) : keyIs (.inr x) (.str x t) = true := by simp [keyIs, Value.isStrOf]
theorem key_ll (a b : Int) : decide ((Sum.inl a : Key) = Sum.inl b) = (a == b) := by
  by_cases e : a = b
  · subst e; simp
  · have h : ¬ (Sum.inl a : Key) = Sum.inl b := fun q => e (Sum.inl.inj q)
    rw [decide_eq_false h]
    exact (beq_eq_false_iff_ne.mpr e).symm
theorem key_rr (a b : Str) : decide ((Sum.inr a : Key) = Sum.inr b) = decide (a = b) := by
  by_cases e : a = b
  · subst e; simp
  · have h : ¬ (Sum.inr a : Key) = Sum.inr b := fun q => e (Sum.inr.inj q)
    rw [decide_eq_false h, decide_eq_false e]
theorem key_lr (a : Int) (b : Str) : decide ((Sum.inl a : Key) = Sum.inr b) = false := decide_eq_false (fun q => nomatch q)
theorem key_rl (a : Str) (b : Int) : decide ((Sum.inr a : Key) = Sum.inl b) = false := decide_eq_false (fun q => nomatch q)
def mixKind (prog : Program) (w : World) : PySem.KeyKind prog w Key where
  is := keyIs
  hash := keyH w
  inj := fun v a b ha hb => by
    rcases keyIs_shape ha with ⟨i, t, rfl, rfl⟩ | ⟨x, t, rfl, rfl⟩
    · rcases keyIs_shape hb with ⟨j, u, rfl, e⟩ | ⟨y, u, rfl, e⟩
      · injection e with e1 _; rw [e1]
      · exact nomatch e
    · rcases keyIs_shape hb with ⟨j, u, rfl, e⟩ | ⟨y, u, rfl, e⟩
      · exact nomatch e
      · injection e with e1 _; rw [e1]
  byValue := fun k v h => by
    rcases keyIs_shape h with ⟨i, t, rfl, rfl⟩ | ⟨x, t, rfl, rfl⟩ <;> rfl
  pyHash := fun hv h => by
    rcases keyIs_shape hv with ⟨i, t, rfl, rfl⟩ | ⟨x, t, rfl, rfl⟩
    · exact wpAny_pyHash_int h
    · exact wpAny_pyHash_str h
  eqBool := fun hu hv h => by
    rcases keyIs_shape hu with ⟨i, t, rfl, rfl⟩ | ⟨x, t, rfl, rfl⟩
    · rcases keyIs_shape hv with ⟨j, u, rfl, rfl⟩ | ⟨y, u, rfl, rfl⟩
      · rw [key_ll] at h; exact wpAny_eqBool_int h
      · rw [key_lr] at h; exact SeqAt.EqAt.int_str i t y u _ _ _ _ h
    · rcases keyIs_shape hv with ⟨j, u, rfl, rfl⟩ | ⟨y, u, rfl, rfl⟩
      · rw [key_rl] at h; exact SeqAt.EqAt.str_int x t j u _ _ _ _ h
      · rw [key_rr] at h; exact wpAny_eqBool_str h
  «strs» := fun k x t v h => by
    rcases keyIs_shape h with ⟨i, u, rfl, e⟩ | ⟨y, u, rfl, e⟩
    · exact nomatch e
    · injection e with e1 _
      subst e1
      cases v <;> rfl
theorem mixKind_int (prog : Program) (w : World) (i : Int) (t : Tok) : (mixKind prog w).is (.inl i) (.int i t) = true := keyIs_int i t
theorem mixKind_str (prog : Program) (w : World) (x : Str) (t : Tok) : (mixKind prog w).is (.inr x) (.str x t) = true := keyIs_str x t
end L2
namespace L2
open PySem PySem.Spec PyProof.Rows
inductive V where
  | non | bl (b : Bool) | int (i : Int) | str (x : Str) | byt (b : Array UInt8) | flt (b : UInt64) | ref (a : Addr) | ty (n : String)
  deriving DecidableEq
def RelV : V → Value → Prop
  | .non, u => u = Value.none
  | .bl b, u => u = Value.bool b
  | .int i, u => ∃ t, u = Value.int i t
  | .str x, u => ∃ t, u = Value.str x t
  | .byt b, u => ∃ t, u = Value.bytes b t
  | .flt b, u => ∃ t, u = Value.float b t
  | .ref a, u => u = Value.ref a
  | .ty n, u => u = Value.type n
abbrev Vals : List V → List Value → Prop := Paired RelV
theorem Vals.length {xs : List V} {us : List Value} (r : Vals xs us) : xs.length = us.length := Paired.length r
theorem Vals.get : ∀ {xs : List V} {us : List Value} {i : Nat} {x : V}, Vals xs us → xs[i]? = some x → ∃ u, us[i]? = some u ∧ RelV x u
  | _, _, _, _, .nil, e => by simp at e
  | _, _, 0, _, .cons r _, e => by simp at e; subst e; exact ⟨_, rfl, r⟩
  | _, _, i + 1, x, .cons _ t, e => by
    obtain ⟨u, h1, h2⟩ := Vals.get (i := i) (x := x) t (by simpa using e)
    exact ⟨u, by simpa using h1, h2⟩
theorem Vals.set {x : V} {u : Value} (r : RelV x u) : ∀ {xs : List V} {us : List Value} (i : Nat), Vals xs us → Vals (xs.set i x) (us.set i u)
  | _, _, _, .nil => .nil
  | _, _, 0, .cons _ t => .cons r t
  | _, _, i + 1, .cons q t => .cons q (Vals.set r i t)
theorem Vals.append : ∀ {xs ys : List V} {us ws : List Value}, Vals xs us → Vals ys ws → Vals (xs ++ ys) (us ++ ws)
  | _, _, _, _, .nil, s => s
  | _, _, _, _, .cons r t, s => .cons r (Vals.append t s)
theorem Vals.take : ∀ {xs : List V} {us : List Value} (n : Nat), Vals xs us → Vals (xs.take n) (us.take n)
  | _, _, 0, _ => .nil
  | _, _, _ + 1, .nil => .nil
  | _, _, n + 1, .cons r t => .cons r (Vals.take n t)
theorem Vals.drop : ∀ {xs : List V} {us : List Value} (n : Nat), Vals xs us → Vals (xs.drop n) (us.drop n)
  | _, _, 0, r => r
  | _, _, _ + 1, .nil => .nil
  | _, _, n + 1, .cons _ t => Vals.drop n t
theorem Vals.none_of : ∀ {xs : List V} {us : List Value} {i : Nat}, Vals xs us → xs[i]? = none → us[i]? = none := fun {xs us i} r e => by
  have h1 := r.length
  have h2 : xs.length ≤ i := List.getElem?_eq_none_iff.mp e
  exact List.getElem?_eq_none_iff.mpr (by omega)
def RelO : Option V → Option Value → Prop
  | some v, some u => RelV v u
  | none, none => True
  | _, _ => False
def KV {κ : Type} : List (κ × V) → List (κ × Value) → Prop := Paired fun (p : κ × V) (q : κ × Value) => p.1 = q.1 ∧ RelV p.2 q.2
def kV : Key → V
  | .inl i => .int i
  | .inr x => .str x
inductive HO where
  /-- a list -/
  | lst (xs : List V)
  /-- a tuple (never changes) -/
  | tup (xs : List V)
  /-- a dict whose keys are ints and texts; one whose keys are tuples of ints and texts (the empty one is both) -/
  | dK (kvs : List (Key × V)) | dT (kvs : List (List Key × V))
  /-- a set of ints: its members, its size -/
  | set (S : Int → Bool) (n : Nat)
  /-- an instance of the class at C, its dict at dx, its attributes -/
  | ins (C dx : Addr) (fs : List (Str × V))
  /-- the dict of the instance at x -/
  | own (x : Addr)
  /-- the dict of an exception -/
  | xd (fs : List (Str × V))
  /-- a bound method, f of x -/
  | met (f x : Addr)
  /-- a range object lo, lo + 1, .. below hi -/
  | rng (lo hi : Int)
  /-- a thing that is known to the object (the script; a dict while a loop walks it): read, never written while it is so -/
  | frz (o : Obj) (u : HO)
  /-- a code object's table -/
  | tbl (ps : Array Value)
  /-- any other thing, by what is true of its one object (a def of one's own: SetO a S n := HO.ext fun h => ..) -/
  | ext (φ : Heap → Prop)
abbrev Hp := Addr → Option HO
def upd (H : Hp) (a : Addr) (o : HO) : Hp := fun b => if b = a then some o else H b
theorem upd_same {H : Hp} {a : Addr} {o : HO} : upd H a o a = some o := by unfold upd; rw [if_pos rfl]
theorem upd_ne {H : Hp} {a b : Addr} {o : HO} (h : b ≠ a) : upd H a o b = H b := by unfold upd; rw [if_neg h]
theorem upd_upd {H : Hp} {a : Addr} {o u : HO} : upd (upd H a o) a u = upd H a u := by
  funext b; unfold upd; split <;> rfl
theorem ne_of {H : Hp} {a b : Addr} {o u : HO} (h : H a = some o) (h' : H b = some u) (d : o ≠ u) : a ≠ b := by
  intro e; subst e; rw [h] at h'; exact d (Option.some.inj h')
theorem ne_of_none {H : Hp} {a b : Addr} {o : HO} (h : H a = some o) (h' : H b = none) : a ≠ b := by
  intro e; subst e; rw [h] at h'; cases h'
section
variable (P : Program) (w : World)
def ObjOk (H : Hp) (h : Heap) (a : Addr) : HO → Prop
  | .lst xs => xs.length ≤ sizeLine ∧ ∃ (its : List Value) (n : Nat), Vals xs its ∧ h.get? a = some { cls := .type "list", data := .seq its.toArray n }
  | .tup xs => xs.length ≤ sizeLine ∧ ∃ its : List Value, Vals xs its ∧ IsTup h a its.toArray
  | .dK kvs => kvs.length ≤ sizeLine ∧ (a == sysModules) = false ∧ ∃ vs, KV kvs vs ∧ h.DictOf (mixKind P w) a vs
  | .dT kvs => kvs.length ≤ sizeLine ∧ (a == sysModules) = false ∧ ∃ xs : List (List Key × Addr × Value),
      Paired (fun (p : List Key × V) (q : List Key × Addr × Value) => p.1 = q.1 ∧ H q.2.1 = some (.tup (p.1.map kV)) ∧ RelV p.2 q.2.2) kvs xs ∧
      ∃ o es ep, h.get? a = some o ∧ o.ExactDict ∧ o.data = .dict es ep ∧ es.toList = xs.map (entryOfKey (tupleKind (mixKind P w))) ∧ (xs.map (·.1)).Nodup
  | .set S n => h.SetOf (intKind P w) a S n
  | .ins C dx fs => H dx = some (.own a) ∧ fs.length ≤ 1000 ∧ dx ≠ a ∧ h.get? a = some (PySem.W.instObj C dx) ∧
      ∃ mA, h.Ns1 dx mA ∧ (∀ f, RelO (fs.lookup f) (mA f)) ∧ PySem.Within mA (fs.map (·.1))
  | .own _ => ∃ o, h.get? a = some o
  | .xd fs => ∃ mA, h.Ns1 a mA ∧ ∀ f, RelO (fs.lookup f) (mA f)
  | .rng lo hi => ∃ t u v, h.get? a = some { cls := .type "range", data := .fields #[.int lo t, .int hi u, .int 1 v] }
  | .frz o u => h.get? a = some o ∧ ObjOk H h a u
  | .tbl ps => h.get? a = some { cls := .none, data := .fields ps }
  | .met f x => h.get? a = some (PySem.W.methodObj (.ref f) (.ref x))
  | .ext φ => φ h ∧ (∃ o, h.get? a = some o) ∧ ∀ h1 h2 : Heap, φ h1 → (∀ o, h1.get? a = some o → h2.get? a = some o) → φ h2
def HOk (H : Hp) (h : Heap) : Prop := ∀ a o, H a = some o → ObjOk P w H h a o
end
section
variable {P : Program} {w : World} {H H' : Hp} {h h' : Heap} {a : Addr} {o : HO}
theorem ObjOk.lt (x : ObjOk P w H h a o) : a < h.objs.size := by
  cases o with
  | lst xs => obtain ⟨_, _, _, _, e⟩ := x; exact Heap.lt_size e
  | tup xs => obtain ⟨_, _, _, p⟩ := x; exact p.lt
  | dK kvs => obtain ⟨_, _, _, _, o, _, _, e, _⟩ := x; exact Heap.lt_size e
  | dT kvs => obtain ⟨_, _, _, _, o, _, _, e, _⟩ := x; exact Heap.lt_size e
  | set S n => obtain ⟨o, _, _, _, e, _⟩ := x; exact Heap.lt_size e
  | ins C dx fs => obtain ⟨_, _, _, e, _⟩ := x; exact Heap.lt_size e
  | own y => obtain ⟨_, e⟩ := x; exact Heap.lt_size e
  | xd fs => obtain ⟨_, ⟨_, _, _, e, _⟩, _⟩ := x; exact Heap.lt_size e
  | rng lo hi => obtain ⟨_, _, _, e⟩ := x; exact Heap.lt_size e
  | frz ob u => obtain ⟨e, _⟩ := x; exact Heap.lt_size e
  | tbl ps => exact Heap.lt_size (show h.get? a = some _ from x)
  | met f y => exact Heap.lt_size (show h.get? a = some _ from x)
  | ext φ => obtain ⟨_, ⟨_, e⟩, _⟩ := x; exact Heap.lt_size e
theorem Paired.mapP {α β : Type} {F G : α → β → Prop} : ∀ {l₁ : List α} {l₂ : List β}, Paired F l₁ l₂ → (∀ a b, F a b → G a b) → Paired G l₁ l₂
  | _, _, .nil, _ => .nil
  | _, _, .cons r t, f => .cons (f _ _ r) (Paired.mapP t f)
theorem ObjOk.stay (x : ObjOk P w H h a o) (k : ∀ b u, (b = a ∨ H b = some (.own a)) → h.get? b = some u → h'.get? b = some u)
    (ho : ∀ b, H b = some (.own a) → H' b = some (.own a)) (ht : ∀ b xs, H b = some (.tup xs) → H' b = some (.tup xs)) : ObjOk P w H' h' a o := by
  induction o with
  | lst xs => obtain ⟨z, its, n, r, e⟩ := x; exact ⟨z, its, n, r, k _ _ (.inl rfl) e⟩
  | tup xs => obtain ⟨z, its, r, ob, e, c⟩ := x; exact ⟨z, its, r, ob, k _ _ (.inl rfl) e, c⟩
  | dK kvs => obtain ⟨z, y, vs, r, ob, es, ep, e, c⟩ := x; exact ⟨z, y, vs, r, ob, es, ep, k _ _ (.inl rfl) e, c⟩
  | dT kvs =>
    obtain ⟨z, y, xs, r, ob, es, ep, e, c⟩ := x
    exact ⟨z, y, xs, Paired.mapP r fun p q z => ⟨z.1, ht _ _ z.2.1, z.2.2⟩, ob, es, ep, k _ _ (.inl rfl) e, c⟩
  | set S n => obtain ⟨ob, es, ep, t, e, c⟩ := x; exact ⟨ob, es, ep, t, k _ _ (.inl rfl) e, c⟩
  | ins C dx fs =>
    obtain ⟨d, z, ne, e, mA, ⟨od, es, ep, e2, c⟩, r⟩ := x
    exact ⟨ho _ d, z, ne, k _ _ (.inl rfl) e, mA, ⟨od, es, ep, k _ _ (.inr d) e2, c⟩, r⟩
  | own y => obtain ⟨ob, e⟩ := x; exact ⟨ob, k _ _ (.inl rfl) e⟩
  | xd fs => obtain ⟨mA, ⟨od, es, ep, e, c⟩, r⟩ := x; exact ⟨mA, ⟨od, es, ep, k _ _ (.inl rfl) e, c⟩, r⟩
  | rng lo hi => obtain ⟨t, u, v, e⟩ := x; exact ⟨t, u, v, k _ _ (.inl rfl) e⟩
  | frz ob u ih => obtain ⟨e, q⟩ := x; exact ⟨k _ _ (.inl rfl) e, ih q⟩
  | tbl ps =>
    have e : h.get? a = some { cls := .none, data := .fields ps } := x
    show h'.get? a = some { cls := .none, data := .fields ps }
    exact k a _ (.inl rfl) e
  | met f y =>
    have e : h.get? a = some (PySem.W.methodObj (.ref f) (.ref y)) := x
    show h'.get? a = some (PySem.W.methodObj (.ref f) (.ref y))
    exact k a _ (.inl rfl) e
  | ext φ => obtain ⟨p, ⟨o, e⟩, st⟩ := x; exact ⟨st _ _ p fun o q => k _ _ (.inl rfl) q, ⟨o, k _ _ (.inl rfl) e⟩, st⟩
theorem HOk.lt (x : HOk P w H h) (e : H a = some o) : a < h.objs.size := (x a o e).lt
theorem HOk.fresh (x : HOk P w H h) (e : h.objs.size ≤ a) : H a = none := by
  cases q : H a with
  | none => rfl
  | some u => exact absurd (Nat.lt_of_lt_of_le (x.lt q) e) (Nat.lt_irrefl _)
theorem HOk.kept (x : HOk P w H h) (k : ∀ b u, h.get? b = some u → h'.get? b = some u) : HOk P w H h' := fun a o e =>
  (x a o e).stay (fun b u _ q => k b u q) (fun _ q => q) fun _ _ q => q
theorem HOk.laid (x : HOk P w H h) (k : ∀ b u, h.get? b = some u → h'.get? b = some u) (hp : h.objs.size ≤ a) (new : ObjOk P w (upd H a o) h' a o) : HOk P w (upd H a o) h' := fun b u e => by
  have hn := x.fresh hp
  by_cases hb : b = a
  · subst hb; rw [upd_same] at e; cases e; exact new
  · rw [upd_ne hb] at e
    exact (x b u e).stay (fun c v _ q => k c v q) (fun c q => by rw [upd_ne (ne_of_none q hn)]; exact q) fun c xs q => by rw [upd_ne (ne_of_none q hn)]; exact q
end
def Rd (H : Hp) (a : Addr) (u : HO) : Prop := H a = some u ∨ ∃ o, H a = some (.frz o u)
theorem Rd.of {H : Hp} {a : Addr} {u : HO} (h : H a = some u) : Rd H a u := .inl h
theorem Rd.ok {P : Program} {w : World} {H : Hp} {h : Heap} {a : Addr} {u : HO} (r : Rd H a u) (x : HOk P w H h) : ObjOk P w H h a u := by
  rcases r with r | ⟨o, r⟩
  · exact x a u r
  · obtain ⟨_, q⟩ := x a _ r
    exact q
def Mut : Option HO → Prop
  | some (.lst _) => True
  | some (.dK _) => True
  | some (.dT _) => True
  | some (.set _ _) => True
  | some (.ins _ _ _) => True
  | some (.ext _) => True
  | _ => False
section
variable {P : Program} {w : World} {H : Hp} {h h' : Heap} {x e : Addr} {o' : HO}
theorem HOk.write (ok : HOk P w H h) (mu : Mut (H x)) (he : e = x ∨ H e = some (.own x)) (k : ∀ b u, b ≠ e → h.get? b = some u → h'.get? b = some u) (heo : ∃ u, h'.get? e = some u)
    (new : ObjOk P w (upd H x o') h' x o') : HOk P w (upd H x o') h' := fun b u q => by
  have nown : ∀ c y, H c = some (.own y) → c ≠ x := fun c y r z => by subst z; rw [r] at mu; exact mu
  have ntup : ∀ c xs, H c = some (.tup xs) → c ≠ x := fun c xs r z => by subst z; rw [r] at mu; exact mu
  by_cases hb : b = x
  · subst hb; rw [upd_same] at q; cases q; exact new
  · rw [upd_ne hb] at q
    by_cases hbe : b = e
    · have q' : H b = some (.own x) := by
        rcases he with z | z
        · exact absurd (hbe.trans z) hb
        · rw [hbe]; exact z
      rw [q] at q'; cases q'
      obtain ⟨v, hv⟩ := heo
      exact ⟨v, by rw [hbe]; exact hv⟩
    · refine (ok b u q).stay (fun c v hc r => k c v ?_ r) (fun c r => by rw [upd_ne (nown c b r)]; exact r) fun c xs r => by rw [upd_ne (ntup c xs r)]; exact r
      rcases hc with rfl | hc
      · exact hbe
      · rintro rfl
        rcases he with z | z
        · exact nown c b hc z
        · rw [hc] at z; cases z; exact hb rfl
end
structure Un (fs ex : List Addr) (H H' : Hp) (h h' : Heap) : Prop where
  keep : ∀ b o, h.get? b = some o → H b = none → b ∉ fs → b ∉ ex → h'.get? b = some o
  slot : ∀ b o, h.get? b = some o → H b = none → b ∈ fs → b ∉ ex → ∃ sl, h'.get? b = some { o with slots := sl }
  free : ∀ b o, h.get? b = some o → H b = none → b ∉ ex → H' b = none
  there : ∀ b o, h.get? b = some o → b ∉ ex → ∃ o', h'.get? b = some o'
  tups : ∀ b xs, H b = some (.tup xs) → H' b = some (.tup xs)
  frzs : ∀ b o u, H b = some (.frz o u) → H' b = some (.frz o u)
  tbls : ∀ b ps, H b = some (.tbl ps) → ∃ more, H' b = some (.tbl (ps ++ more))
section
variable {fs fs' ex ex' : List Addr} {H H1 H2 : Hp} {h h1 h2 h' : Heap} {a x e : Addr} {o : HO}
theorem Un.any (u : Un fs ex H H1 h h1) {b : Addr} {ob : Obj} (q : h.get? b = some ob) (n : H b = none) (hx : b ∉ ex) : ∃ sl, h1.get? b = some { ob with slots := sl } := by
  by_cases hb : b ∈ fs
  · exact u.slot b ob q n hb hx
  · exact ⟨ob.slots, u.keep b ob q n hb hx⟩
theorem Un.trans (a : Un fs ex H H1 h h1) (b : Un fs ex H1 H2 h1 h2) : Un fs ex H H2 h h2 where
  keep := fun c ob q n hc hx => b.keep c ob (a.keep c ob q n hc hx) (a.free c ob q n hx) hc hx
  slot := fun c ob q n hc hx => by
    obtain ⟨sl, e1⟩ := a.slot c ob q n hc hx
    obtain ⟨sl', e2⟩ := b.slot c _ e1 (a.free c ob q n hx) hc hx
    exact ⟨sl', e2⟩
  free := fun c ob q n hx => by
    obtain ⟨o', e1⟩ := a.there c ob q hx
    exact b.free c o' e1 (a.free c ob q n hx) hx
  there := fun c ob q hx => by
    obtain ⟨o', e1⟩ := a.there c ob q hx
    exact b.there c o' e1 hx
  tups := fun c xs q => b.tups c xs (a.tups c xs q)
  frzs := fun c ob xs q => b.frzs c ob xs (a.frzs c ob xs q)
  tbls := fun c ps q => by
    obtain ⟨m1, e1⟩ := a.tbls c ps q
    obtain ⟨m2, e2⟩ := b.tbls c _ e1
    exact ⟨m1 ++ m2, by rw [e2, Array.append_assoc]⟩
theorem Un.kept (k : ∀ b u, h.get? b = some u → h'.get? b = some u) : Un fs ex H H h h' :=
  ⟨fun b ob q _ _ _ => k b ob q, fun b ob q _ _ _ => ⟨ob.slots, k b ob q⟩, fun _ _ _ n _ => n, fun b ob q _ => ⟨ob, k b ob q⟩, fun _ _ q => q, fun _ _ _ q => q, fun _ ps q => ⟨#[], by rw [q]; simp⟩⟩
theorem Un.refl : Un fs ex H H h h := Un.kept fun _ _ q => q
theorem Un.laid (k : ∀ b u, h.get? b = some u → h'.get? b = some u) (hp : h.objs.size ≤ a) (hn : H a = none) : Un fs ex H (upd H a o) h h' where
  keep := fun b u q _ _ _ => k b u q
  slot := fun b u q _ _ _ => ⟨u.slots, k b u q⟩
  free := fun b u q n _ => by rw [upd_ne (Nat.ne_of_lt (Nat.lt_of_lt_of_le (Heap.lt_size q) hp))]; exact n
  there := fun b u q _ => ⟨u, k b u q⟩
  tups := fun b xs q => by rw [upd_ne (ne_of_none q hn)]; exact q
  frzs := fun b u xs q => by rw [upd_ne (ne_of_none q hn)]; exact q
  tbls := fun b ps q => ⟨#[], by rw [upd_ne (ne_of_none q hn), q]; simp⟩
theorem Un.write (mu : Mut (H x)) (he : e = x ∨ H e = some (.own x)) (k : ∀ b u, b ≠ e → h.get? b = some u → h'.get? b = some u) (heo : ∃ u, h'.get? e = some u) : Un fs ex H (upd H x o) h h' := by
  have hx : ∀ b, H b = none → b ≠ x := fun b n z => by subst z; rw [n] at mu; exact mu
  have hb : ∀ b, H b = none → b ≠ e := fun b n z => by
    subst z
    rcases he with r | r
    · exact hx b n r
    · rw [n] at r; cases r
  have hm : ∀ b u, H b = some u → ¬ Mut (some u) → b ≠ x := fun b u q nm z => by subst z; rw [q] at mu; exact nm mu
  refine ⟨fun b u q n _ _ => k b u (hb b n) q, fun b u q n _ _ => ⟨u.slots, k b u (hb b n) q⟩, fun b u q n _ => by rw [upd_ne (hx b n)]; exact n, fun b u q _ => ?_,
    fun b xs q => by rw [upd_ne (hm b _ q fun z => z)]; exact q, fun b u xs q => by rw [upd_ne (hm b _ q fun z => z)]; exact q, fun b ps q => ⟨#[], by rw [upd_ne (hm b _ q fun z => z), q]; simp⟩⟩
  by_cases hbe : b = e
  · subst hbe; exact heo
  · exact ⟨u, k b u hbe q⟩
theorem Un.mono (u : Un fs ex H H1 h h1) (hs : ∀ b ∈ fs, b ∈ fs') (hx : ∀ b ∈ ex, b ∈ ex') : Un fs' ex' H H1 h h1 :=
  ⟨fun b ob q n hb he => u.keep b ob q n (fun z => hb (hs b z)) fun z => he (hx b z), fun _ _ q n _ he => u.any q n fun z => he (hx _ z), fun b ob q n he => u.free b ob q n fun z => he (hx b z), fun b ob q he => u.there b ob q fun z => he (hx b z), u.tups, u.frzs, u.tbls⟩
end
def trk (h : Heap) (H : Hp) : List Addr := (List.range h.objs.size).filter fun a => (H a).isSome
def hidT (h : Heap) (H : Hp) : Heap := PySem.W.hideAll h (trk h H)
theorem hidT_size (h : Heap) (H : Hp) : (hidT h H).objs.size = h.objs.size := PySem.W.hideAll_size _ _
theorem hidT_get {h : Heap} {H : Hp} {b : Addr} {o : Obj} (e : h.get? b = some o) (n : H b = none) : (hidT h H).get? b = some o :=
  PySem.W.hideAll_get _ e fun hm => by
    have q : (H b).isSome = true := (List.mem_filter.mp hm).2
    rw [n] at q; simp at q
theorem of_hidT {h : Heap} {H : Hp} {b : Addr} {o : Obj} (e : (hidT h H).get? b = some o) : h.get? b = some o ∧ H b = none := by
  have e' : h.get? b = some o := PySem.W.of_hideAll (trk h H) e
  refine ⟨e', ?_⟩
  cases q : H b with
  | none => rfl
  | some x =>
    have hm : b ∈ trk h H := List.mem_filter.mpr ⟨List.mem_range.mpr (Heap.lt_size e'), by simp [q]⟩
    have z : (hidT h H).get? b = none := PySem.W.hideAll_none (trk h H) hm
    rw [z] at e; cases e
def allNews (g h : Heap) (L : Addr) : List (Addr × Obj) := (List.range h.objs.size).filterMap fun a => if a = L ∨ (g.get? a).isSome = true then none else (h.get? a).map fun o => (a, o)
def rest (g h : Heap) (L d : Addr) : List (Addr × Obj) := (allNews g h L).filter fun p => decide (p.1 ≠ d)
end L2
namespace L2
open PySem PySem.Spec PyProof.Rows
structure Mod (K : PySem.W.Frag) (mg : Str → Option Value) (base : Heap) : Prop where
  kin : K.In base
  glob : base.Ns mainGlobals mg
  blt : ∃ mb, base.Ns builtinsNs mb ∧ ∀ x : Str, x ≠ "__name__" → mb x = bootBuiltins x
  nolimit : base.NoLimit
structure Cx where
  prog : Program
  w : World
  K : PySem.W.Frag
  mg : Str → Option Value
  base : Heap
  A : Around
  N : List Str
  s_0 : Shared
  H_0 : Hp
  env : Env
  outer : List Env
  stack : List Env
  ex : List Addr
  fn : Str → Bool
  calm : Bool
  pn : List (Addr × Obj)
  xe : Value → Shared → Prop
def frs (l : List Env) : List Addr := l.filterMap (·.frame)
abbrev Cx.fs (X : Cx) : List Addr := frs X.outer
def Vis (sc : Scope) (x : Str) : Prop := sc.names.lookup x = some .local ∨ sc.names.lookup x = some .cell ∨ sc.names.lookup x = some .free
def Loc (sc : Scope) (x : Str) : Prop := sc.names.lookup x = some .local ∨ sc.names.lookup x = some .cell
def Look (env : Env) (h : Heap) (m : Str → Option Value) (x : Str) (u : Value) : Prop :=
  (env.kindOf x = some .local ∧ m x = some u) ∨ ((env.kindOf x = some .cell ∨ env.kindOf x = some .free) ∧ ∃ c, env.cells.lookup x = some c ∧ h.IsCell c (some u))
structure Cx.Ok (X : Cx) : Prop where
  mod : Mod X.K X.mg X.base
  kind : X.env.scope.kind = .function
  glob : X.env.globals = mainGlobals
  blt : X.env.builtins = builtinsNs
  above : X.s_0.heap.objs.size ≤ X.env.locals
  inj : ∀ x y c, X.env.cells.lookup x = some c → X.env.cells.lookup y = some c → x = y
  has : ∀ x, (X.env.kindOf x = some .cell ∨ X.env.kindOf x = some .free) → ∃ c, X.env.cells.lookup x = some c
  cab : ∀ x c, X.fn x = true → X.env.cells.lookup x = some c → X.s_0.heap.objs.size ≤ c
  hd : X.calm = true → X.A.handled = none
  frames : X.A.frames = some X.stack
  stk : X.stack = X.outer ∨ (X.stack = X.env :: X.outer ∧ X.env.frame = some X.env.locals)
  exf : ∀ b ∈ X.ex, b ≠ X.env.locals ∧ ∀ x c, X.env.cells.lookup x = some c → c ≠ b
  bs : ∀ b o, X.base.get? b = some o → X.s_0.heap.get? b = some o ∧ X.H_0 b = none
  bsz : X.base.objs.size ≤ X.s_0.heap.objs.size
  noex : ∀ b o, X.base.get? b = some o → b ∉ X.ex
  exfs : ∀ b ∈ X.ex, b ∉ X.fs
  funs : X.s_0.heap.FunFrames X.base X.outer
  frf : ∀ b ∈ X.fs, X.H_0 b = none
structure Inv (X : Cx) (pins : List (Addr × Obj)) (σ : List (Option V)) (H : Hp) (s : Shared) : Prop where
  ok : X.Ok
  os : s.os = X.s_0.os
  bare : AllBare s.gens
  base : Un X.fs X.ex X.H_0 H X.s_0.heap s.heap
  loc : ∃ m, s.heap.Ns X.env.locals m ∧ ∀ (i : Nat) (x : Str) (v : V), X.N[i]? = some x → σ[i]? = some (some v) → Vis X.env.scope x → ∃ u, RelV v u ∧ Look X.env s.heap m x u
  cell : ∀ x c, X.env.cells.lookup x = some c → ∃ v, s.heap.IsCell c v
  free : H X.env.locals = none
  freeC : ∀ x c, X.env.cells.lookup x = some c → H c = none
  pin : ∀ p ∈ X.pn ++ pins, s.heap.get? p.1 = some p.2 ∧ H p.1 = none ∧ p.1 ≠ X.env.locals ∧ p.1 ∉ X.fs ∧ ∀ v, p.2.data ≠ .cell v
  hok : HOk X.prog X.w H s.heap
  len : σ.length = X.N.length
section
variable {X : Cx} {pins : List (Addr × Obj)} {σ : List (Option V)} {H H' : Hp} {s : Shared} {h' : Heap}
theorem Cx.Ok.nofr (ok : X.Ok) {b : Addr} {o : Obj} (e : X.base.get? b = some o) : b ∉ X.fs := fun hb => by
  have := (ok.funs.mem hb).1
  rw [e] at this; cases this
theorem Inv.bs (I : Inv X pins σ H s) : ∀ b o, X.base.get? b = some o → s.heap.get? b = some o ∧ H b = none := fun b o e =>
  ⟨I.base.keep b o (I.ok.bs b o e).1 (I.ok.bs b o e).2 (I.ok.nofr e) (I.ok.noex b o e), I.base.free b o (I.ok.bs b o e).1 (I.ok.bs b o e).2 (I.ok.noex b o e)⟩
theorem Inv.bk (I : Inv X pins σ H s) : ∀ b o, X.base.get? b = some o → s.heap.get? b = some o := fun b o e => (I.bs b o e).1
theorem Inv.mod (I : Inv X pins σ H s) : Mod X.K X.mg X.base := I.ok.mod
theorem Inv.kIn (I : Inv X pins σ H s) : X.K.In s.heap := I.ok.mod.kin.keeps I.bk
theorem Inv.nolimit (I : Inv X pins σ H s) : s.heap.NoLimit := I.ok.mod.nolimit.keeps I.bk
theorem Inv.fr (I : Inv X pins σ H s) : ∃ m, Fr X.base X.env.locals s.heap m :=
  let ⟨m, hn, _⟩ := I.loc
  ⟨m, hn, I.bk, Nat.le_trans I.ok.bsz I.ok.above⟩
theorem Inv.lt (I : Inv X pins σ H s) : X.env.locals < s.heap.objs.size := let ⟨_, hn, _⟩ := I.loc; hn.lt
theorem Inv.sz (I : Inv X pins σ H s) : X.s_0.heap.objs.size ≤ s.heap.objs.size := Nat.le_trans I.ok.above (Nat.le_of_lt I.lt)
theorem Inv.nofs (I : Inv X pins σ H s) {a : Addr} (h : s.heap.objs.size ≤ a) : a ∉ X.fs := fun hb => by
  obtain ⟨_, o, ho, _⟩ := I.ok.funs.mem hb
  exact absurd (Nat.lt_of_lt_of_le (Heap.lt_size ho) (Nat.le_trans I.sz h)) (Nat.lt_irrefl _)
theorem Inv.cne (I : Inv X pins σ H s) : ∀ x c, X.env.cells.lookup x = some c → c ≠ X.env.locals := fun x c e z => by
  obtain ⟨v, o, ho, hd⟩ := I.cell x c e
  obtain ⟨m, ⟨o', es, ep, ho', hd', _⟩, _⟩ := I.loc
  rw [z, ho'] at ho; cases ho; rw [hd'] at hd; cases hd
theorem Inv.funs (I : Inv X pins σ H s) : s.heap.FunFrames X.base X.outer := by
  have all : ∀ (l : List Env), (∀ b ∈ frs l, b ∈ X.fs) → X.s_0.heap.FunFrames X.base l → s.heap.FunFrames X.base l := by
    intro l
    induction l with
    | nil => intro _ _; trivial
    | cons env r ih =>
      intro hs hl
      obtain ⟨hk, ⟨L, o, hf, hn, ho, hd⟩, hr⟩ := hl
      have hL : L ∈ X.fs := hs L (by unfold frs; rw [List.filterMap_cons, hf]; exact List.mem_cons_self)
      obtain ⟨sl, e⟩ := I.base.slot L o ho (I.ok.frf L hL) hL fun z => I.ok.exfs L z hL
      exact ⟨hk, ⟨L, _, hf, hn, e, hd⟩, ih (fun b hb => hs b (by unfold frs; rw [List.filterMap_cons, hf]; exact List.mem_cons_of_mem _ hb)) hr⟩
  exact all X.outer (fun _ hb => hb) I.ok.funs
theorem Inv.stack (I : Inv X pins σ H s) : s.heap.FunFrames X.base X.stack := by
  rcases I.ok.stk with e | ⟨e, hf⟩
  · rw [e]; exact I.funs
  · rw [e]
    obtain ⟨m, hn, _⟩ := I.loc
    refine .cons (by rw [I.ok.kind]; decide) hf hn ?_ I.funs
    exact Heap.get?_none_of_le (Nat.le_trans I.ok.bsz I.ok.above)
theorem Inv.stkSub (I : Inv X pins σ H s) : ∀ b ∈ frs X.stack, b ∈ X.env.locals :: X.fs := fun b hb => by
  rcases I.ok.stk with e | ⟨e, hf⟩
  · rw [e] at hb; exact List.mem_cons_of_mem _ hb
  · rw [e] at hb
    unfold frs at hb
    rw [List.filterMap_cons, hf] at hb
    exact hb
theorem Inv.stkFree (I : Inv X pins σ H s) : ∀ b ∈ frs X.stack, H b = none := fun b hb => by
  rcases List.mem_cons.mp (I.stkSub b hb) with e | hb
  · rw [e]; exact I.free
  · obtain ⟨_, o, ho, _⟩ := I.ok.funs.mem hb
    exact I.base.free b o ho (I.ok.frf b hb) fun z => I.ok.exfs b z hb
theorem Inv.step {g' : Array GenState} {t' : Nat} {d' : Drawn} {ch : List Addr} (I : Inv X pins σ H s)
    (hch : ∀ b ∈ ch, (b ∈ X.ex ∨ X.s_0.heap.objs.size ≤ b) ∧ b ≠ X.env.locals ∧ (∀ x c, X.env.cells.lookup x = some c → c ≠ b) ∧ ∀ p ∈ X.pn ++ pins, p.1 ≠ b)
    (keep : ∀ b o, b ≠ X.env.locals → b ∉ X.fs → b ∉ ch → s.heap.get? b = some o → H b = none → h'.get? b = some o)
    (slot : ∀ b o, b ≠ X.env.locals → b ∈ X.fs → b ∉ ch → s.heap.get? b = some o → H b = none → ∃ sl, h'.get? b = some { o with slots := sl }) (free : ∀ b o, b ∉ ch → s.heap.get? b = some o → H b = none → H' b = none)
    (there : ∀ b o, b ∉ ch → s.heap.get? b = some o → ∃ o', h'.get? b = some o')
    (tups : ∀ b xs, H b = some (.tup xs) → H' b = some (.tup xs)) (frzs : ∀ b o u, H b = some (.frz o u) → H' b = some (.frz o u)) (tbls : ∀ b ps, H b = some (.tbl ps) → ∃ more, H' b = some (.tbl (ps ++ more)))
    (ns : ∀ m, s.heap.Ns X.env.locals m → h'.Ns X.env.locals m) (hok : HOk X.prog X.w H' h') (hg : AllBare g') :
    Inv X pins σ H' { s with heap := h', gens := g', drawn := d', toks := t' } := by
  have neL : ∀ b o, X.s_0.heap.get? b = some o → b ≠ X.env.locals := fun b o e => Nat.ne_of_lt (Nat.lt_of_lt_of_le (Heap.lt_size e) I.ok.above)
  have neC : ∀ b o, X.s_0.heap.get? b = some o → b ∉ X.ex → b ∉ ch := fun b o e hx hb => by
    rcases (hch b hb).1 with z | z
    · exact hx z
    · exact absurd (Nat.lt_of_lt_of_le (Heap.lt_size e) z) (Nat.lt_irrefl _)
  have cellK : ∀ x c, X.env.cells.lookup x = some c → ∀ v, s.heap.IsCell c v → h'.IsCell c v := fun x c e v ⟨o, ho, hd⟩ => by
    have nch : c ∉ ch := fun z => (hch c z).2.2.1 x c e rfl
    by_cases hc : c ∈ X.fs
    · obtain ⟨sl, q⟩ := slot c o (I.cne x c e) hc nch ho (I.freeC x c e)
      exact ⟨_, q, hd⟩
    · exact ⟨o, keep c o (I.cne x c e) hc nch ho (I.freeC x c e), hd⟩
  refine ⟨I.ok, I.os, hg, ⟨fun b o e n hb hx => ?_, fun b o e n hb hx => ?_, fun b o e n hx => ?_, fun b o e hx => ?_, fun b xs e => tups b xs (I.base.tups b xs e), fun b o xs e => frzs b o xs (I.base.frzs b o xs e), fun b ps e => ?_⟩, ?_, fun x c e => ?_, ?_, fun x c e => ?_, fun p hp => ?_, hok, I.len⟩
  · exact keep b o (neL b o e) hb (neC b o e hx) (I.base.keep b o e n hb hx) (I.base.free b o e n hx)
  · obtain ⟨sl, e1⟩ := I.base.slot b o e n hb hx
    obtain ⟨sl', e2⟩ := slot b _ (neL b o e) hb (neC b o e hx) e1 (I.base.free b o e n hx)
    exact ⟨sl', e2⟩
  · obtain ⟨o', e1⟩ := I.base.there b o e hx
    exact free b o' (neC b o e hx) e1 (I.base.free b o e n hx)
  · obtain ⟨o', e1⟩ := I.base.there b o e hx
    exact there b o' (neC b o e hx) e1
  · obtain ⟨m1, e1⟩ := I.base.tbls b ps e
    obtain ⟨m2, e2⟩ := tbls b _ e1
    exact ⟨m1 ++ m2, by rw [e2, Array.append_assoc]⟩
  · obtain ⟨m, hn, hl⟩ := I.loc
    refine ⟨m, ns m hn, fun i x v e1 e2 e3 => ?_⟩
    obtain ⟨u, r, l⟩ := hl i x v e1 e2 e3
    refine ⟨u, r, ?_⟩
    rcases l with l | ⟨k, c, e, z⟩
    · exact .inl l
    · exact .inr ⟨k, c, e, cellK x c e _ z⟩
  · obtain ⟨v, z⟩ := I.cell x c e
    exact ⟨v, cellK x c e v z⟩
  · obtain ⟨m, ⟨o, _, _, ho, _⟩, _⟩ := I.loc
    exact free _ o (fun z => (hch _ z).2.1 rfl) ho I.free
  · obtain ⟨v, o, ho, hd⟩ := I.cell x c e
    exact free c o (fun z => (hch c z).2.2.1 x c e rfl) ho (I.freeC x c e)
  · obtain ⟨e, n, ne, nf, d⟩ := I.pin p hp
    have nch : p.1 ∉ ch := fun z => (hch p.1 z).2.2.2 p hp rfl
    exact ⟨keep p.1 p.2 ne nf nch e n, free p.1 p.2 nch e n, ne, nf, d⟩
theorem Inv.un {t' : Nat} (I : Inv X pins σ H s) (u : Un X.fs [] H H' s.heap h') (hok : HOk X.prog X.w H' h') : Inv X pins σ H' { s with heap := h', toks := t' } := by
  obtain ⟨m, ⟨o, es, ep, ho, r⟩, _⟩ := id I.loc
  obtain ⟨sl, hL⟩ := u.any ho I.free (by simp)
  exact I.step (g' := s.gens) (d' := s.drawn) (ch := []) (fun _ z => nomatch z) (fun b o _ hb _ e n => u.keep b o e n hb (by simp)) (fun b o _ hb _ e n => u.slot b o e n hb (by simp)) (fun b o _ e n => u.free b o e n (by simp)) (fun b o _ e => u.there b o e (by simp)) u.tups u.frzs u.tbls (fun m' hm => by
    obtain ⟨o', es', ep', ho', r'⟩ := hm
    rw [ho] at ho'; cases ho'
    exact ⟨_, es', ep', hL, r'⟩) hok I.bare
theorem Inv.call {g' : Array GenState} {t' : Nat} {d' : Drawn} {ch : List Addr} (I : Inv X pins σ H s) (u : Un (frs X.stack) ch H H' s.heap h') (hok : HOk X.prog X.w H' h') (hg : AllBare g')
    (hch : ∀ b ∈ ch, (b ∈ X.ex ∨ X.s_0.heap.objs.size ≤ b) ∧ b ≠ X.env.locals ∧ (∀ x c, X.env.cells.lookup x = some c → c ≠ b) ∧ ∀ p ∈ X.pn ++ pins, p.1 ≠ b) :
    Inv X pins σ H' { s with heap := h', gens := g', drawn := d', toks := t' } := by
  obtain ⟨m, ⟨o, es, ep, ho, r⟩, _⟩ := id I.loc
  obtain ⟨sl, hL⟩ := u.any ho I.free fun z => (hch _ z).2.1 rfl
  exact I.step (ch := ch) hch (fun b o hL hb hc e n => u.keep b o e n (fun z => (List.mem_cons.mp (I.stkSub b z)).elim hL hb) hc) (fun b o _ _ hc e n => u.any e n hc) (fun b o hc e n => u.free b o e n hc) (fun b o hc e => u.there b o e hc) u.tups u.frzs u.tbls (fun m' hm => by
    obtain ⟨o', es', ep', ho', r'⟩ := hm
    rw [ho] at ho'; cases ho'
    exact ⟨_, es', ep', hL, r'⟩) hok hg
theorem Inv.turned {t' : Nat} {it : Addr} (I : Inv X pins σ H s) (k : ∀ b o, b ≠ it → s.heap.get? b = some o → h'.get? b = some o) (hn : H it = none) (hL : it ≠ X.env.locals)
    (h1 : it ∈ X.ex ∨ X.s_0.heap.objs.size ≤ it) (h2 : ∀ x c, X.env.cells.lookup x = some c → c ≠ it) (h3 : ∀ p ∈ X.pn ++ pins, p.1 ≠ it) : Inv X pins σ H { s with heap := h', toks := t' } := by
  have nit : ∀ b u, H b = some u → b ≠ it := fun b u e z => by rw [z, hn] at e; cases e
  refine I.step (g' := s.gens) (d' := s.drawn) (ch := [it]) (fun b hb => ?_) (fun b o _ _ hc e _ => k b o (fun z => hc (by simp [z])) e) (fun b o _ _ hc e _ => ⟨o.slots, k b o (fun z => hc (by simp [z])) e⟩) (fun _ _ _ _ n => n)
    (fun b o hc e => ⟨o, k b o (fun z => hc (by simp [z])) e⟩) (fun _ _ e => e) (fun _ _ _ e => e) (fun b ps e => ⟨#[], by rw [e]; simp⟩) (fun m hm => ?_) (fun b u e => ?_) I.bare
  · have e : b = it := by simpa using hb
    subst e
    exact ⟨h1, hL, h2, h3⟩
  · obtain ⟨o, es, ep, ho, r⟩ := hm
    exact ⟨o, es, ep, k _ o (Ne.symm hL) ho, r⟩
  · refine (I.hok b u e).stay (fun c v hc q => k c v ?_ q) (fun _ q => q) fun _ _ q => q
    rcases hc with z | z
    · rw [z]; exact nit b u e
    · exact nit c _ z
theorem Inv.tok (I : Inv X pins σ H s) (t : Nat) : Inv X pins σ H { s with toks := t } := I.un (h' := s.heap) (t' := t) Un.refl I.hok
theorem Inv.kept {t' : Nat} (I : Inv X pins σ H s) (k : ∀ b u, s.heap.get? b = some u → h'.get? b = some u) : Inv X pins σ H { s with heap := h', toks := t' } := I.un (Un.kept k) (I.hok.kept k)
theorem Inv.laid {a : Addr} {o : HO} {t' : Nat} (I : Inv X pins σ H s) (k : ∀ b u, s.heap.get? b = some u → h'.get? b = some u) (hp : s.heap.objs.size ≤ a) (new : ObjOk X.prog X.w (upd H a o) h' a o) :
    Inv X pins σ (upd H a o) { s with heap := h', toks := t' } := I.un (Un.laid k hp (I.hok.fresh hp)) (I.hok.laid k hp new)
theorem Inv.write {x e : Addr} {o : HO} {t' : Nat} (I : Inv X pins σ H s) (mu : Mut (H x)) (he : e = x ∨ H e = some (.own x)) (k : ∀ b u, b ≠ e → s.heap.get? b = some u → h'.get? b = some u) (heo : ∃ u, h'.get? e = some u)
    (new : ObjOk X.prog X.w (upd H x o) h' x o) : Inv X pins σ (upd H x o) { s with heap := h', toks := t' } := I.un (Un.write mu he k heo) (I.hok.write mu he k heo new)
theorem Inv.weak {σ' : List (Option V)} (I : Inv X pins σ H s) (hl : σ'.length = σ.length) (w : ∀ (i : Nat) v, σ'[i]? = some (some v) → σ[i]? = some (some v)) : Inv X pins σ' H s :=
  ⟨I.ok, I.os, I.bare, I.base, let ⟨m, hn, hl'⟩ := I.loc; ⟨m, hn, fun i x v e1 e2 e3 => hl' i x v e1 (w i v e2) e3⟩, I.cell, I.free, I.freeC, I.pin, I.hok, hl.trans I.len⟩
theorem Inv.pins_of {pins' : List (Addr × Obj)} (I : Inv X pins σ H s) (h : ∀ p ∈ pins', s.heap.get? p.1 = some p.2 ∧ H p.1 = none ∧ p.1 ≠ X.env.locals ∧ p.1 ∉ X.fs ∧ ∀ v, p.2.data ≠ .cell v) : Inv X pins' σ H s :=
  ⟨I.ok, I.os, I.bare, I.base, I.loc, I.cell, I.free, I.freeC, fun p hp => (List.mem_append.mp hp).elim (fun z => I.pin p (List.mem_append_left _ z)) (h p), I.hok, I.len⟩
theorem nodup_ix {N : List Str} (hN : N.Nodup) {i j : Nat} {x : Str} (a : N[i]? = some x) (b : N[j]? = some x) : i = j := by
  obtain ⟨h1, e1⟩ := List.getElem?_eq_some_iff.mp a
  obtain ⟨h2, e2⟩ := List.getElem?_eq_some_iff.mp b
  exact (List.getElem_inj hN).mp (e1.trans e2.symm)
theorem store_ok2 {M : Model} {A : Around} {E : Value → Shared → Prop} {i : Nat} {x : Str} {v : V} {u : Value} {Q : Unit → Shared → Prop} (I : Inv X pins σ H s) (hN : X.N.Nodup) (hi : X.N[i]? = some x) (hx : Loc X.env.scope x) (r : RelV v u)
    (h : ∀ s', Inv X pins (σ.set i (some v)) H s' → (∃ a, Heap.SameBut a s.heap s'.heap ∧ (a = X.env.locals ∨ X.env.cells.lookup x = some a)) → Q () s') (hf : X.fn x = true ∨ X.env.scope.names.lookup x = some .local := by first | exact .inl rfl | exact .inr rfl | assumption) : wpAny M A (storeName X.env x u) Q E s := by
  obtain ⟨m, hn, hl⟩ := id I.loc
  have hcls : (X.env.scope.kind == .class || (X.env.scope.kind == .module && X.env.locals != X.env.globals)) = false := by rw [I.ok.kind]; rfl
  have hiσ : i < σ.length := by rw [I.len]; exact (List.getElem?_eq_some_iff.mp hi).1
  have cne := I.cne
  have tracked : ∀ {a : Addr} {h' : Heap}, (∃ o, s.heap.get? a = some o ∧ H a = none) → Heap.SameBut a s.heap h' → HOk X.prog X.w H h' := fun {a h'} ha hs b ob e => by
    obtain ⟨_, _, hfree⟩ := ha
    refine (I.hok b ob e).stay (fun c w' hc q => (hs.2 c ?_).trans q) (fun _ q => q) fun _ _ q => q
    rintro rfl
    rcases hc with rfl | hc
    · rw [hfree] at e; cases e
    · rw [hfree] at hc; cases hc
  rcases hx with hk | hk
  · refine wpAny_storeName_local hk hn (fun h' hn' hs => ?_) hcls
    obtain ⟨oL, _, _, hoL, _⟩ := id hn
    refine h _ ⟨I.ok, I.os, I.bare, ⟨fun b o e n hb hx => ?_, fun b o e n hb hx => ?_, I.base.free, fun b o e hx => ?_, I.base.tups, I.base.frzs, I.base.tbls⟩, ⟨_, hn', fun j y v' e1 e2 e3 => ?_⟩, fun y c e => ?_, I.free, I.freeC, fun p hp => ?_, tracked ⟨oL, hoL, I.free⟩ hs, by simpa using I.len⟩ ⟨_, hs, .inl rfl⟩
    · exact (hs.2 b (Nat.ne_of_lt (Nat.lt_of_lt_of_le (Heap.lt_size e) I.ok.above))).trans (I.base.keep b o e n hb hx)
    · obtain ⟨sl, e1⟩ := I.base.slot b o e n hb hx
      exact ⟨sl, (hs.2 b (Nat.ne_of_lt (Nat.lt_of_lt_of_le (Heap.lt_size e) I.ok.above))).trans e1⟩
    · obtain ⟨o', e1⟩ := I.base.there b o e hx
      exact ⟨o', (hs.2 b (Nat.ne_of_lt (Nat.lt_of_lt_of_le (Heap.lt_size e) I.ok.above))).trans e1⟩
    · by_cases hj : j = i
      · subst hj
        rw [hi] at e1; cases e1
        rw [List.getElem?_set_self hiσ] at e2
        cases e2
        exact ⟨u, r, .inl ⟨hk, by simp⟩⟩
      · rw [List.getElem?_set_ne (Ne.symm hj)] at e2
        obtain ⟨u', r', q⟩ := hl j y v' e1 e2 e3
        refine ⟨u', r', ?_⟩
        rcases q with ⟨k, e⟩ | ⟨k, c, e, z⟩
        · refine .inl ⟨k, ?_⟩
          have : y ≠ x := fun e => hj (nodup_ix hN e1 (e ▸ hi))
          simp [this, e]
        · exact .inr ⟨k, c, e, z.sameBut hs (cne y c e)⟩
    · obtain ⟨w', z⟩ := I.cell y c e
      exact ⟨w', z.sameBut hs (cne y c e)⟩
    · obtain ⟨e, n, ne, nf, d⟩ := I.pin p hp
      exact ⟨(hs.2 p.1 ne).trans e, n, ne, nf, d⟩
  · have hfn : X.fn x = true := by
      rcases hf with z | z
      · exact z
      · rw [z] at hk; cases hk
    obtain ⟨c, hc⟩ := I.ok.has x (.inl hk)
    obtain ⟨w', z⟩ := I.cell x c hc
    refine wpAny_storeName_cell I.ok.kind hk hc z (fun h' hc' hs => ?_)
    obtain ⟨oc, hoc, hocd⟩ := id z
    refine h { s with heap := h' } ⟨I.ok, I.os, I.bare, ⟨fun b o e n hb hx => ?_, fun b o e n hb hx => ?_, I.base.free, fun b o e hx => ?_, I.base.tups, I.base.frzs, I.base.tbls⟩, ⟨m, hn.sameBut hs (Ne.symm (cne x c hc)), fun j y v' e1 e2 e3 => ?_⟩, fun y c' e => ?_, I.free, I.freeC, fun p hp => ?_, tracked ⟨oc, hoc, I.freeC x c hc⟩ hs, by simpa using I.len⟩ ⟨c, hs, .inr hc⟩
    · exact (hs.2 b (Nat.ne_of_lt (Nat.lt_of_lt_of_le (Heap.lt_size e) (I.ok.cab x c hfn hc)))).trans (I.base.keep b o e n hb hx)
    · obtain ⟨sl, e1⟩ := I.base.slot b o e n hb hx
      exact ⟨sl, (hs.2 b (Nat.ne_of_lt (Nat.lt_of_lt_of_le (Heap.lt_size e) (I.ok.cab x c hfn hc)))).trans e1⟩
    · obtain ⟨o', e1⟩ := I.base.there b o e hx
      exact ⟨o', (hs.2 b (Nat.ne_of_lt (Nat.lt_of_lt_of_le (Heap.lt_size e) (I.ok.cab x c hfn hc)))).trans e1⟩
    · by_cases hj : j = i
      · subst hj
        rw [hi] at e1; cases e1
        rw [List.getElem?_set_self hiσ] at e2
        cases e2
        exact ⟨u, r, .inr ⟨.inl hk, c, hc, hc'⟩⟩
      · rw [List.getElem?_set_ne (Ne.symm hj)] at e2
        obtain ⟨u', r', q⟩ := hl j y v' e1 e2 e3
        refine ⟨u', r', ?_⟩
        rcases q with q | ⟨k, c', e, z'⟩
        · exact .inl q
        · refine .inr ⟨k, c', e, z'.sameBut hs ?_⟩
          rintro rfl
          exact hj (nodup_ix hN e1 (I.ok.inj _ _ _ e hc ▸ hi))
    · by_cases hcc : c' = c
      · subst hcc; exact ⟨_, hc'⟩
      · obtain ⟨w2, z2⟩ := I.cell y c' e
        exact ⟨w2, z2.sameBut hs hcc⟩
    · obtain ⟨e, n, ne, nf, d⟩ := I.pin p hp
      refine ⟨(hs.2 p.1 ?_).trans e, n, ne, nf, d⟩
      intro q
      rw [q, hoc] at e
      have q' : oc = p.2 := Option.some.inj e
      exact d w' (by rw [← q']; exact hocd)
theorem store_ok {M : Model} {A : Around} {E : Value → Shared → Prop} {i : Nat} {x : Str} {v : V} {u : Value} {Q : Unit → Shared → Prop} (I : Inv X pins σ H s) (hN : X.N.Nodup) (hi : X.N[i]? = some x) (hx : Loc X.env.scope x) (r : RelV v u)
    (h : ∀ s', Inv X pins (σ.set i (some v)) H s' → Q () s') (hf : X.fn x = true ∨ X.env.scope.names.lookup x = some .local := by first | exact .inl rfl | exact .inr rfl | assumption) : wpAny M A (storeName X.env x u) Q E s :=
  store_ok2 I hN hi hx r (fun s' I' _ => h s' I') hf
theorem Inv.call' {s' : Shared} {ch : List Addr} (I : Inv X pins σ H s) (ho : s'.os = s.os) (u : Un (frs X.stack) ch H H' s.heap s'.heap) (hok : HOk X.prog X.w H' s'.heap) (hg : AllBare s'.gens)
    (hch : ∀ b ∈ ch, (b ∈ X.ex ∨ X.s_0.heap.objs.size ≤ b) ∧ b ≠ X.env.locals ∧ (∀ x c, X.env.cells.lookup x = some c → c ≠ b) ∧ ∀ p ∈ X.pn ++ pins, p.1 ≠ b) : Inv X pins σ H' s' := by
  obtain ⟨h', g', d', t', o'⟩ := s'
  have e : o' = s.os := ho
  subst e
  exact I.call (g' := g') (t' := t') (d' := d') u hok hg hch
end
abbrev XK := Value → Option Addr → Hp → Prop
abbrev St := List (Option V)
abbrev VK := V → Hp → Prop
abbrev TE := St → Hp → VK → Prop
abbrev TT := St → Hp → (Bool → Hp → Prop) → Prop
abbrev TA := St → Hp → (List V → Hp → Prop) → Prop
structure Ends where
  nx : St → Hp → Prop
  rt : VK
  bk : St → Hp → Prop := fun _ _ => False
  ct : St → Hp → Prop := fun _ _ => False
abbrev TS := Ends → St → Hp → Prop
def EP (X : Cx) (pins : List (Addr × Obj)) (σ : St) (Q : VK) (u : Value) (s' : Shared) : Prop := ∃ v H', Inv X pins σ H' s' ∧ RelV v u ∧ Q v H'
def TP (X : Cx) (pins : List (Addr × Obj)) (σ : St) (Q : Bool → Hp → Prop) (b : Bool) (s' : Shared) : Prop := ∃ H', Inv X pins σ H' s' ∧ Q b H'
def AP (X : Cx) (pins : List (Addr × Obj)) (σ : St) (Q : List V → Hp → Prop) (us : List Value) (s' : Shared) : Prop := ∃ vs H', Inv X pins σ H' s' ∧ Vals vs us ∧ Q vs H'
def SP (X : Cx) (pins : List (Addr × Obj)) (D : Ends) (f : Flow) (s' : Shared) : Prop :=
  match f with
  | .next => ∃ σ' H', Inv X pins σ' H' s' ∧ D.nx σ' H'
  | .brk => ∃ σ' H', Inv X pins σ' H' s' ∧ D.bk σ' H'
  | .cont => ∃ σ' H', Inv X pins σ' H' s' ∧ D.ct σ' H'
  | .ret u => ∃ v σ' H', Inv X pins σ' H' s' ∧ RelV v u ∧ D.rt v H'
def PE (X : Cx) (e : Expr) (t : TE) : Prop :=
  ∀ (pins : List (Addr × Obj)) (s : Shared) (σ : St) (H : Hp) (Q : VK), Inv X pins σ H s → t σ H Q → wpAny (model X.prog X.w) X.A (eval e X.env) (EP X pins σ Q) X.xe s
def PT (X : Cx) (e : Expr) (t : TT) : Prop :=
  ∀ (pins : List (Addr × Obj)) (s : Shared) (σ : St) (H : Hp) (Q : Bool → Hp → Prop), Inv X pins σ H s → t σ H Q → wpAny (model X.prog X.w) X.A (isTrue e X.env (eval e X.env)) (TP X pins σ Q) X.xe s
def PW (X : Cx) (e : Expr) (t : TT) : Prop :=
  ∀ (whole : Sem Value) (pins : List (Addr × Obj)) (s : Shared) (σ : St) (H : Hp) (Q : Bool → Hp → Prop), Inv X pins σ H s → t σ H Q → wpAny (model X.prog X.w) X.A (isTrue e X.env whole) (TP X pins σ Q) X.xe s
theorem PW.pt {X : Cx} {e : Expr} {t : TT} (h : PW X e t) : PT X e t := h _
def PA (X : Cx) (es : List Expr) (t : TA) : Prop :=
  ∀ (pos : Pos) (pins : List (Addr × Obj)) (s : Shared) (σ : St) (H : Hp) (Q : List V → Hp → Prop), Inv X pins σ H s → t σ H Q → wpAny (model X.prog X.w) X.A (spliced (backTo pos (starEach es X.env))) (AP X pins σ Q) X.xe s
def PS (X : Cx) (st : Stmt) (t : TS) : Prop :=
  ∀ (pins : List (Addr × Obj)) (s : Shared) (σ : St) (H : Hp) (D : Ends), Inv X pins σ H s → t D σ H → wpAny (model X.prog X.w) X.A (exec st X.env) (SP X pins D) X.xe s
def PSs (X : Cx) (st : List Stmt) (t : TS) : Prop :=
  ∀ (pins : List (Addr × Obj)) (s : Shared) (σ : St) (H : Hp) (D : Ends), Inv X pins σ H s → t D σ H → wpAny (model X.prog X.w) X.A (execs st X.env) (SP X pins D) X.xe s
theorem thn {α : Type} {t : Sem α} {Q Q' : α → Shared → Prop} {M : Model} {A : Around} {E : Value → Shared → Prop} {s : Shared} (h : wpAny M A t Q E s) (hQ : ∀ a s, Q a s → Q' a s) : wpAny M A t Q' E s := wpAny_mono h hQ fun _ _ x => x
end L2
namespace L2
open PySem PySem.Spec PyProof.Rows
section
variable {X : Cx}
def tVar (i : Nat) : TE := fun σ H Q => ∃ v, σ[i]? = some (some v) ∧ Q v H
def tC (v : V) : TE := fun _ H Q => Q v H
theorem pe_var {i : Nat} {x : Str} {pos : Pos} (hN : X.N[i]? = some x) (hv : Vis X.env.scope x) (hd : (x == ("__debug__" : Str)) = false := by decide) (hcd : (x == ("__classdict__" : Str)) = false := by decide) : PE X (.Name x pos) (tVar i) := by
  intro pins s σ H Q I h
  obtain ⟨v, e, h⟩ := h
  obtain ⟨m, hn, hl⟩ := I.loc
  obtain ⟨u, r, l⟩ := hl i x v hN e hv
  have fin : EP X pins σ Q u s := ⟨v, H, I, r, h⟩
  rcases l with ⟨hk, hm⟩ | ⟨hk, c, hc, hcell⟩
  · exact wpAny_Name (wpAny_loadName_local I.ok.kind hk hn hm fin) hd
  · rcases hk with hk | hk
    · exact wpAny_Name (wpAny_loadName_cell I.ok.kind hk hc hcell fin) hd
    · exact wpAny_Name (wpAny_loadName_free I.ok.kind hk hc hcell fin hcd) hd
theorem pe_int {i j pos} : PE X (.Constant (.int i) j pos) (tC (.int i)) := fun _ _ _ H _ I h => wpAny_Constant_int ⟨.int i, H, I.tok _, ⟨_, rfl⟩, h⟩
theorem pe_bl {b j pos} : PE X (.Constant (.bool b) j pos) (tC (.bl b)) := fun _ _ _ H _ I h => Constant_bool ⟨.bl b, H, I, rfl, h⟩
theorem pe_non {j pos} : PE X (.Constant .none j pos) (tC .non) := fun _ _ _ H _ I h => Constant_none ⟨.non, H, I, rfl, h⟩
def Gl (X : Cx) (x : Str) : Prop := X.env.kindOf x = some .globalImplicit
theorem ld_glob {E : Value → Shared → Prop} {pins : List (Addr × Obj)} {s : Shared} {σ : St} {H : Hp} {x : Str} {u : Value} {pos : Pos} {Q : Value → Shared → Prop} (I : Inv X pins σ H s) (hg : Gl X x) (hm : X.mg x = some u) (h : Q u s)
    (hd : (x == ("__debug__" : Str)) = false := by decide) : wpAny (model X.prog X.w) X.A (eval (.Name x pos) X.env) Q E s :=
  Calls.Name_function_global I.ok.kind hg (Calls.loadGlobal_global (by rw [I.ok.glob]; exact I.mod.glob.keeps I.bk) hm h) hd
theorem ld_blt {E : Value → Shared → Prop} {pins : List (Addr × Obj)} {s : Shared} {σ : St} {H : Hp} {x : Str} {u : Value} {pos : Pos} {Q : Value → Shared → Prop} (I : Inv X pins σ H s) (hg : Gl X x) (hm : X.mg x = none) (hv : bootBuiltins x = some u) (h : Q u s)
    (hn : x ≠ "__name__" := by decide) (hd : (x == ("__debug__" : Str)) = false := by decide) : wpAny (model X.prog X.w) X.A (eval (.Name x pos) X.env) Q E s := by
  obtain ⟨mb, h1, h2⟩ := I.mod.blt
  exact Calls.Name_function_global I.ok.kind hg (Calls.loadGlobal_builtin (by rw [I.ok.glob]; exact I.mod.glob.keeps I.bk) hm (by rw [I.ok.blt]; exact h1.keeps I.bk) ((h2 x hn).trans hv) h) hd
theorem pe_glob {x : Str} {v : V} {u : Value} {pos : Pos} (hg : Gl X x) (hm : X.mg x = some u) (r : RelV v u) (hd : (x == ("__debug__" : Str)) = false := by decide) : PE X (.Name x pos) (tC v) :=
  fun _ _ _ H _ I h => ld_glob I hg hm ⟨v, H, I, r, h⟩ hd
variable {a b : Expr} {ta tb : TE} {pos : Pos}
def PC (X : Cx) (op : CmpOp) (a b : Expr) (t : TE) : Prop :=
  ∀ (pins : List (Addr × Obj)) (s : Shared) (σ : St) (H : Hp) (Q : VK), Inv X pins σ H s → t σ H Q →
    wpAny (model X.prog X.w) X.A (eval a X.env) (fun v s₁ => wpAny (model X.prog X.w) X.A (eval b X.env) (fun u s₂ => wpAny (model X.prog X.w) X.A (compareOp op v u) (EP X pins σ Q) X.xe s₂) X.xe s₁) X.xe s
theorem nobehind (b : Expr) {op : CmpOp} (h : op ≠ .In) (h2 : op ≠ .NotIn) : behindInMarks op b = false := by
  have e1 : (op == CmpOp.In) = false := by cases op <;> first | rfl | exact absurd rfl h
  have e2 : (op == CmpOp.NotIn) = false := by cases op <;> first | rfl | exact absurd rfl h2
  cases b <;> simp [behindInMarks, e1, e2]
def tIsN (ta : TE) : TE := fun σ H Q => ta σ H fun x H1 => Q (.bl (decide (x = .non))) H1
def tNotN (ta : TE) : TE := fun σ H Q => ta σ H fun x H1 => Q (.bl (!decide (x = .non))) H1
theorem RelV.none_iff {x : V} {v : Value} (r : RelV x v) : (v == Value.none) = decide (x = .non) := by
  cases x with
  | non => cases r; rfl
  | bl _ => cases r; rfl
  | int _ => obtain ⟨t, rfl⟩ := r; rfl
  | str _ => obtain ⟨t, rfl⟩ := r; rfl
  | byt _ => obtain ⟨t, rfl⟩ := r; rfl
  | flt _ => obtain ⟨t, rfl⟩ := r; rfl
  | ref _ => cases r; rfl
  | ty _ => cases r; rfl
theorem pc_isN {j pos'} (ha : PE X a ta) : PC X .Is a (.Constant .none j pos') (tIsN ta) := by
  intro pins s σ H Q I h
  refine thn (ha pins s σ H _ I h) fun v s1 ⟨x, H1, I1, r1, q1⟩ => ?_
  exact Constant_none (is_none_gen ⟨.bl _, H1, I1, by rw [r1.none_iff]; rfl, q1⟩)
theorem pc_notN {j pos'} (ha : PE X a ta) : PC X .IsNot a (.Constant .none j pos') (tNotN ta) := by
  intro pins s σ H Q I h
  refine thn (ha pins s σ H _ I h) fun v s1 ⟨x, H1, I1, r1, q1⟩ => ?_
  exact Constant_none (isnot_none_gen ⟨.bl _, H1, I1, by rw [r1.none_iff]; rfl, q1⟩)
def tB (t : TE) : TT := fun σ H Q => t σ H fun x H1 => ∃ c, x = .bl c ∧ Q c H1
theorem pe_cmp {op : CmpOp} {t : TE} (h : PC X op a b t) (h1 : behindInMarks op b = false := by first | exact nobehind _ (by decide) (by decide) | rfl) : PE X (.Compare a [op] [b] pos) t := fun pins s σ H Q I hw => wpAny_Compare1 (h pins s σ H Q I hw) h1
theorem pt_cmp {op : CmpOp} {t : TE} (h : PC X op a b t) (h1 : behindInMarks op b = false := by first | exact nobehind _ (by decide) (by decide) | rfl) : PT X (.Compare a [op] [b] pos) (tB t) := by
  intro pins s σ H Q I hw
  refine wpAny_isTrue_Compare1 (thn (h pins s σ H _ I hw) fun v s1 h1 => thn h1 fun u s2 h2 => thn h2 fun c s3 ⟨x, H1, I1, r1, q1⟩ => ?_) h1
  obtain ⟨d, rfl, q⟩ := q1
  cases r1
  exact wpAny_truthy_bool ⟨H1, I1, q⟩
theorem pt_val {e : Expr} {t : TE} (h : PE X e t) (he : ∀ whole, isTrue e X.env whole = (do let v ← whole; standAt e.pos; holding [v] (truthy v)) := by intro _; rfl) : PT X e (tB t) := by
  intro pins s σ H Q I hw
  refine isTrue_plain (thn (h pins s σ H _ I hw) fun v s1 ⟨x, H1, I1, r1, q1⟩ => ?_) (he _)
  obtain ⟨d, rfl, q⟩ := q1
  cases r1
  exact wpAny_truthy_bool ⟨H1, I1, q⟩
variable {tA tB' : TT} {rest : List Expr}
def tAnd (t u : TT) : TT := fun σ H Q => t σ H fun c H1 => if c = true then u σ H1 Q else Q false H1
def tOr (t u : TT) : TT := fun σ H Q => t σ H fun c H1 => if c = true then Q true H1 else u σ H1 Q
def tNot (t : TT) : TT := fun σ H Q => t σ H fun c H1 => Q (!c) H1
theorem pw_and1 (ha : PT X a tA) : PW X (.BoolOp .And [a] pos) tA := by
  intro wh pins s σ H Q I h
  refine isTrue_and (thn (ha pins s σ H Q I h) fun c s1 e => ?_)
  cases c with
  | true => exact isTrue_and_nil e
  | false => exact e
theorem pw_or1 (ha : PT X a tA) : PW X (.BoolOp .Or [a] pos) tA := by
  intro wh pins s σ H Q I h
  refine isTrue_or (thn (ha pins s σ H Q I h) fun c s1 e => ?_)
  cases c with
  | false => exact isTrue_or_nil e
  | true => exact e
theorem pw_and (ha : PT X a tA) (hb : PW X (.BoolOp .And (b :: rest) pos) tB') : PW X (.BoolOp .And (a :: b :: rest) pos) (tAnd tA tB') := by
  intro wh pins s σ H Q I h
  refine isTrue_and (thn (ha pins s σ H _ I h) fun c s1 ⟨H1, I1, q1⟩ => ?_)
  cases c with
  | true => exact hb wh pins s1 σ H1 Q I1 q1
  | false => exact ⟨H1, I1, q1⟩
theorem pw_or (ha : PT X a tA) (hb : PW X (.BoolOp .Or (b :: rest) pos) tB') : PW X (.BoolOp .Or (a :: b :: rest) pos) (tOr tA tB') := by
  intro wh pins s σ H Q I h
  refine isTrue_or (thn (ha pins s σ H _ I h) fun c s1 ⟨H1, I1, q1⟩ => ?_)
  cases c with
  | true => exact ⟨H1, I1, q1⟩
  | false => exact hb wh pins s1 σ H1 Q I1 q1
theorem pt_not (ha : PT X a tA) : PT X (.UnaryOp .Not a pos) (tNot tA) := by
  intro pins s σ H Q I h
  exact isTrue_not (ha pins s σ H (fun c H1 => Q (!c) H1) I h)
def tAndV (ta tb : TE) : TE := fun σ H Q => ta σ H fun x H1 => ∃ c, x = .bl c ∧ if c = true then tb σ H1 Q else Q (.bl false) H1
def tOrV (ta tb : TE) : TE := fun σ H Q => ta σ H fun x H1 => ∃ c, x = .bl c ∧ if c = true then Q (.bl true) H1 else tb σ H1 Q
def tNotV (ta : TE) : TE := fun σ H Q => ta σ H fun x H1 => ∃ c, x = .bl c ∧ Q (.bl (!c)) H1
theorem pe_one {op} {t : TE} (h : PE X a t) : PE X (.BoolOp op [a] pos) t := fun pins s σ H Q I hw => BoolOp_one (h pins s σ H Q I hw)
theorem pe_and (ha : PE X a ta) (hb : PE X (.BoolOp .And (b :: rest) pos) tb) : PE X (.BoolOp .And (a :: b :: rest) pos) (tAndV ta tb) := by
  intro pins s σ H Q I h
  refine BoolOp_and (thn (ha pins s σ H _ I h) fun v s1 ⟨x, H1, I1, r1, q1⟩ => ?_)
  obtain ⟨c, rfl, q1⟩ := q1
  cases r1
  refine wpAny_truthy_bool ?_
  cases c with
  | true => exact hb pins s1 σ H1 Q I1 q1
  | false => exact ⟨.bl false, H1, I1, rfl, q1⟩
theorem pe_or (ha : PE X a ta) (hb : PE X (.BoolOp .Or (b :: rest) pos) tb) : PE X (.BoolOp .Or (a :: b :: rest) pos) (tOrV ta tb) := by
  intro pins s σ H Q I h
  refine BoolOp_or (thn (ha pins s σ H _ I h) fun v s1 ⟨x, H1, I1, r1, q1⟩ => ?_)
  obtain ⟨c, rfl, q1⟩ := q1
  cases r1
  refine wpAny_truthy_bool ?_
  cases c with
  | false => exact hb pins s1 σ H1 Q I1 q1
  | true => exact ⟨.bl true, H1, I1, rfl, q1⟩
def tIf (t : TT) (ta tb : TE) : TE := fun σ H Q => t σ H fun c H1 => if c = true then ta σ H1 Q else tb σ H1 Q
theorem pe_ifExp {c : Expr} (hc : PT X c tA) (ha : PE X a ta) (hb : PE X b tb) : PE X (.IfExp c a b pos) (tIf tA ta tb) := by
  intro pins s σ H Q I h
  refine wpAny_IfExp (thn (hc pins s σ H _ I h) fun d s1 ⟨H1, I1, q1⟩ => ?_)
  cases d with
  | true => exact ha pins s1 σ H1 Q I1 q1
  | false => exact hb pins s1 σ H1 Q I1 q1
end
end L2
namespace L2
open PySem PySem.Spec PyProof.Rows
def SqL (K : PySem.W.Frag) (H : Hp) (a : Addr) (xs : List V) : Prop :=
  Rd H a (.lst xs) ∨
    ∃ (o : Obj) (its : Array Value) (n : Nat), K.lookup a = some o ∧ o.cls = .type "list" ∧ o.dict = none ∧ o.data = .seq its n ∧ its.size ≤ sizeLine ∧ Vals xs its.toList
def SqT (K : PySem.W.Frag) (H : Hp) (a : Addr) (xs : List V) : Prop :=
  Rd H a (.tup xs) ∨
    ∃ (o : Obj) (its : Array Value) (n : Nat), K.lookup a = some o ∧ o.cls = .type "tuple" ∧ o.data = .seq its n ∧ its.size ≤ sizeLine ∧ Vals xs its.toList
def absV : Value → Option V
  | .none => some .non
  | .bool b => some (.bl b)
  | .int i _ => some (.int i)
  | .str x _ => some (.str x)
  | .bytes b _ => some (.byt b)
  | .float b _ => some (.flt b)
  | .ref a => some (.ref a)
  | .type n => some (.ty n)
  | _ => none
theorem RelV.abs {x : V} {u : Value} (r : RelV x u) : absV u = some x := by
  cases x with
  | non => cases r; rfl
  | bl _ => cases r; rfl
  | int _ => obtain ⟨t, rfl⟩ := r; rfl
  | str _ => obtain ⟨t, rfl⟩ := r; rfl
  | byt _ => obtain ⟨t, rfl⟩ := r; rfl
  | flt _ => obtain ⟨t, rfl⟩ := r; rfl
  | ref _ => cases r; rfl
  | ty _ => cases r; rfl
theorem RelV.inj {x y : V} {u : Value} (r : RelV x u) (q : RelV y u) : x = y := Option.some.inj (r.abs.symm.trans q.abs)
theorem Vals.inj : ∀ {xs ys : List V} {us : List Value}, Vals xs us → Vals ys us → xs = ys
  | _, _, _, .nil, .nil => rfl
  | _, _, _, .cons r t, .cons r' t' => by rw [r.inj r', Vals.inj t t']
section
variable {X : Cx} {pins : List (Addr × Obj)} {σ : St} {H : Hp} {s : Shared} {a : Addr} {xs ys : List V}
theorem SqL.of {K : PySem.W.Frag} (h : H a = some (.lst xs)) : SqL K H a xs := .inl (.inl h)
theorem SqT.of {K : PySem.W.Frag} (h : H a = some (.tup xs)) : SqT K H a xs := .inl (.inl h)
theorem Inv.list (I : Inv X pins σ H s) (h : SqL X.K H a xs) : ∃ its : List Value, Vals xs its ∧ PlainL s.heap a its.toArray ∧ xs.length ≤ sizeLine := by
  rcases h with h | ⟨o, its, n, hk, hc, hd, hs, hz, r⟩
  · obtain ⟨z, its, n, r, e⟩ := h.ok I.hok
    exact ⟨its, r, ⟨_, n, e, rfl, rfl, rfl⟩, z⟩
  · refine ⟨its.toList, r, ⟨o, n, I.kIn a o hk, hc, hd, by simpa using hs⟩, ?_⟩
    have e := r.length
    simp only [Array.length_toList] at e
    omega
theorem Inv.tuple (I : Inv X pins σ H s) (h : SqT X.K H a xs) : ∃ its : List Value, Vals xs its ∧ IsTup s.heap a its.toArray ∧ xs.length ≤ sizeLine := by
  rcases h with h | ⟨o, its, n, hk, hc, hs, hz, r⟩
  · obtain ⟨z, its, r, p⟩ := h.ok I.hok
    exact ⟨its, r, p, z⟩
  · refine ⟨its.toList, r, ⟨o, I.kIn a o hk, hc, n, by simpa using hs⟩, ?_⟩
    have e := r.length
    simp only [Array.length_toList] at e
    omega
theorem Inv.list_inj (I : Inv X pins σ H s) (h : SqL X.K H a xs) (h' : SqL X.K H a ys) : xs = ys := by
  obtain ⟨its, r, ⟨o, n, e, _, _, d⟩, _⟩ := I.list h
  obtain ⟨its', r', ⟨o', n', e', _, _, d'⟩, _⟩ := I.list h'
  rw [e] at e'; cases e'
  rw [d] at d'
  injection d' with d1 _
  have : its = its' := by simpa using congrArg Array.toList d1
  subst this
  exact r.inj r'
end
abbrev Cx.wish (X : Cx) (E : Value → Shared → Prop) : Cx := { X with xe := E }
abbrev Cx.nox (X : Cx) : Cx := X.wish fun _ _ => False
theorem Cx.Ok.wish {X : Cx} (ok : X.Ok) (E : Value → Shared → Prop) : (X.wish E).Ok :=
  ⟨ok.mod, ok.kind, ok.glob, ok.blt, ok.above, ok.inj, ok.has, ok.cab, ok.hd, ok.frames, ok.stk, ok.exf, ok.bs, ok.bsz, ok.noex, ok.exfs, ok.funs, ok.frf⟩
theorem Cx.Ok.unwish {X : Cx} {E : Value → Shared → Prop} (ok : (X.wish E).Ok) : X.Ok :=
  ⟨ok.mod, ok.kind, ok.glob, ok.blt, ok.above, ok.inj, ok.has, ok.cab, ok.hd, ok.frames, ok.stk, ok.exf, ok.bs, ok.bsz, ok.noex, ok.exfs, ok.funs, ok.frf⟩
section
variable {X : Cx} {pins : List (Addr × Obj)} {σ : St} {H : Hp} {s : Shared} {E : Value → Shared → Prop}
theorem Inv.wish (I : Inv X pins σ H s) (E : Value → Shared → Prop) : Inv (X.wish E) pins σ H s := ⟨I.ok.wish E, I.os, I.bare, I.base, I.loc, I.cell, I.free, I.freeC, I.pin, I.hok, I.len⟩
theorem Inv.unwish (I : Inv (X.wish E) pins σ H s) : Inv X pins σ H s := ⟨I.ok.unwish, I.os, I.bare, I.base, I.loc, I.cell, I.free, I.freeC, I.pin, I.hok, I.len⟩
theorem SP.unwish {D : Ends} {f : Flow} {s' : Shared} (h : SP (X.wish E) pins D f s') : SP X pins D f s' := by
  cases f with
  | next => obtain ⟨σ', H', I, q⟩ := h; exact ⟨σ', H', I.unwish, q⟩
  | brk => obtain ⟨σ', H', I, q⟩ := h; exact ⟨σ', H', I.unwish, q⟩
  | cont => obtain ⟨σ', H', I, q⟩ := h; exact ⟨σ', H', I.unwish, q⟩
  | ret u => obtain ⟨v, σ', H', I, r, q⟩ := h; exact ⟨v, σ', H', I.unwish, r, q⟩
theorem PE.nox {e : Expr} {t : TE} (h : PE X.nox e t) : PE X e t := fun pins s σ H Q I hw =>
  wpAny_mono (h pins s σ H Q (I.wish _) hw) (fun _ _ ⟨v, H', I', r, q⟩ => ⟨v, H', I'.unwish, r, q⟩) fun _ _ z => False.elim z
theorem PT.nox {e : Expr} {t : TT} (h : PT X.nox e t) : PT X e t := fun pins s σ H Q I hw =>
  wpAny_mono (h pins s σ H Q (I.wish _) hw) (fun _ _ ⟨H', I', q⟩ => ⟨H', I'.unwish, q⟩) fun _ _ z => False.elim z
theorem PSs.nox {st : List Stmt} {t : TS} (h : PSs X.nox st t) : PSs X st t := fun pins s σ H D I hw =>
  wpAny_mono (h pins s σ H D (I.wish _) hw) (fun _ _ q => q.unwish) fun _ _ z => False.elim z
end
section
variable {X : Cx} {st : Stmt} {rest : List Stmt} {t u : TS} {e : Expr} {te : TE} {pos : Pos}
def tNext : TS := fun D σ H => D.nx σ H
def tSeq (t u : TS) : TS := fun D σ H => t { D with nx := u D } σ H
theorem pss_nil : PSs X [] tNext := fun _ _ σ H _ I h => wpAny_execs_nil ⟨σ, H, I, h⟩
theorem pss_cons (h1 : PS X st t) (h2 : PSs X rest u) : PSs X (st :: rest) (tSeq t u) := by
  intro pins s σ H D I h
  refine wpAny_execs_cons (thn (h1 pins s σ H { D with nx := u D } I h) fun f s1 q => ?_)
  cases f with
  | next =>
    obtain ⟨σ', H', I', q⟩ := q
    exact h2 pins s1 σ' H' D I' q
  | ret v => exact q
  | brk => exact q
  | cont => exact q
theorem pss_one (h1 : PS X st t) : PSs X [st] t := by
  intro pins s σ H D I h
  refine wpAny_execs_cons (thn (h1 pins s σ H D I h) fun f s1 q => ?_)
  cases f with
  | next => exact wpAny_execs_nil q
  | ret v => exact q
  | brk => exact q
  | cont => exact q
def tCont : TS := fun D σ H => D.ct σ H
theorem ps_continue : PS X (.Continue pos) tCont := fun _ _ σ H _ I h => wpAny_Continue ⟨σ, H, I, h⟩
theorem Inv.quiet {pins : List (Addr × Obj)} {σ : St} {H : Hp} {s : Shared} (I : Inv X pins σ H s) : interactive X.env = false := by simp [interactive, I.ok.kind]
def tDrop (te : TE) : TS := fun D σ H => te σ H fun _ H1 => D.nx σ H1
theorem ps_expr (he : PE X e te) (hs : swapsWith e none pos.line X.env = pure false := by rfl) : PS X (.Expr e pos) (tDrop te) := by
  intro pins s σ H D I h
  exact wpAny_Expr_any (thn (he pins s σ H _ I h) fun v s1 ⟨x, H1, I1, r1, q1⟩ => ⟨σ, H1, I1, q1⟩) I.quiet hs
def tRet (te : TE) : TS := fun D σ H => te σ H D.rt
theorem ps_ret (he : PE X e te) : PS X (.Return (some e) pos) (tRet te) := by
  intro pins s σ H D I h
  exact wpAny_Return_some (thn (he pins s σ H _ I h) fun v s1 ⟨x, H1, I1, r1, q1⟩ => ⟨x, σ, H1, I1, r1, q1⟩)
def tRetN : TS := fun D _ H => D.rt .non H
def tIfS (c : TT) (t u : TS) : TS := fun D σ H => c σ H fun b H1 => if b = true then t D σ H1 else u D σ H1
theorem ps_if {c : Expr} {a b : List Stmt} {tc : TT} (hc : PT X c tc) (ha : PSs X a t) (hb : PSs X b u) : PS X (.If c a b pos) (tIfS tc t u) := by
  intro pins s σ H D I h
  refine wpAny_If (thn (hc pins s σ H _ I h) fun d s1 ⟨H1, I1, q1⟩ => ?_)
  cases d with
  | true => exact ha pins s1 σ H1 D I1 q1
  | false => exact hb pins s1 σ H1 D I1 q1
def tNever : TS := fun _ _ _ => False
theorem ps_never : PS X st tNever := fun _ _ _ _ _ _ h => h.elim
end
abbrev TG := V → St → Hp → (St → Hp → Prop) → Prop
abbrev TGs := List V → St → Hp → (St → Hp → Prop) → Prop
def PG (X : Cx) (target : Expr) (t : TG) : Prop :=
  ∀ (pins : List (Addr × Obj)) (s : Shared) (σ : St) (H : Hp) (v : V) (u : Value) (Q : St → Hp → Prop), Inv X pins σ H s → RelV v u → t v σ H Q →
    wpAny (model X.prog X.w) X.A (assign target X.env u) (fun _ s' => ∃ σ' H', Inv X pins σ' H' s' ∧ Q σ' H') X.xe s
def PGs (X : Cx) (ts : List Expr) (t : TGs) : Prop :=
  ∀ (pins : List (Addr × Obj)) (s : Shared) (σ : St) (H : Hp) (vs : List V) (us : List Value) (Q : St → Hp → Prop), Inv X pins σ H s → Vals vs us → t vs σ H Q →
    wpAny (model X.prog X.w) X.A (assignInOrder ((assignEach ts X.env).map (·.2)) us) (fun _ s' => ∃ σ' H', Inv X pins σ' H' s' ∧ Q σ' H') X.xe s
abbrev TSet := V → V → V → Hp → (Hp → Prop) → Prop
def PSet (X : Cx) (t : TSet) : Prop :=
  ∀ (pins : List (Addr × Obj)) (s : Shared) (σ : St) (H : Hp) (o i v : V) (ov iv u : Value) (Q : Hp → Prop), Inv X pins σ H s → RelV o ov → RelV i iv → RelV v u → t o i v H Q →
    wpAny (model X.prog X.w) X.A (setItem ov iv u) (fun _ s' => ∃ H', Inv X pins σ H' s' ∧ Q H') X.xe s
section
variable {X : Cx} {pos : Pos}
def gName (i : Nat) : TG := fun v σ H Q => Q (σ.set i (some v)) H
theorem pg_name {i : Nat} {x : Str} (hN : X.N.Nodup) (hi : X.N[i]? = some x) (hx : Loc X.env.scope x) (hf : X.fn x = true ∨ X.env.scope.names.lookup x = some .local := by first | exact .inl rfl | exact .inr rfl | assumption) : PG X (.Name x pos) (gName i) := by
  intro pins s σ H v u Q I r h
  exact wpAny_assign_Name (store_ok I hN hi hx r (fun s' I' => ⟨_, H, I', h⟩) hf)
def gNil : TGs := fun vs σ H Q => vs = [] ∧ Q σ H
def gCons (t : TG) (u : TGs) : TGs := fun vs σ H Q => ∃ v r, vs = v :: r ∧ t v σ H fun σ' H' => u r σ' H' Q
theorem pgs_nil : PGs X [] gNil := by
  intro pins s σ H vs us Q I r h
  obtain ⟨e, h⟩ := h
  subst e
  cases r
  exact assignInOrder_nil ⟨σ, H, I, h⟩
theorem pgs_cons {e : Expr} {es : List Expr} {t : TG} {u : TGs} (h1 : PG X e t) (h2 : PGs X es u)
    (hs : (assignEach (e :: es) X.env).map (·.2) = assign e X.env :: (assignEach es X.env).map (·.2) := by rfl) : PGs X (e :: es) (gCons t u) := by
  intro pins s σ H vs us Q I r h
  obtain ⟨v, vr, e1, h⟩ := h
  subst e1
  cases r with
  | cons r rr =>
    rw [hs]
    refine assignInOrder_cons (thn (h1 pins s σ H _ _ _ I r h) fun _ s1 ⟨σ1, H1, I1, q1⟩ => ?_)
    exact h2 pins s1 σ1 H1 _ _ Q I1 rr q1
def gTup (K : PySem.W.Frag) (n : Nat) (t : TGs) : TG := fun v σ H Q => ∃ a xs, v = .ref a ∧ SqT K H a xs ∧ xs.length = n ∧ t xs σ H Q
theorem pg_tup {es : List Expr} {k : Nat} {t : TGs} {n : Nat} (hc : X.calm = true) (h : PGs X es t)
    (hn : (assignEach es X.env).length = n := by rfl) (hst : (assignEach es X.env).findIdx? (·.1) = none := by rfl) : PG X (.Tuple es k pos) (gTup X.K n t) := by
  intro pins s σ H v u Q I r hw
  obtain ⟨a, xs, e1, hq, hl, hw⟩ := hw
  subst e1
  cases r
  obtain ⟨its, rv, ht, hz⟩ := I.tuple hq
  refine assign_Tuple_tuple (I.ok.hd hc) ht (by simp [hn, ← hl, rv.length]) hst fun h' hx => ?_
  have I1 : Inv X pins σ H { s with heap := h' } := I.kept (t' := s.toks) fun b o e => hx b o (Nat.ne_of_lt (Heap.lt_size e)) e
  exact h pins _ σ H xs _ Q I1 (by simpa using rv) hw
def gSub (to ti : TE) (t : TSet) : TG := fun v σ H Q => to σ H fun o H1 => ti σ H1 fun i H2 => t o i v H2 fun H3 => Q σ H3
theorem pg_sub {o i : Expr} {to ti : TE} {t : TSet} (ho : PE X o to) (hi : PE X i ti) (hs : PSet X t)
    (ha : ∀ v, assign (.Subscript o i pos) X.env v = (do
      let ov ← holding [v] (eval o X.env)
      let iv ← holding [v, ov] (eval i X.env)
      standAt pos
      holding [v, ov, iv] (setItem ov iv v)
      release [v, ov, iv] []) := by intro _; rfl) : PG X (.Subscript o i pos) (gSub to ti t) := by
  intro pins s σ H v u Q I r h
  rw [ha]
  refine wpAny_bind (wpAny_holding (thn (ho pins s σ H _ I h) fun ov s1 ⟨x, H1, I1, r1, q1⟩ => ?_))
  refine wpAny_bind (wpAny_holding (thn (hi pins s1 σ H1 _ I1 q1) fun iv s2 ⟨y, H2, I2, r2, q2⟩ => ?_))
  refine wpAny_bind (wpAny_standAt (wpAny_bind (wpAny_holding (thn (hs pins s2 σ H2 x y v ov iv u _ I2 r1 r2 r q2) fun _ s3 ⟨H3, I3, q3⟩ => ?_))))
  exact wpAny_release ⟨σ, H3, I3, q3⟩
def tAsg (te : TE) (g : TG) : TS := fun D σ H => te σ H fun x H1 => g x σ H1 D.nx
theorem ps_asg {tg e : Expr} {te : TE} {g : TG} (he : PE X e te) (hg : PG X tg g) (hs : swapsWithSole [tg] e pos.line X.env = pure false := by rfl) (hw : swappedStores [tg] e X.env = pure none := by rfl)
    (h1 : (assignEach [tg] X.env).map (·.2) = [assign tg X.env] := by rfl) : PS X (.Assign [tg] e pos) (tAsg te g) := by
  intro pins s σ H D I h
  refine wpAny_Assign_stores (thn (he pins s σ H _ I h) fun v s1 ⟨x, H1, I1, r1, q1⟩ => ?_) hs hw
  rw [h1]
  exact thn (hg pins s1 σ H1 x v _ I1 r1 q1) fun _ s2 q => q
theorem ps_set {i : Nat} {x : Str} {e : Expr} {te : TE} {pos' : Pos} (hN : X.N.Nodup) (hi : X.N[i]? = some x) (hx : Loc X.env.scope x) (he : PE X e te) (hs : swapsWith e (some (.Name x pos')) pos.line X.env = pure false := by rfl) (hf : X.fn x = true ∨ X.env.scope.names.lookup x = some .local := by first | exact .inl rfl | exact .inr rfl | assumption) :
    PS X (.Assign [.Name x pos'] e pos) (tAsg te (gName i)) := by
  intro pins s σ H D I h
  refine wpAny_Assign_Name (thn (he pins s σ H _ I h) fun v s1 ⟨y, H1, I1, r1, q1⟩ => ?_) hs
  exact store_ok I1 hN hi hx r1 (fun s2 I2 => ⟨_, H1, I2, q1⟩) hf
end
section
variable {X : Cx} {pos : Pos}
def tWhile (c : TT) (tb : TS) : TS := fun D σ H => ∃ W : Nat → St → Hp → Prop, (∃ m, W m σ H) ∧ ∀ m σ H, W m σ H →
  c σ H fun b H1 => if b = true then ∃ N : St → Hp → Prop, (∀ σ' H', N σ' H' → ∃ m', m' < m ∧ W m' σ' H') ∧ tb { D with nx := N, ct := N, bk := D.nx } σ H1 else D.nx σ H1
theorem ps_while {c : Expr} {body : List Stmt} {tc : TT} {tb : TS} (hp : PassesOwn (model X.prog X.w) X.A X.env X.xe) (hc : PT X c tc) (hb : PSs X body tb) : PS X (.While c body [] pos) (tWhile tc tb) := by
  intro pins s σ H D I h
  obtain ⟨W, ⟨m0, w0⟩, turn⟩ := h
  refine wpAny_While (codeAny_whileLoop (fun n s' => ∃ σ' H', Inv X pins σ' H' s' ∧ W n σ' H') ?_ m0 ⟨σ, H, I, w0⟩)
  rintro n s1 ⟨σ1, H1, I1, w1⟩
  refine wpAny_passesOwn hp (thn (hc pins s1 σ1 H1 _ I1 (turn n σ1 H1 w1)) fun b s2 ⟨H2, I2, q2⟩ => ?_)
  cases b with
  | true =>
    obtain ⟨N, hN, q2⟩ := q2
    rw [if_pos rfl]
    refine wpAny_passesOwn hp (thn (hb pins s2 σ1 H2 _ I2 q2) fun f s3 q3 => ?_)
    cases f with
    | next =>
      obtain ⟨σ3, H3, I3, n3⟩ := q3
      obtain ⟨m', hm, w3⟩ := hN σ3 H3 n3
      exact ⟨m', hm, σ3, H3, I3, w3⟩
    | cont =>
      obtain ⟨σ3, H3, I3, n3⟩ := q3
      obtain ⟨m', hm, w3⟩ := hN σ3 H3 n3
      exact ⟨m', hm, σ3, H3, I3, w3⟩
    | brk => exact q3
    | ret v => exact q3
  | false =>
    rw [if_neg Bool.false_ne_true]
    exact wpAny_execs_nil ⟨σ1, H2, I2, q2⟩
end
structure It where
  go : Nat → Hp → Prop
  yld : Nat → Hp → V → Hp → Prop
  stop : Nat → Hp → Prop
def FpOk (X : Cx) (pins : List (Addr × Obj)) (H : Hp) (b : Addr) : Prop :=
  H b = none ∧ b ≠ X.env.locals ∧ b ∉ X.fs ∧ (b ∈ X.ex ∨ X.s_0.heap.objs.size ≤ b) ∧ (∀ x c, X.env.cells.lookup x = some c → c ≠ b) ∧ ∀ p ∈ X.pn ++ pins, p.1 ≠ b
theorem Inv.fpOk {X : Cx} {pins : List (Addr × Obj)} {σ : St} {H H' : Hp} {s : Shared} {b : Addr} (I : Inv X pins σ H s) (hb : s.heap.objs.size ≤ b) (hn : H' b = none) : FpOk X pins H' b := by
  refine ⟨hn, Nat.ne_of_gt (Nat.lt_of_lt_of_le I.lt hb), I.nofs hb, .inr (Nat.le_trans I.sz hb), fun x c e z => ?_, fun p hp z => ?_⟩
  · obtain ⟨v, q⟩ := I.cell x c e
    exact absurd (Nat.lt_of_lt_of_le q.lt (by rw [z]; exact hb)) (Nat.lt_irrefl _)
  · exact absurd (Nat.lt_of_lt_of_le (Heap.lt_size (I.pin p hp).1) (by rw [z]; exact hb)) (Nat.lt_irrefl _)
structure Turn (P : Program) (w : World) (K : PySem.W.Frag) (tg : Expr) (J : It) (fp : List Addr) (it : Addr) (tn : Nat → Heap → Prop) : Prop where
  mem : it ∈ fp
  obj : ∀ i h, tn i h → ∀ b ∈ fp, ∃ o, h.get? b = some o ∧ ∀ v, o.data ≠ .cell v
  keep : ∀ i h h', tn i h → (∀ b ∈ fp, ∀ o, h.get? b = some o → h'.get? b = some o) → tn i h'
  item : ∀ (X : Cx), X.prog = P → X.w = w → X.K = K → X.calm = true → ∀ (i : Nat) (pins : List (Addr × Obj)) (s : Shared) (σ : St) (H : Hp) (E : Value → Shared → Prop), Inv X pins σ H s → (∀ b ∈ fp, FpOk X pins H b) → tn i s.heap → J.go i H →
    wpAny (model P w) X.A (pyNext (.ref it)) (fun r s1 => ∃ u, r = some u ∧
      wpAny (model P w) X.A (letOwnedTupleGo tg (.ref it) u) (fun _ s2 => ∃ x H', Inv X pins σ H' s2 ∧ RelV x u ∧ J.yld i H x H' ∧ tn (i + 1) s2.heap ∧ ∀ b ∈ fp, H' b = none) E s1) E s
  done : ∀ (X : Cx), X.prog = P → X.w = w → X.K = K → X.calm = true → ∀ (i : Nat) (pins : List (Addr × Obj)) (s : Shared) (σ : St) (H : Hp) (E : Value → Shared → Prop), Inv X pins σ H s → (∀ b ∈ fp, FpOk X pins H b) → tn i s.heap → J.stop i H →
    wpAny (model P w) X.A (pyNext (.ref it)) (fun r s1 => r = none ∧ Inv X pins σ H s1) E s
  self : ∀ (A : Around) (i : Nat) (s : Shared) (Q : Value → Shared → Prop) (E : Value → Shared → Prop), tn i s.heap → Q (.ref it) s → wpAny (model P w) A (pyIter (.ref it)) Q E s
abbrev TI := St → Hp → (It → Hp → Prop) → Prop
def PIE (X : Cx) (pins : List (Addr × Obj)) (σ : St) (tg : Expr) (R : It → Hp → Prop) (itv : Value) (s2 : Shared) : Prop :=
  ∃ (it : Addr) (fp : List Addr) (tn : Nat → Heap → Prop) (J : It) (H' : Hp), itv = .ref it ∧ Inv X pins σ H' s2 ∧ Turn X.prog X.w X.K tg J fp it tn ∧ tn 0 s2.heap ∧ (∀ b ∈ fp, FpOk X pins H' b) ∧ R J H'
def PI (X : Cx) (tg iter : Expr) (wi : TI) : Prop :=
  ∀ (pins : List (Addr × Obj)) (s : Shared) (σ : St) (H : Hp) (R : It → Hp → Prop), Inv X pins σ H s → wi σ H R →
    wpAny (model X.prog X.w) X.A (eval iter X.env) (fun v s1 => wpAny (model X.prog X.w) X.A (pyIter v) (PIE X pins σ tg R) X.xe s1) X.xe s
theorem go_of {M : Model} {A : Around} {E : Value → Shared → Prop} {s : Shared} {tg : Expr} {it : Addr} {u : Value} {o : Obj} {n : String} {vs : Array Value} {Q : Unit → Shared → Prop} (ho : s.heap.get? it = some o) (hc : o.cls = .type n) (hd : o.data = .fields vs)
    (hn : ["enumerate", "zip", "dict_itemiterator", "dict_reverseitemiterator", "odict_iterator", "itertools.zip_longest", "itertools.pairwise"].contains n = false) (hQ : Q () s) : wpAny M A (letOwnedTupleGo tg (.ref it) u) Q E s := by
  unfold letOwnedTupleGo
  cases tg <;> first
    | exact wpAny_pure hQ
    | (cases u <;> first
        | exact wpAny_pure hQ
        | (refine wpAny_bind (wpAny_load ho ?_)
           rw [hc, hd]
           show wpAny M A (if (["enumerate", "zip", "dict_itemiterator", "dict_reverseitemiterator", "odict_iterator", "itertools.zip_longest", "itertools.pairwise"].contains n && vs[0]? == some (rawInt _)) = true then _ else _) Q E s
           rw [if_neg (by intro h; rw [hn, Bool.false_and] at h; cases h)]
           exact wpAny_pure hQ))
end L2
namespace L2
open PySem PySem.Spec PyProof.Rows
section
variable {X : Cx} {tg : Expr}
def tFor (wi : TI) (g : TG) (tb : TS) : TS := fun D σ H => wi σ H fun J H1 => ∃ W : Nat → Nat → St → Hp → Prop, (∃ m, W 0 m σ H1) ∧ ∀ i m σ H, W i m σ H →
  (J.stop i H ∧ D.nx σ H) ∨ (J.go i H ∧ ∃ N : St → Hp → Prop, (∀ σ' H', N σ' H' → ∃ m', m' < m ∧ W (i + 1) m' σ' H') ∧ ∀ x H', J.yld i H x H' → g x σ H' fun σ2 H2 => tb { D with nx := N, ct := N, bk := D.nx } σ2 H2)
def pinsAt (fp : List Addr) (h : Heap) : List (Addr × Obj) := fp.filterMap fun b => (h.get? b).map fun o => (b, o)
theorem mem_pinsAt {fp : List Addr} {h : Heap} {b : Addr} {o : Obj} (hb : b ∈ fp) (e : h.get? b = some o) : (b, o) ∈ pinsAt fp h := List.mem_filterMap.mpr ⟨b, hb, by rw [e]; rfl⟩
theorem of_pinsAt {fp : List Addr} {h : Heap} {p : Addr × Obj} (hp : p ∈ pinsAt fp h) : p.1 ∈ fp ∧ h.get? p.1 = some p.2 := by
  obtain ⟨b, hb, e⟩ := List.mem_filterMap.mp hp
  cases q : h.get? b with
  | none => rw [q] at e; cases e
  | some o =>
    rw [q] at e
    have e' : (b, o) = p := Option.some.inj e
    subst e'
    exact ⟨hb, q⟩
theorem Inv.pinned {pins : List (Addr × Obj)} {σ : St} {H : Hp} {s : Shared} {fp : List Addr} (I : Inv X pins σ H s) (hf : ∀ b ∈ fp, FpOk X pins H b) (ho : ∀ b ∈ fp, ∃ o, s.heap.get? b = some o ∧ ∀ v, o.data ≠ .cell v) : Inv X (pins ++ pinsAt fp s.heap) σ H s :=
  I.pins_of fun p hp => (List.mem_append.mp hp).elim (fun z => I.pin p (List.mem_append_right _ z)) fun z => by
    obtain ⟨hb, e⟩ := of_pinsAt z
    obtain ⟨f0, f1, f2, _⟩ := hf p.1 hb
    obtain ⟨o, e', d⟩ := ho p.1 hb
    rw [e] at e'; cases e'
    exact ⟨e, f0, f1, f2, d⟩
theorem Inv.unpinned {pins pl : List (Addr × Obj)} {σ : St} {H : Hp} {s : Shared} (I : Inv X (pins ++ pl) σ H s) : Inv X pins σ H s := I.pins_of fun p hp => I.pin p (List.mem_append_right _ (List.mem_append_left _ hp))
theorem ps_for {iter : Expr} {body : List Stmt} {wi : TI} {g : TG} {tb : TS} {pos : Pos} (hp : PassesOwn (model X.prog X.w) X.A X.env X.xe) (hc : X.calm = true) (hi : PI X tg iter wi) (hg : PG X tg g) (hb : PSs X body tb)
    (hs : ∀ x, foldedSetIterable iter X.env x = pure x := by intro _; rfl) : PS X (.For tg iter body [] pos) (tFor wi g tb) := by
  intro pins s σ H D I h
  refine wpAny_For (thn (hi pins s σ H _ I h) fun v s1 h1 => thn h1 fun itv s2 h2 => ?_) hs
  obtain ⟨it, fp, tn, J, H2, e, I2, T, st2, f2, W, ⟨m0, w0⟩, turn⟩ := h2
  subst e
  -- what stays true of the iterator's objects through the loop
  have stat : ∀ {H' : Hp}, (∀ b ∈ fp, H' b = none) → ∀ b ∈ fp, FpOk X pins H' b := fun hn b hb => ⟨hn b hb, (f2 b hb).2⟩
  refine codeAny_forLoop_any (fun n s' => ∃ i σ' H', Inv X pins σ' H' s' ∧ tn i s'.heap ∧ (∀ b ∈ fp, H' b = none) ∧ W i n σ' H') ?_ m0 ⟨0, σ, H2, I2, st2, fun b hb => (f2 b hb).1, w0⟩
  rintro n s3 ⟨i, σ3, H3, I3, st3, fr3, w3⟩
  rcases turn i n σ3 H3 w3 with ⟨stop, qn⟩ | ⟨go, N, hN, step⟩
  · refine wpAny_passesOwn hp (thn (T.done X rfl rfl rfl hc i pins s3 σ3 H3 X.xe I3 (stat fr3) st3 stop) fun r s4 ⟨hr, I4⟩ => ?_)
    subst hr
    exact wpAny_execs_nil ⟨σ3, H3, I4, qn⟩
  · refine wpAny_passesOwn hp (thn (T.item X rfl rfl rfl hc i pins s3 σ3 H3 X.xe I3 (stat fr3) st3 go) fun r s4 ⟨u, hr, h4⟩ => ?_)
    subst hr
    refine wpAny_passesOwn hp (thn h4 fun _ s5 ⟨x, H5, I5, r5, y5, st5, fr5⟩ => ?_)
    have I5' := I5.pinned (stat fr5) (T.obj _ _ st5)
    refine wpAny_passesOwn hp (thn (hg _ s5 σ3 H5 x u _ I5' r5 (step x H5 y5)) fun _ s6 ⟨σ6, H6, I6, q6⟩ => ?_)
    refine wpAny_passesOwn hp (thn (hb _ s6 σ6 H6 _ I6 q6) fun f s7 q7 => ?_)
    have again : ∀ {σ7 : St} {H7 : Hp}, Inv X (pins ++ pinsAt fp s5.heap) σ7 H7 s7 → N σ7 H7 → ∃ m, m < n ∧ ∃ i σ' H', Inv X pins σ' H' s7 ∧ tn i s7.heap ∧ (∀ b ∈ fp, H' b = none) ∧ W i m σ' H' := fun {σ7 H7} I7 n7 => by
      obtain ⟨m', hm, w7⟩ := hN σ7 H7 n7
      refine ⟨m', hm, i + 1, σ7, H7, I7.unpinned, T.keep _ _ _ st5 fun b hb o e => (I7.pin (b, o) (List.mem_append_right _ (List.mem_append_right _ (mem_pinsAt hb e)))).1, fun b hb => ?_, w7⟩
      obtain ⟨o, e, d⟩ := T.obj _ _ st5 b hb
      exact (I7.pin (b, o) (List.mem_append_right _ (List.mem_append_right _ (mem_pinsAt hb e)))).2.1
    cases f with
    | next => obtain ⟨σ7, H7, I7, n7⟩ := q7; exact again I7 n7
    | cont => obtain ⟨σ7, H7, I7, n7⟩ := q7; exact again I7 n7
    | brk => obtain ⟨σ7, H7, I7, q7⟩ := q7; exact ⟨σ7, H7, I7.unpinned, q7⟩
    | ret v => obtain ⟨x7, σ7, H7, I7, r7, q7⟩ := q7; exact ⟨x7, σ7, H7, I7.unpinned, r7, q7⟩
end
end L2
namespace L2
open PySem PySem.Spec PyProof.Rows
abbrev R2 := V → V → Hp → VK → Prop
def OpR (X : Cx) (f : Value → Value → Sem Value) (r : R2) : Prop :=
  ∀ (pins : List (Addr × Obj)) (s : Shared) (σ : St) (H : Hp) (x y : V) (v u : Value) (Q : VK), Inv X pins σ H s → RelV x v → RelV y u → r x y H Q →
    wpAny (model X.prog X.w) X.A (f v u) (EP X pins σ Q) X.xe s
def UnR (X : Cx) (f : Value → Sem Value) (r : V → Hp → VK → Prop) : Prop :=
  ∀ (pins : List (Addr × Obj)) (s : Shared) (σ : St) (H : Hp) (x : V) (v : Value) (Q : VK), Inv X pins σ H s → RelV x v → r x H Q →
    wpAny (model X.prog X.w) X.A (f v) (EP X pins σ Q) X.xe s
def CallR (X : Cx) (f : Value) (r : List V → Hp → VK → Prop) : Prop :=
  ∀ (pins : List (Addr × Obj)) (s : Shared) (σ : St) (H : Hp) (xs : List V) (us : List Value) (Q : VK), Inv X pins σ H s → Vals xs us → r xs H Q →
    wpAny (model X.prog X.w) X.A (call f us) (EP X pins σ Q) X.xe s
def TruR (X : Cx) (r : V → Hp → (Bool → Hp → Prop) → Prop) : Prop :=
  ∀ (pins : List (Addr × Obj)) (s : Shared) (σ : St) (H : Hp) (x : V) (v : Value) (Q : Bool → Hp → Prop), Inv X pins σ H s → RelV x v → r x H Q →
    wpAny (model X.prog X.w) X.A (truthy v) (TP X pins σ Q) X.xe s
def tOp (r : R2) (ta tb : TE) : TE := fun σ H Q => ta σ H fun x H1 => tb σ H1 fun y H2 => r x y H2 Q
def tUn (r : V → Hp → VK → Prop) (ta : TE) : TE := fun σ H Q => ta σ H fun x H1 => r x H1 Q
def rI (C : Int → Int → Prop) (g : Int → Int → V) : R2 := fun x y H Q => ∃ i j, x = .int i ∧ y = .int j ∧ C i j ∧ Q (g i j) H
def rI0 (g : Int → Int → V) : R2 := fun x y H Q => ∃ i j, x = .int i ∧ y = .int j ∧ Q (g i j) H
def rU (g : Int → V) : V → Hp → VK → Prop := fun x H Q => ∃ i, x = .int i ∧ Q (g i) H
section
variable {X : Cx} {a b c : Expr} {ta tb tc : TE} {pos : Pos}
theorem binT (ha : PE X a ta) (hb : PE X b tb) {pins : List (Addr × Obj)} {s : Shared} {σ : St} {H : Hp} {R : V → V → Hp → Prop} (I : Inv X pins σ H s)
    (h : ta σ H fun x H1 => tb σ H1 fun y H2 => R x y H2) {Q : Value → Shared → Prop} {f : Value → Value → Sem Value}
    (hf : ∀ v u s2 x y H2, Inv X pins σ H2 s2 → RelV x v → RelV y u → R x y H2 → wpAny (model X.prog X.w) X.A (f v u) Q X.xe s2) :
    wpAny (model X.prog X.w) X.A (eval a X.env) (fun v s₁ => wpAny (model X.prog X.w) X.A (eval b X.env) (fun u s₂ => wpAny (model X.prog X.w) X.A (f v u) Q X.xe s₂) X.xe s₁) X.xe s := by
  refine thn (ha pins s σ H _ I h) fun v s1 ⟨x, H1, I1, r1, q1⟩ => ?_
  refine thn (hb pins s1 σ H1 _ I1 q1) fun u s2 ⟨y, H2, I2, r2, q2⟩ => ?_
  exact hf v u s2 x y H2 I2 r1 r2 q2
theorem pe_op {op : Operator} {r : R2} (ho : OpR X (binaryOp op) r) (ha : PE X a ta) (hb : PE X b tb) : PE X (.BinOp a op b pos) (tOp r ta tb) := by
  intro pins s σ H Q I h
  exact wpAny_BinOp (binT ha hb I h fun v u s2 x y H2 I2 rx ry q => ho pins s2 σ H2 x y v u Q I2 rx ry q)
theorem pe_un {op : UnaryOp} {r : V → Hp → VK → Prop} (ho : UnR X (unaryOp op) r) (ha : PE X a ta) : PE X (.UnaryOp op a pos) (tUn r ta) := by
  intro pins s σ H Q I h
  exact UnaryOp_ (thn (ha pins s σ H _ I h) fun v s1 ⟨x, H1, I1, r1, q1⟩ => ho pins s1 σ H1 x v Q I1 r1 q1)
theorem opI0 {f : Value → Value → Sem Value} {g : Int → Int → Int}
    (rule : ∀ (i j : Int) (t u : Tok) (s : Shared) (Q : Value → Shared → Prop) (E : Value → Shared → Prop), Q (.int (g i j) s.toks) { s with toks := s.toks + 1 } → wpAny (model X.prog X.w) X.A (f (.int i t) (.int j u)) Q E s) :
    OpR X f (rI0 fun i j => .int (g i j)) := by
  intro pins s σ H x y v u Q I rx ry h
  obtain ⟨i, j, rfl, rfl, q⟩ := h
  obtain ⟨t, rfl⟩ := rx
  obtain ⟨t', rfl⟩ := ry
  exact rule i j t t' s _ _ ⟨.int (g i j), H, I.tok _, ⟨_, rfl⟩, q⟩
theorem opB0 {f : Value → Value → Sem Value} {g : Int → Int → Bool}
    (rule : ∀ (i j : Int) (t u : Tok) (s : Shared) (Q : Value → Shared → Prop) (E : Value → Shared → Prop), Q (.bool (g i j)) s → wpAny (model X.prog X.w) X.A (f (.int i t) (.int j u)) Q E s) :
    OpR X f (rI0 fun i j => .bl (g i j)) := by
  intro pins s σ H x y v u Q I rx ry h
  obtain ⟨i, j, rfl, rfl, q⟩ := h
  obtain ⟨t, rfl⟩ := rx
  obtain ⟨t', rfl⟩ := ry
  exact rule i j t t' s _ _ ⟨.bl (g i j), H, I, rfl, q⟩
def CMul (i j : Int) : Prop := (-(2 ^ 64) < i ∧ i < 2 ^ 64) ∨ (-(2 ^ 64) < j ∧ j < 2 ^ 64)
theorem CMul.ok {i j : Int} (h : CMul i j) : IntMulOk i j := by
  rcases h with ⟨h1, h2⟩ | ⟨h1, h2⟩
  · exact .of_left (intBits_le_64 h1 h2)
  · exact .of_right (intBits_le_64 h1 h2)
theorem op_add : OpR X (binaryOp .Add) (rI0 fun i j => .int (i + j)) := opI0 fun _ _ _ _ _ _ _ q => add_int q
theorem op_sub : OpR X (binaryOp .Sub) (rI0 fun i j => .int (i - j)) := opI0 fun _ _ _ _ _ _ _ q => sub_int q
theorem op_and : OpR X (binaryOp .BitAnd) (rI0 fun i j => .int (Builtin.bitAnd i j)) := opI0 fun _ _ _ _ _ _ _ q => and_int q
theorem op_or : OpR X (binaryOp .BitOr) (rI0 fun i j => .int (Builtin.bitOr i j)) := opI0 fun _ _ _ _ _ _ _ q => or_int q
theorem unI {f : Value → Sem Value} {g : Int → Int}
    (rule : ∀ (i : Int) (t : Tok) (s : Shared) (Q : Value → Shared → Prop) (E : Value → Shared → Prop), Q (.int (g i) s.toks) { s with toks := s.toks + 1 } → wpAny (model X.prog X.w) X.A (f (.int i t)) Q E s) :
    UnR X f (rU fun i => .int (g i)) := by
  intro pins s σ H x v Q I rx h
  obtain ⟨i, rfl, q⟩ := h
  obtain ⟨t, rfl⟩ := rx
  exact rule i t s _ _ ⟨.int (g i), H, I.tok _, ⟨_, rfl⟩, q⟩
theorem un_neg : UnR X (unaryOp .USub) (rU fun i => .int (-i)) := unI fun _ _ _ _ _ q => neg_int q
end
def scal : V → V → Bool
  | .non, .non => true | .non, .int _ => true | .int _, .non => true | .non, .bl _ => true | .bl _, .non => true | .non, .str _ => true | .str _, .non => true
  | .int _, .int _ => true | .bl _, .bl _ => true | .str _, .str _ => true | .byt _, .byt _ => true
  | .int _, .str _ => true | .str _, .int _ => true | .bl _, .str _ => true | .str _, .bl _ => true
  | _, _ => false
def rEq : R2 := fun x y H Q => scal x y = true ∧ Q (.bl (decide (x = y))) H
def rNe : R2 := fun x y H Q => scal x y = true ∧ Q (.bl (!decide (x = y))) H
theorem dec_int {i j : Int} : decide (V.int i = V.int j) = (i == j) := by
  rw [Bool.eq_iff_iff]
  simp
theorem dec_bl {i j : Bool} : decide (V.bl i = V.bl j) = (i == j) := by
  rw [Bool.eq_iff_iff]
  simp
theorem dec_str {i j : Str} : decide (V.str i = V.str j) = (i == j) := by
  rw [Bool.eq_iff_iff]
  simp
theorem dec_byt {i j : Array UInt8} : decide (V.byt i = V.byt j) = (i.toList == j.toList) := by
  rw [Bool.eq_iff_iff]
  cases i
  cases j
  simp
section
variable {X : Cx} {a b c : Expr} {ta tb tc : TE} {pos : Pos}
theorem fin_bl {pins : List (Addr × Obj)} {σ : St} {H : Hp} {s : Shared} {Q : VK} {k k' : Bool} (I : Inv X pins σ H s) (q : Q (.bl k) H) (e : k = k') : EP X pins σ Q (.bool k') s := by
  subst e
  exact ⟨.bl k, H, I, rfl, q⟩
theorem op_eq : OpR X (compareOp .Eq) rEq := by
  intro pins s σ H x y v u Q I rx ry h
  obtain ⟨hs, q⟩ := h
  cases x with
  | non =>
    cases rx
    cases y with
    | non => cases ry; exact PySem.EqNone.eq_none_none (fin_bl I q (by simp))
    | bl j => cases ry; exact PySem.EqNone.eq_none_bool (fin_bl I q (by simp))
    | int j => obtain ⟨t', rfl⟩ := ry; exact PySem.EqNone.eq_none_int (fin_bl I q (by simp))
    | str j => obtain ⟨t', rfl⟩ := ry; exact PySem.EqNone.eq_none_str (fin_bl I q (by simp))
    | _ => exact absurd (show false = true from hs) Bool.false_ne_true
  | bl i =>
    cases rx
    cases y with
    | non => cases ry; exact PySem.EqNone.eq_bool_none (fin_bl I q (by simp))
    | bl j => cases ry; exact eq_bool (fin_bl I q dec_bl)
    | str j => obtain ⟨t', rfl⟩ := ry; exact PySem.EqMixed.eq_bool_str (fin_bl I q (by simp))
    | _ => exact absurd (show false = true from hs) Bool.false_ne_true
  | int i =>
    obtain ⟨t, rfl⟩ := rx
    cases y with
    | non => cases ry; exact PySem.EqNone.eq_int_none (fin_bl I q (by simp))
    | int j => obtain ⟨t', rfl⟩ := ry; exact eq_int (fin_bl I q dec_int)
    | str j => obtain ⟨t', rfl⟩ := ry; exact PySem.EqMixed.eq_int_str (fin_bl I q (by simp))
    | _ => exact absurd (show false = true from hs) Bool.false_ne_true
  | str i =>
    obtain ⟨t, rfl⟩ := rx
    cases y with
    | non => cases ry; exact PySem.EqNone.eq_str_none (fin_bl I q (by simp))
    | bl j => cases ry; exact PySem.EqMixed.eq_str_bool (fin_bl I q (by simp))
    | int j => obtain ⟨t', rfl⟩ := ry; exact PySem.EqMixed.eq_str_int (fin_bl I q (by simp))
    | str j => obtain ⟨t', rfl⟩ := ry; exact eq_str (fin_bl I q dec_str)
    | _ => exact absurd (show false = true from hs) Bool.false_ne_true
  | byt i =>
    obtain ⟨t, rfl⟩ := rx
    cases y with
    | byt j => obtain ⟨t', rfl⟩ := ry; exact PySem.W.eq_bytes (fin_bl I q dec_byt)
    | _ => exact absurd (show false = true from hs) Bool.false_ne_true
  | _ => cases y <;> exact absurd (show false = true from hs) Bool.false_ne_true
theorem op_ne : OpR X (compareOp .NotEq) rNe := by
  intro pins s σ H x y v u Q I rx ry h
  obtain ⟨hs, q⟩ := h
  cases x with
  | non =>
    cases rx
    cases y with
    | non => cases ry; exact PySem.EqNone.ne_none_none (fin_bl I q (by simp))
    | bl j => cases ry; exact PySem.EqNone.ne_none_bool (fin_bl I q (by simp))
    | int j => obtain ⟨t', rfl⟩ := ry; exact PySem.EqNone.ne_none_int (fin_bl I q (by simp))
    | str j => obtain ⟨t', rfl⟩ := ry; exact PySem.EqNone.ne_none_str (fin_bl I q (by simp))
    | _ => exact absurd (show false = true from hs) Bool.false_ne_true
  | bl i =>
    cases rx
    cases y with
    | non => cases ry; exact PySem.EqNone.ne_bool_none (fin_bl I q (by simp))
    | bl j => cases ry; exact ne_bool (fin_bl I q (congrArg not dec_bl))
    | str j => obtain ⟨t', rfl⟩ := ry; exact PySem.EqMixed.ne_bool_str (fin_bl I q (by simp))
    | _ => exact absurd (show false = true from hs) Bool.false_ne_true
  | int i =>
    obtain ⟨t, rfl⟩ := rx
    cases y with
    | non => cases ry; exact PySem.EqNone.ne_int_none (fin_bl I q (by simp))
    | int j => obtain ⟨t', rfl⟩ := ry; exact ne_int (fin_bl I q (congrArg not dec_int))
    | str j => obtain ⟨t', rfl⟩ := ry; exact PySem.EqMixed.ne_int_str (fin_bl I q (by simp))
    | _ => exact absurd (show false = true from hs) Bool.false_ne_true
  | str i =>
    obtain ⟨t, rfl⟩ := rx
    cases y with
    | non => cases ry; exact PySem.EqNone.ne_str_none (fin_bl I q (by simp))
    | bl j => cases ry; exact PySem.EqMixed.ne_str_bool (fin_bl I q (by simp))
    | int j => obtain ⟨t', rfl⟩ := ry; exact PySem.EqMixed.ne_str_int (fin_bl I q (by simp))
    | str j => obtain ⟨t', rfl⟩ := ry; exact ne_str (fin_bl I q (congrArg not dec_str))
    | _ => exact absurd (show false = true from hs) Bool.false_ne_true
  | byt i =>
    obtain ⟨t, rfl⟩ := rx
    cases y with
    | byt j => obtain ⟨t', rfl⟩ := ry; exact PySem.W.ne_bytes (fin_bl I q (congrArg not dec_byt))
    | _ => exact absurd (show false = true from hs) Bool.false_ne_true
  | _ => cases y <;> exact absurd (show false = true from hs) Bool.false_ne_true
theorem op_lt : OpR X (compareOp .Lt) (rI0 fun i j => .bl (decide (i < j))) := opB0 fun _ _ _ _ _ _ _ q => lt_int q
theorem op_le : OpR X (compareOp .LtE) (rI0 fun i j => .bl (decide (i ≤ j))) := opB0 fun _ _ _ _ _ _ _ q => le_int q
theorem op_gt : OpR X (compareOp .Gt) (rI0 fun i j => .bl (decide (j < i))) := opB0 fun _ _ _ _ _ _ _ q => gt_int q
theorem op_ge : OpR X (compareOp .GtE) (rI0 fun i j => .bl (decide (j ≤ i))) := opB0 fun _ _ _ _ _ _ _ q => ge_int q
theorem OpR.or {f : Value → Value → Sem Value} {r r' : R2} (h : OpR X f r) (h' : OpR X f r') : OpR X f (fun x y H Q => r x y H Q ∨ r' x y H Q) := by
  intro pins s σ H x y v u Q I rx ry q
  rcases q with q | q
  · exact h pins s σ H x y v u Q I rx ry q
  · exact h' pins s σ H x y v u Q I rx ry q
theorem nomark (b : Expr) {op : CmpOp} (h : op ≠ .In := by decide) (h2 : op ≠ .NotIn := by decide) : behindInMarks op b = false := by
  have e1 : (op == CmpOp.In) = false := by cases op <;> first | rfl | exact absurd rfl h
  have e2 : (op == CmpOp.NotIn) = false := by cases op <;> first | rfl | exact absurd rfl h2
  cases b <;> simp [behindInMarks, e1, e2]
theorem pe_cmpR {op : CmpOp} {r : R2} (ho : OpR X (compareOp op) r) (ha : PE X a ta) (hb : PE X b tb) (hm : behindInMarks op b = false) : PE X (.Compare a [op] [b] pos) (tOp r ta tb) := by
  intro pins s σ H Q I h
  exact wpAny_Compare1 (binT ha hb I h fun v u s2 x y H2 I2 rx ry q => ho pins s2 σ H2 x y v u Q I2 rx ry q) hm
def tTest (t : TE) : TT := fun σ H Q => t σ H fun x H' => ∃ k, x = .bl k ∧ Q k H'
theorem pt_cmpR {op : CmpOp} {r : R2} (ho : OpR X (compareOp op) r) (ha : PE X a ta) (hb : PE X b tb) (hm : behindInMarks op b = false) : PT X (.Compare a [op] [b] pos) (tTest (tOp r ta tb)) := by
  intro pins s σ H Q I h
  refine wpAny_isTrue_Compare1 (thn (ha pins s σ H _ I h) fun v s1 ⟨x, H1, I1, r1, q1⟩ => thn (hb pins s1 σ H1 _ I1 q1) fun u s2 ⟨y, H2, I2, r2, q2⟩ =>
    thn (ho pins s2 σ H2 x y v u _ I2 r1 r2 q2) fun c s3 ⟨z, H3, I3, r3, k, e, q3⟩ => ?_) hm
  subst e
  cases r3
  exact wpAny_truthy_bool ⟨H3, I3, q3⟩
def tChain (r r' : R2) (ta tb tc : TE) : TE := fun σ H Q => ta σ H fun x H1 => tb σ H1 fun y H2 => r x y H2 fun z H3 => ∃ k, z = .bl k ∧
  (if k = true then tc σ H3 fun w' H4 => r' y w' H4 Q else Q (.bl false) H3)
theorem pe_chain {op op' : CmpOp} {r r' : R2} (ho : OpR X (compareOp op) r) (ho' : OpR X (compareOp op') r') (ha : PE X a ta) (hb : PE X b tb) (hc : PE X c tc)
    (hm : lastMarks [op, op'] [b, c] = false := by with_unfolding_all rfl) : PE X (.Compare a [op, op'] [b, c] pos) (tChain r r' ta tb tc) := by
  intro pins s σ H Q I h
  refine Compare_chain (thn (ha pins s σ H _ I h) fun v s1 ⟨x, H1, I1, r1, q1⟩ => chain_link (thn (hb pins s1 σ H1 _ I1 q1) fun u s2 ⟨y, H2, I2, r2, q2⟩ =>
    thn (ho pins s2 σ H2 x y v u _ I2 r1 r2 q2) fun d s3 ⟨z, H3, I3, r3, k, e, q3⟩ => ?_)) hm
  subst e
  cases r3
  refine wpAny_truthy_bool ?_
  cases k with
  | false => exact ite_ff ⟨.bl false, H3, I3, rfl, q3⟩
  | true => exact ite_tt (chain_last (thn (hc pins s3 σ H3 _ I3 q3) fun w' s4 ⟨z', H4, I4, r4, q4⟩ => ho' pins s4 σ H4 y z' u w' Q I4 r2 r4 q4))
theorem pt_chain {op op' : CmpOp} {r r' : R2} (ho : OpR X (compareOp op) r) (ho' : OpR X (compareOp op') r') (ha : PE X a ta) (hb : PE X b tb) (hc : PE X c tc)
    (hm : lastMarks [op, op'] [b, c] = false := by with_unfolding_all rfl) : PT X (.Compare a [op, op'] [b, c] pos) (tTest (tChain r r' ta tb tc)) := by
  intro pins s σ H Q I h
  refine isTrue_chain (thn (ha pins s σ H _ I h) fun v s1 ⟨x, H1, I1, r1, q1⟩ => test_link (thn (hb pins s1 σ H1 _ I1 q1) fun u s2 ⟨y, H2, I2, r2, q2⟩ =>
    thn (ho pins s2 σ H2 x y v u _ I2 r1 r2 q2) fun d s3 ⟨z, H3, I3, r3, k, e, q3⟩ => ?_)) hm
  subst e
  cases r3
  refine wpAny_truthy_bool ?_
  cases k with
  | false =>
    obtain ⟨k', e', q'⟩ := q3
    cases e'
    exact ite_ff ⟨H3, I3, q'⟩
  | true =>
    refine ite_tt (test_last (thn (hc pins s3 σ H3 _ I3 q3) fun w' s4 ⟨z', H4, I4, r4, q4⟩ => thn (ho' pins s4 σ H4 y z' u w' _ I4 r2 r4 q4) fun d' s5 ⟨z2, H5, I5, r5, k2, e2, q5⟩ => ?_))
    subst e2
    cases r5
    exact wpAny_truthy_bool ⟨H5, I5, q5⟩
def TruV (K : PySem.W.Frag) (x : V) (H : Hp) (k : Bool) : Prop :=
  match x with
  | .non => k = false
  | .bl b => k = b
  | .int i => k = (i != 0)
  | .str y => y.length ≤ sizeLine ∧ k = ((y.length : Int) != 0)
  | .byt y => y.size ≤ sizeLine ∧ k = ((y.size : Int) != 0)
  | .ref p => (∃ xs, SqL K H p xs ∧ k = !xs.isEmpty) ∨ (∃ xs, SqT K H p xs ∧ k = !xs.isEmpty) ∨ ∃ kvs, H p = some (.dK kvs) ∧ k = !kvs.isEmpty
  | _ => False
theorem isEmpty_kv {κ : Type} {kvs : List (κ × V)} {vs : List (κ × Value)} (r : KV kvs vs) : (!vs.isEmpty) = !kvs.isEmpty := by
  cases r <;> rfl
theorem isEmpty_of {xs : List V} {its : List Value} (r : Vals xs its) : (!its.toArray.isEmpty) = !xs.isEmpty := by
  cases r <;> simp
theorem line63 : (sizeLine : Nat) < 2 ^ 63 := by rw [sizeLine_eq]; decide
theorem tru_ok : TruR X (fun x H Q => ∃ k, TruV X.K x H k ∧ Q k H) := by
  intro pins s σ H x v Q I rx h
  obtain ⟨k, e, q⟩ := h
  have hl := line63
  have hs : sizeLine = 16777216 := sizeLine_eq
  cases x with
  | non =>
    cases rx
    have e' : k = false := e
    subst e'
    exact truthy_none ⟨H, I, q⟩
  | bl b =>
    cases rx
    have e' : k = b := e
    subst e'
    exact wpAny_truthy_bool ⟨H, I, q⟩
  | int i =>
    obtain ⟨t, rfl⟩ := rx
    have e' : k = (i != 0) := e
    subst e'
    exact PySem.P.truthy_int ⟨H, I, q⟩
  | str y =>
    obtain ⟨t, rfl⟩ := rx
    obtain ⟨hy, e'⟩ : y.length ≤ sizeLine ∧ k = ((y.length : Int) != 0) := e
    subst e'
    exact PySem.P.truthy_str (by omega) ⟨H, I.tok _, q⟩
  | byt y =>
    obtain ⟨t, rfl⟩ := rx
    obtain ⟨hy, e'⟩ : y.size ≤ sizeLine ∧ k = ((y.size : Int) != 0) := e
    subst e'
    exact PySem.W.truthy_bytes (by omega) ⟨H, I.tok _, q⟩
  | ref p =>
    cases rx
    have e' : (∃ xs, SqL X.K H p xs ∧ k = !xs.isEmpty) ∨ (∃ xs, SqT X.K H p xs ∧ k = !xs.isEmpty) ∨ ∃ kvs, H p = some (.dK kvs) ∧ k = !kvs.isEmpty := e
    rcases e' with ⟨xs, hx, e'⟩ | ⟨xs, hx, e'⟩ | ⟨kvs, hx, e'⟩
    · subst e'
      obtain ⟨its, r, pl, hz⟩ := I.list hx
      have hlen := r.length
      exact wpAny_truthy_list pl.isList (by simp only [List.size_toArray]; omega) ⟨H, I.tok _, by rw [isEmpty_of r]; exact q⟩
    · subst e'
      obtain ⟨its, r, pl, hz⟩ := I.tuple hx
      have hlen := r.length
      exact truthy_tuple pl (by simp only [List.size_toArray]; omega) ⟨H, I.tok _, by rw [isEmpty_of r]; exact q⟩
    · subst e'
      obtain ⟨hz, hS, vs, r, m⟩ : kvs.length ≤ sizeLine ∧ (p == sysModules) = false ∧ ∃ vs, KV kvs vs ∧ s.heap.DictOf (mixKind X.prog X.w) p vs := I.hok p _ hx
      have hlen : kvs.length = vs.length := Paired.length r
      exact wpAny_truthy_dict hS m (by omega) ⟨H, I.tok _, by rw [isEmpty_kv r]; exact q⟩
  | _ => exact (show False from e).elim
theorem pt_truth (ha : PE X a ta) (he : ∀ whole, isTrue a X.env whole = (do let v ← whole; standAt a.pos; holding [v] (truthy v))) :
    PT X a (fun σ H Q => ta σ H fun x H' => ∃ k, TruV X.K x H' k ∧ Q k H') := by
  intro pins s σ H Q I h
  exact isTrue_plain (thn (ha pins s σ H _ I h) fun v s1 ⟨x, H1, I1, r1, q1⟩ => tru_ok pins s1 σ H1 x v Q I1 r1 q1) (he _)
theorem vals1 {x : V} {us : List Value} (r : Vals [x] us) : ∃ u, us = [u] ∧ RelV x u := by
  cases r with
  | cons r1 r2 => cases r2; exact ⟨_, rfl, r1⟩
end
end L2
namespace L2
open PySem PySem.Spec PyProof.Rows
structure ObjM (h : Heap) (x dx C : Addr) (mA : Str → Option Value) : Prop where
  obj : h.get? x = some (PySem.W.instObj C dx)
  ns : h.Ns1 dx mA
  ne : dx ≠ x
theorem lookIn_ns {h : Heap} {dx : Addr} {mA : Str → Option Value} (n : h.Ns1 dx mA) : ∃ od, h.get? dx = some od ∧ ∀ name, PySem.W.lookIn name od = some (mA name) := by
  obtain ⟨o, es, ep, ho, hd, hk, _, hm⟩ := n
  refine ⟨o, ho, fun name => ?_⟩
  have e := hm name
  unfold nsFind findBy at e
  rw [← Array.find?_toList] at e
  unfold PySem.W.lookIn
  rw [hd]
  dsimp only
  split
  · rename_i y q
    rw [q] at e
    exact congrArg some e
  · rename_i q
    rw [q] at e
    have a : es.toList.any (·.refKey) = false := by
      rw [List.any_eq_false]
      intro y hy
      obtain ⟨z, t, hkey⟩ := hk y (Array.mem_toList_iff.mp hy)
      simp [DictEntry.refKey, hkey]
    have a' : ¬ es.toList.any (·.refKey) = true := by rw [a]; exact Bool.false_ne_true
    rw [if_neg a']
    exact congrArg some e
theorem ObjM.look {h : Heap} {x dx C : Addr} {mA : Str → Option Value} (I : ObjM h x dx C mA) : ∃ od, PySem.W.InstAt h x (PySem.W.instObj C dx) C (some od) ∧ ∀ name, PySem.W.lookIn name od = some (mA name) :=
  let ⟨od, ho, hl⟩ := lookIn_ns I.ns
  ⟨od, ⟨I.obj, rfl, rfl, ho⟩, hl⟩
section
variable {prog : Program} {w : World} {A : Around} {E : Value → Shared → Prop} {s : Shared} {K : PySem.W.Frag} {x dx C f : Addr} {mA : Str → Option Value} {name : Str} {v : Value}
theorem get_map {expr : Bool} {Q : Value → Shared → Prop} (X : K.In s.heap) (I : ObjM s.heap x dx C mA) (hg : PySem.W.plainGet K C name = true) (hh : PySem.W.hasDictIn K C = true)
    (ha : PySem.W.findIn K (.ref C) name = some none) (hv : mA name = some v) (hv' : PySem.W.handedIn v = true) (h : Q v { s with toks := s.toks + 1 }) :
    wpAny (model prog w) A (getAttr (.ref x) name expr) Q E s := by
  obtain ⟨od, J, hl⟩ := I.look
  exact PySem.W.get_value X J (PySem.W.plainGet_of hg).1 (PySem.W.findObj_own hh ha rfl (by rw [hl, hv])) hv' h
theorem get_meth {pl : Sem Bool} {Q : Value × List Value → Shared → Prop} (X : K.In s.heap) (I : ObjM s.heap x dx C mA) (hg : PySem.W.plainGet K C name = true)
    (hf : PySem.W.findIn K (.ref C) name = some (some (.ref f))) (ht : PySem.W.isFn K (.ref f) = true) (hv : mA name = none) (h : Q (.ref f, [.ref x]) s) :
    wpAny (model prog w) A (getMethod (.ref x) name pl) Q E s := by
  obtain ⟨od, J, hl⟩ := I.look
  exact PySem.W.method_fn X J (PySem.W.plainGet_of hg).1 (PySem.W.plainGet_of hg).2 hf (beq_iff_eq.mp ht) (by show (PySem.W.lookIn name od).map (·.isSome) = some false; rw [hl, hv]; rfl) h
theorem set_map {ns : List Str} {Q : Unit → Shared → Prop} (X : K.In s.heap) (I : ObjM s.heap x dx C mA)
    (hs : PySem.W.findIn K (.ref C) "__setattr__" = some (some (.builtin "object.__setattr__"))) (hp : PySem.W.plainOver K C = true) (ht : PySem.W.takerIn K C name = some none) (hh : PySem.W.hasDictIn K C = true)
    (hw : PySem.Within mA ns) (hsz : ns.length ≤ sizeLine)
    (h : ∀ h', ObjM h' x dx C (fun y => if y = name then some v else mA y) → Heap.SameBut dx s.heap h' → Q () { s with heap := h', toks := s.toks + 2 }) :
    wpAny (model prog w) A (setAttr (.ref x) name v) Q E s := by
  obtain ⟨od, J, hl⟩ := I.look
  refine PySem.W.set_plain X J hs (PySem.W.osa_open (s := { s with toks := s.toks + 1 }) (r := none) X J hp ht fun b => ?_)
  obtain ⟨cd, hc, hd'⟩ := PySem.W.any_some hh
  have hx : s.heap.get? x = some ⟨.ref C, some dx, .plain, #[]⟩ := I.obj
  refine wpAny_bind (wpAny_pure (wpAny_bind (wpAny_bind (wpAny_loadPart hx (wpAny_bind (PySem.W.Looks.here (s := { s with toks := s.toks + 1 }) (PySem.W.looks_clsIn X hc) ?_))))))
  rw [hd']
  refine wpAny_pure (a := some dx) (wpAny_bind (wpAny_pure (wpAny_bind ?_)))
  refine wpAny_nsSet1 (s := { s with toks := s.toks + 1 }) I.ns fun h' hn2 hs2 => ?_
  obtain ⟨oD, esD, epD, hoD, hdD, hcD⟩ := hn2.count (PySem.Within.cons name v hw)
  refine wpAny_bind (wpAny_lookBehind hoD (by rw [hdD]; exact pastItsLine_dict (Nat.le_trans hcD (by rw [List.length_cons]; omega))) ?_)
  exact wpAny_pure (h _ ⟨(hs2.2 _ (Ne.symm I.ne)).trans I.obj, hn2, I.ne⟩ hs2)
theorem make_map {R : Result → Shared → Prop} {vs : List Value} {kw : List (Str × Value)} (X : K.In s.heap) (hm : PySem.W.makesIn K C = true)
    (hi : PySem.W.findIn K (.ref C) "__init__" = some (some (.ref f))) (hf : PySem.W.typeIn K (.ref f) = some (.type "function"))
    (h : codeAny (model prog w) (A.under (.builtin "type.__call__" ⟨.ref C :: vs, kw⟩)) (.call (.ref f) ⟨.ref (s.heap.objs.size + 1) :: vs, kw⟩) (PySem.W.InitBack (s.heap.objs.size + 1) R)
      { s with heap := (s.heap.push PySem.W.emptyDict).push (PySem.W.instObj C s.heap.objs.size) }) :
    codeAny (model prog w) A (.call (.ref C) ⟨vs, kw⟩) R s := by
  obtain ⟨hh, g, d, t, os⟩ := s
  exact PySem.W.make_core (PySem.W.makes_of X hm) (PySem.W.looks_findIn X hi) (fun self => PySem.W.bind_fn X self hf) (.inl rfl) h
end
def putF (f : Str) (v : V) : List (Str × V) → List (Str × V)
  | [] => [(f, v)]
  | (g, x) :: r => if g = f then (g, v) :: r else (g, x) :: putF f v r
theorem lookup_putF (f g : Str) (v : V) : ∀ fs : List (Str × V), (putF f v fs).lookup g = if g = f then some v else fs.lookup g
  | [] => by
    show List.lookup g [(f, v)] = _
    by_cases h : g = f
    · have hb : (g == f) = true := beq_iff_eq.mpr h
      simp only [List.lookup, hb, if_pos h]
    · have hb : (g == f) = false := beq_eq_false_iff_ne.mpr h
      simp only [List.lookup, hb, if_neg h]
  | (k, x) :: r => by
    have ih := lookup_putF f g v r
    rw [show putF f v ((k, x) :: r) = (if k = f then (k, v) :: r else (k, x) :: putF f v r) from rfl]
    by_cases hk : k = f
    · rw [if_pos hk]
      by_cases h : g = k
      · have hb : (g == k) = true := beq_iff_eq.mpr h
        simp only [List.lookup, hb, if_pos (h.trans hk)]
      · have hb : (g == k) = false := beq_eq_false_iff_ne.mpr h
        simp only [List.lookup, hb, if_neg (fun e : g = f => h (e.trans hk.symm))]
    · rw [if_neg hk]
      by_cases h : g = k
      · have hb : (g == k) = true := beq_iff_eq.mpr h
        simp only [List.lookup, hb, if_neg (fun e : g = f => hk (h.symm.trans e))]
      · have hb : (g == k) = false := beq_eq_false_iff_ne.mpr h
        simp only [List.lookup, hb]
        exact ih
theorem keys_putF (f : Str) (v : V) : ∀ fs : List (Str × V), f ∈ (putF f v fs).map (·.1) ∧ ∀ g, g ∈ fs.map (·.1) → g ∈ (putF f v fs).map (·.1)
  | [] => ⟨by simp [putF], fun g h => by simp at h⟩
  | (k, x) :: r => by
    obtain ⟨i1, i2⟩ := keys_putF f v r
    rw [show putF f v ((k, x) :: r) = (if k = f then (k, v) :: r else (k, x) :: putF f v r) from rfl]
    by_cases hk : k = f
    · rw [if_pos hk]
      subst hk
      exact ⟨by simp, fun g h => by simpa using h⟩
    · rw [if_neg hk]
      refine ⟨?_, fun g h => ?_⟩
      · rw [List.map_cons]
        exact List.mem_cons_of_mem _ i1
      · rw [List.map_cons] at h ⊢
        rcases List.mem_cons.mp h with e | e
        · exact List.mem_cons.mpr (.inl e)
        · exact List.mem_cons_of_mem _ (i2 g e)
theorem length_putF (f : Str) (v : V) : ∀ fs : List (Str × V), (putF f v fs).length ≤ fs.length + 1
  | [] => by simp [putF]
  | (k, x) :: r => by
    have ih := length_putF f v r
    rw [show putF f v ((k, x) :: r) = (if k = f then (k, v) :: r else (k, x) :: putF f v r) from rfl]
    by_cases hk : k = f
    · rw [if_pos hk, List.length_cons, List.length_cons]; omega
    · rw [if_neg hk, List.length_cons, List.length_cons]; omega
theorem RelO.some_of {v : V} {o : Option Value} (r : RelO (some v) o) : ∃ u, o = some u ∧ RelV v u := by
  cases o with
  | none => exact (show False from r).elim
  | some u => exact ⟨u, rfl, r⟩
theorem RelO.none_of {o : Option Value} (r : RelO none o) : o = none := by
  cases o with
  | none => rfl
  | some u => exact (show False from r).elim
theorem handed_of {v : V} {u : Value} (r : RelV v u) : PySem.W.handedIn u = true := by
  cases v with
  | non => cases (show u = Value.none from r); rfl
  | bl b => cases (show u = Value.bool b from r); rfl
  | int i => obtain ⟨t, e⟩ := (show ∃ t, u = Value.int i t from r); cases e; rfl
  | str x => obtain ⟨t, e⟩ := (show ∃ t, u = Value.str x t from r); cases e; rfl
  | byt b => obtain ⟨t, e⟩ := (show ∃ t, u = Value.bytes b t from r); cases e; rfl
  | flt b => obtain ⟨t, e⟩ := (show ∃ t, u = Value.float b t from r); cases e; rfl
  | ref a => cases (show u = Value.ref a from r); rfl
  | ty n => cases (show u = Value.type n from r); rfl
section
variable {P : Program} {w : World} {H H' : Hp} {h h' : Heap} {a C dx : Addr} {fs fs' : List (Str × V)}
theorem ins_get (hok : HOk P w H h) (e : H a = some (.ins C dx fs)) : ∃ mA, ObjM h a dx C mA ∧ (∀ f, RelO (fs.lookup f) (mA f)) ∧ PySem.Within mA (fs.map (·.1)) ∧ fs.length ≤ 1000 ∧ H dx = some (.own a) := by
  obtain ⟨d, z, ne, ob, mA, n, r, q⟩ := (show ObjOk P w H h a (.ins C dx fs) from hok a _ e)
  exact ⟨mA, ⟨ob, n, ne⟩, r, q, z, d⟩
end
structure Cls (K : PySem.W.Frag) (C : Addr) : Prop where
  pg : PySem.W.plainGet K C Str.empty = true
  hd : PySem.W.hasDictIn K C = true
  po : PySem.W.plainOver K C = true
  sa : PySem.W.findIn K (.ref C) "__setattr__" = some (some (.builtin "object.__setattr__"))
theorem Cls.get {K : PySem.W.Frag} {C : Addr} (c : Cls K C) (f : Str) : PySem.W.plainGet K C f = true := c.pg
def NoAttr (K : PySem.W.Frag) (C : Addr) (f : Str) : Prop := PySem.W.findIn K (.ref C) f = some none
theorem NoAttr.taker {K : PySem.W.Frag} {C : Addr} {f : Str} (n : NoAttr K C f) : PySem.W.takerIn K C f = some none := by
  unfold PySem.W.takerIn
  rw [show PySem.W.findIn K (.ref C) f = some none from n]
  rfl
structure Meth (K : PySem.W.Frag) (C : Addr) (m : Str) (f : Addr) : Prop where
  at_ : PySem.W.findIn K (.ref C) m = some (some (.ref f))
  fn : PySem.W.isFn K (.ref f) = true
  kp : PySem.W.keepIn K (.ref f) = true
section
variable {X : Cx} {pins : List (Addr × Obj)} {σ : St} {H : Hp} {s : Shared} {a C dx : Addr} {fs : List (Str × V)} {f : Str} {v : V} {A : Around} {E : Value → Shared → Prop}
theorem getattr_ok {b : Bool} {Q : Value → Shared → Prop} (I : Inv X pins σ H s) (e : H a = some (.ins C dx fs)) (c : Cls X.K C) (n : NoAttr X.K C f) (l : fs.lookup f = some v)
    (h : ∀ u s', Inv X pins σ H s' → RelV v u → Q u s') : wpAny (model X.prog X.w) A (getAttr (.ref a) f b) Q E s := by
  obtain ⟨mA, O, r, _, _, _⟩ := ins_get I.hok e
  obtain ⟨u, hu, ru⟩ := RelO.some_of (v := v) (o := mA f) (by rw [← l]; exact r f)
  exact get_map I.kIn O (c.get f) c.hd n hu (handed_of ru) (h u _ (I.tok _) ru)
theorem getmeth_ok {m : Str} {g : Addr} {pl : Sem Bool} {Q : Value × List Value → Shared → Prop} (I : Inv X pins σ H s) (e : H a = some (.ins C dx fs)) (c : Cls X.K C) (k : Meth X.K C m g) (l : fs.lookup m = none)
    (h : Q (.ref g, [.ref a]) s) : wpAny (model X.prog X.w) A (getMethod (.ref a) m pl) Q E s := by
  obtain ⟨mA, O, r, _, _, _⟩ := ins_get I.hok e
  have hn : mA m = none := RelO.none_of (by rw [← l]; exact r m)
  exact get_meth I.kIn O (c.get m) k.at_ k.fn hn h
theorem setattr_ok {y : V} {u : Value} {Q : Unit → Shared → Prop} (I : Inv X pins σ H s) (e : H a = some (.ins C dx fs)) (c : Cls X.K C) (n : NoAttr X.K C f) (hl : fs.length < 1000) (ry : RelV y u)
    (h : ∀ s', Inv X pins σ (upd H a (.ins C dx (putF f y fs))) s' → Q () s') : wpAny (model X.prog X.w) A (setAttr (.ref a) f u) Q E s := by
  obtain ⟨mA, O, r, wi, _, ho⟩ := ins_get I.hok e
  have hz : (fs.map (·.1)).length ≤ sizeLine := by rw [List.length_map, sizeLine_eq]; omega
  refine set_map I.kIn O c.sa c.po n.taker c.hd wi hz fun h' O' sb => h _ ?_
  have hd : ∃ o, h'.get? dx = some o := let ⟨o, _, _, e', _⟩ := O'.ns; ⟨o, e'⟩
  refine I.write (x := a) (e := dx) (by rw [e]; exact True.intro) (.inr ho) (fun b q hb z => (sb.2 b hb).trans z) hd ?_
  refine ⟨by rw [upd_ne O.ne]; exact ho, ?_, O.ne, O'.obj, _, O'.ns, fun g => ?_, fun g hg => ?_⟩
  · have := length_putF f y fs; omega
  · show RelO ((putF f y fs).lookup g) (if g = f then some u else mA g)
    rw [lookup_putF]
    by_cases q : g = f
    · rw [if_pos q, if_pos q]; exact ry
    · rw [if_neg q, if_neg q]; exact r g
  · by_cases q : g = f
    · rw [q]; exact (keys_putF f y fs).1
    · refine (keys_putF f y fs).2 g (wi g fun z => hg ?_)
      show (if g = f then some u else mA g) = none
      rw [if_neg q]; exact z
theorem Inv.made (I : Inv X pins σ H s) : Inv X pins σ (upd (upd H s.heap.objs.size (.own (s.heap.objs.size + 1))) (s.heap.objs.size + 1) (.ins C s.heap.objs.size []))
    { s with heap := (s.heap.push PySem.W.emptyDict).push (PySem.W.instObj C s.heap.objs.size) } := by
  have e1 : (s.heap.push PySem.W.emptyDict).get? s.heap.objs.size = some PySem.W.emptyDict := Heap.get?_push_size s.heap rfl
  have e2 : ((s.heap.push PySem.W.emptyDict).push (PySem.W.instObj C s.heap.objs.size)).get? (s.heap.objs.size + 1) = some (PySem.W.instObj C s.heap.objs.size) := by
    have := Heap.get?_push_size (s.heap.push PySem.W.emptyDict) (o := PySem.W.instObj C s.heap.objs.size) rfl
    rwa [Heap.size_push] at this
  have e3 : (s.heap.push PySem.W.emptyDict).Ns s.heap.objs.size (fun _ => none) := ⟨PySem.W.emptyDict, #[], _, e1, rfl, (fun e he => absurd he (by simp)), fun _ => rfl⟩
  have I1 := I.laid (a := s.heap.objs.size) (o := .own (s.heap.objs.size + 1)) (h' := s.heap.push PySem.W.emptyDict) (t' := s.toks) (fun b u q => Heap.get?_push_of_some _ q) (Nat.le_refl _) ⟨_, e1⟩
  refine I1.laid (a := s.heap.objs.size + 1) (o := .ins C s.heap.objs.size []) (t' := s.toks) (fun b u q => Heap.get?_push_of_some _ q) (Nat.le_of_eq (Heap.size_push _ _)) ?_
  have ne : s.heap.objs.size ≠ s.heap.objs.size + 1 := Nat.ne_of_lt (Nat.lt_succ_self _)
  refine ⟨by rw [upd_ne ne, upd_same], Nat.zero_le _, ne, e2, fun _ => none, (Heap.Ns1.of_empty e3).at fun o q => Heap.get?_push_of_some _ q, fun _ => True.intro, fun y hy => absurd rfl hy⟩
theorem attr_of {prog : Program} {w : World} {env : Env} {e : Expr} {f : Str} {pos : Pos} {s : Shared} {Q : Value → Shared → Prop} (hb : attributeBase e f env (eval e env) = eval e env)
    (h : wpAny (model prog w) A (eval e env) (fun o s₁ => wpAny (model prog w) A (getAttr o f true) Q E s₁) E s) : wpAny (model prog w) A (eval (.Attribute e f pos) env) Q E s :=
  Attribute_any_ h (by rw [arm_eval_Attribute, hb])
end
def tFld (K : PySem.W.Frag) (ta : TE) (f : Str) : TE := fun σ H Q => ta σ H fun x H1 => ∃ a C dx fs v, x = .ref a ∧ H1 a = some (.ins C dx fs) ∧ Cls K C ∧ NoAttr K C f ∧ fs.lookup f = some v ∧ Q v H1
def sFld (K : PySem.W.Frag) (ta tv : TE) (f : Str) : TS := fun D σ H => tv σ H fun y H1 => ta σ H1 fun x H2 => ∃ a C dx fs, x = .ref a ∧ H2 a = some (.ins C dx fs) ∧ Cls K C ∧ NoAttr K C f ∧ fs.length < 1000 ∧
  D.nx σ (upd H2 a (.ins C dx (putF f y fs)))
section
variable {X : Cx} {o e value : Expr} {f : Str} {pos pos' tpos : Pos} {ta tv : TE}
theorem pe_fld (he : PE X e ta) (hb : attributeBase e f X.env (eval e X.env) = eval e X.env) : PE X (.Attribute e f pos) (tFld X.K ta f) := by
  intro pins s σ H Q I h
  refine attr_of hb (thn (he pins s σ H _ I h) fun u s1 ⟨x, H1, I1, rx, a, C, dx, fs, v, ex, ea, c, n, l, q⟩ => ?_)
  subst ex
  obtain rfl : u = Value.ref a := rx
  exact getattr_ok I1 ea c n l fun u' s2 I2 ru => ⟨v, H1, I2, ru, q⟩
theorem ps_fld (ha : PE X o ta) (hv : PE X value tv) (hs : swapsWith value (some (.Attribute o f pos')) pos.line X.env = pure false) : PS X (.Assign [.Attribute o f pos'] value pos) (sFld X.K ta tv f) := by
  intro pins s σ H D I h
  refine plainObj_wpAny_Assign_Attribute (thn (hv pins s σ H _ I h) fun u s1 ⟨y, H1, I1, ry, q⟩ => thn (ha pins s1 σ H1 _ I1 q) fun ov s2 ⟨x, H2, I2, rx, a, C, dx, fs, ex, ea, c, n, l, q2⟩ => ?_) hs
  subst ex
  obtain rfl : ov = Value.ref a := rx
  exact setattr_ok I2 ea c n l ry fun s3 I3 => ⟨σ, _, I3, q2⟩
end
section
variable {X : Cx} {pins : List (Addr × Obj)} {σ : St} {H : Hp} {s : Shared} {A : Around} {E : Value → Shared → Prop} {Q : Value → Shared → Prop} {c : Value} {b : Bool}
end
end L2
namespace L2
open PySem PySem.Spec PyProof.Rows
structure Room (k : Nat) (A : Around) : Prop where
  hd : A.handled = none
  dp : A.depth + 3 * k + 5 < recursionLimit
  un : A.units + 16 * k + 200 < cLine
theorem Room.mono {j k : Nat} {A : Around} (r : Room k A) (h : j ≤ k) : Room j A := ⟨r.hd, by have := r.dp; omega, by have := r.un; omega⟩
theorem Room.deeper {k : Nat} {A : Around} (r : Room (k + 1) A) (env : Env) : Room k (A.deeper env) :=
  ⟨r.hd, by have := r.dp; show A.depth + 1 + 3 * k + 5 < _; omega, by have := r.un; show A.units + 3 + 16 * k + 200 < _; omega⟩
theorem Room.in1 {k : Nat} {A : Around} (r : Room (k + 1) A) : Room k A.in1 :=
  ⟨r.hd, by have := r.dp; show A.depth + 3 * k + 5 < _; omega, by have := r.un; show A.units + 1 + 16 * k + 200 < _; omega⟩
theorem make_depth {A : Around} {C : Addr} {us : List Value} {kw : List (Str × Value)} : (A.under (.builtin "type.__call__" ⟨.ref C :: us, kw⟩)).depth = A.depth + 1 := by
  first | rfl | simp [Around.under, Code.weight, Code.isCreation, Code.isGuard, Code.isCaller, Code.frames, Code.isFrame, guardIds]
theorem make_units {A : Around} {C : Addr} {us : List Value} {kw : List (Str × Value)} : (A.under (.builtin "type.__call__" ⟨.ref C :: us, kw⟩)).units = A.units + 1 := by
  first | rfl | simp [Around.under, Code.cUnits, Code.frames, Code.isFrame]
theorem Room.make {k : Nat} {A : Around} (r : Room (k + 1) A) (C : Addr) (us : List Value) (kw : List (Str × Value)) : Room k (A.under (.builtin "type.__call__" ⟨.ref C :: us, kw⟩)) :=
  ⟨r.hd, by have := r.dp; rw [make_depth]; omega, by have := r.un; rw [make_units]; omega⟩
theorem Room.depth {k : Nat} {A : Around} (r : Room k A) : A.depth < recursionLimit := by have := r.dp; omega
theorem Room.units {k : Nat} {A : Around} (r : Room k A) : A.units + 64 < cLine := by have := r.un; omega
def tNil : TA := fun _ H Q => Q [] H
def tCons (ta : TE) (tr : TA) : TA := fun σ H Q => ta σ H fun x H1 => tr σ H1 fun xs H2 => Q (x :: xs) H2
section
variable {X : Cx} {e : Expr} {es : List Expr} {te : TE} {t : TA} {pos : Pos}
theorem pa_nil : PA X [] tNil := fun _ _ _ _ H Q I h => Calls.spliced_nil ⟨[], H, I, .nil, h⟩
theorem pa_cons (ha : PE X e te) (hr : PA X es t) (hs : starEach (e :: es) X.env = (false, eval e X.env) :: starEach es X.env := by rfl) : PA X (e :: es) (tCons te t) := by
  intro pos pins s σ H Q I h
  rw [hs]
  show wpAny _ _ (spliced ((false, eval e X.env) :: backTo pos (starEach es X.env))) _ _ s
  refine Calls.spliced_cons (thn (ha pins s σ H _ I h) fun u s1 ⟨x, H1, I1, r1, q1⟩ => ?_)
  exact thn (hr pos pins s1 σ H1 _ I1 q1) fun us s2 ⟨xs, H2, I2, r2, q2⟩ => ⟨x :: xs, H2, I2, .cons r1 r2, q2⟩
def tTup (t : TA) : TE := fun σ H Q => t σ H fun xs H1 => xs.length ≤ sizeLine ∧ ∀ p, H1 p = none → Q (.ref p) (upd H1 p (.tup xs))
def tLst (t : TA) : TE := fun σ H Q => t σ H fun xs H1 => xs.length ≤ sizeLine ∧ ∀ p, H1 p = none → Q (.ref p) (upd H1 p (.lst xs))
theorem pe_tup {x1} (h : PA X es t) : PE X (.Tuple es x1 pos) (tTup t) := by
  intro pins s σ H Q I hq
  refine wpAny_Tuple_spliced (thn (h pos pins s σ H _ I hq) fun us s1 ⟨xs, H1, I1, r, z, q⟩ => ⟨by rw [← r.length]; exact z, ?_⟩)
  have hf : H1 s1.heap.objs.size = none := I1.hok.fresh (Nat.le_refl _)
  refine ⟨.ref s1.heap.objs.size, upd H1 s1.heap.objs.size (.tup xs), I1.laid (t' := s1.toks) (fun b u e => Heap.get?_push_of_some _ e) (Nat.le_refl _) ?_, rfl, q _ hf⟩
  exact ⟨z, us, r, ⟨_, Heap.get?_push_size _ rfl, rfl, _, rfl⟩⟩
theorem pe_lst (h : PA X es t) : PE X (.List es pos) (tLst t) := by
  intro pins s σ H Q I hq
  refine wpAny_List_spliced (thn (h pos pins s σ H _ I hq) fun us s1 ⟨xs, H1, I1, r, z, q⟩ => ⟨by rw [← r.length]; exact z, ?_⟩)
  have hf : H1 s1.heap.objs.size = none := I1.hok.fresh (Nat.le_refl _)
  refine ⟨.ref s1.heap.objs.size, upd H1 s1.heap.objs.size (.lst xs), I1.laid (t' := s1.toks) (fun b u e => Heap.get?_push_of_some _ e) (Nat.le_refl _) ?_, rfl, q _ hf⟩
  exact ⟨z, us, 0, r, Heap.get?_push_size _ rfl⟩
end
abbrev Sp := List V → Hp → VK → XK → Prop
abbrev CXT := List Env → Hp → Shared → XK → Value → Shared → Prop
structure Env0 (P : Program) (w : World) (K : PySem.W.Frag) (mg : Str → Option Value) (base : Heap) (A : Around) (outer : List Env) (s : Shared) (H : Hp) : Prop where
  frames : A.frames = some outer
  mod : Mod K mg base
  bs : ∀ b o, base.get? b = some o → s.heap.get? b = some o ∧ H b = none
  bsz : base.objs.size ≤ s.heap.objs.size
  funs : s.heap.FunFrames base outer
  frf : ∀ b ∈ frs outer, H b = none
  hok : HOk P w H s.heap
  bare : AllBare s.gens
def CE (outer : List Env) (P : Program) (w : World) (H : Hp) (s : Shared) (Q : VK) (u : Value) (s' : Shared) : Prop :=
  ∃ v H', s'.os = s.os ∧ AllBare s'.gens ∧ Un (frs outer) [] H H' s.heap s'.heap ∧ HOk P w H' s'.heap ∧ RelV v u ∧ Q v H'
def CR (CX : CXT) (outer : List Env) (P : Program) (w : World) (H : Hp) (s : Shared) (Q : VK) (E : XK) (r : Result) (s' : Shared) : Prop :=
  match r with
  | .ok (.ret u) => CE outer P w H s Q u s'
  | .ok _ => False
  | .error e => CX outer H s E e s'
structure FnOk (P : Program) (w : World) (K : PySem.W.Frag) (mg : Str → Option Value) (base : Heap) (CX : CXT) (k : Nat) (f : Addr) (fd : FuncData) (ps : List Str) (sp : Sp) : Prop where
  len : ∀ vs H Q E, sp vs H Q E → vs.length = ps.length
  run : ∀ (A : Around) (outer : List Env) (s : Shared) (H : Hp) (args : Args) (us : List Value) (vs : List V) (Q : VK) (E : XK), Room k A → Env0 P w K mg base A outer s H → BindsTo s fd args (ps.zip us) → Vals vs us → sp vs H Q E →
    codeAny (model P w) A (.call (.ref f) args) (CR CX outer P w H s Q E) s
theorem FnOk.mono {P : Program} {w : World} {K : PySem.W.Frag} {mg : Str → Option Value} {base : Heap} {CX : CXT} {j k : Nat} {f : Addr} {fd : FuncData} {ps : List Str} {sp : Sp} (F : FnOk P w K mg base CX j f fd ps sp) (h : j ≤ k) :
    FnOk P w K mg base CX k f fd ps sp := ⟨F.len, fun A outer s H args us vs Q E hr => F.run A outer s H args us vs Q E (hr.mono h)⟩
theorem FnOk.imp {P : Program} {w : World} {K : PySem.W.Frag} {mg : Str → Option Value} {base : Heap} {CX : CXT} {k : Nat} {f : Addr} {fd : FuncData} {ps : List Str} {sp sp' : Sp} (F : FnOk P w K mg base CX k f fd ps sp)
    (h : ∀ vs H Q E, sp' vs H Q E → sp vs H Q E) : FnOk P w K mg base CX k f fd ps sp' :=
  ⟨fun vs H Q E q => F.len vs H Q E (h _ _ _ _ q), fun A outer s H args us vs Q E hr he hb hv hs => F.run A outer s H args us vs Q E hr he hb hv (h _ _ _ _ hs)⟩
theorem Env0.make {P : Program} {w : World} {K : PySem.W.Frag} {mg : Str → Option Value} {base : Heap} {A : Around} {outer : List Env} {s : Shared} {H : Hp} (e : Env0 P w K mg base A outer s H) (C : Addr) (us : List Value) (kw : List (Str × Value)) :
    Env0 P w K mg base (A.under (.builtin "type.__call__" ⟨.ref C :: us, kw⟩)) outer s H := ⟨by first | exact e.frames | (simpa [Around.under, Code.envs, Code.isFrame, pushEnvs] using e.frames), e.mod, e.bs, e.bsz, e.funs, e.frf, e.hok, e.bare⟩
theorem Env0.in1 {P : Program} {w : World} {K : PySem.W.Frag} {mg : Str → Option Value} {base : Heap} {A : Around} {outer : List Env} {s : Shared} {H : Hp} (e : Env0 P w K mg base A outer s H) :
    Env0 P w K mg base A.in1 outer s H := ⟨e.frames, e.mod, e.bs, e.bsz, e.funs, e.frf, e.hok, e.bare⟩
section
variable {X : Cx} {pins : List (Addr × Obj)} {σ : St} {H : Hp} {s s' : Shared}
theorem Inv.env0 (I : Inv X pins σ H s) : Env0 X.prog X.w X.K X.mg X.base X.A X.stack s H :=
  ⟨I.ok.frames, I.ok.mod, I.bs, Nat.le_trans I.ok.bsz I.sz, I.stack, I.stkFree, I.hok, I.bare⟩
theorem Inv.after {Q : VK} {u : Value} (I : Inv X pins σ H s) (h : CE X.stack X.prog X.w H s Q u s') : EP X pins σ Q u s' := by
  obtain ⟨v, H', os, bare, un, hok, r, q⟩ := h
  obtain ⟨hh, g, d, t, os'⟩ := s'
  obtain rfl : os' = s.os := os
  exact ⟨v, H', I.call (h' := hh) (g' := g) (d' := d) (t' := t) (ch := []) un hok bare (fun b z => absurd z (by simp)), r, q⟩
end
def tCall (sp : Sp) (dvs : List V) (E : XK) (t : TA) : TE := fun σ H Q => t σ H fun vs H1 => sp (vs ++ dvs) H1 Q E
def tMeth (C : Addr) (m : Str) (sp : Sp) (dvs : List V) (E : XK) (ta : TE) (t : TA) : TE := fun σ H Q => ta σ H fun x H1 => ∃ a dx fs, x = .ref a ∧ H1 a = some (.ins C dx fs) ∧ fs.lookup m = none ∧
  t σ H1 fun vs H2 => sp (x :: (vs ++ dvs)) H2 Q E
def tMake (C : Addr) (sp : Sp) (dvs : List V) (E : XK) (t : TA) : TE := fun σ H Q => t σ H fun vs H1 => ∀ x dx, H1 x = none → H1 dx = none → dx ≠ x →
  sp (.ref x :: (vs ++ dvs)) (upd (upd H1 dx (.own x)) x (.ins C dx [])) (fun v H2 => v = .non ∧ Q (.ref x) H2) E
def Binds (K : PySem.W.Frag) (fd : FuncData) (ps : List Str) (ds : List Value) : Prop :=
  ∀ (s : Shared) (us : List Value), K.In s.heap → (us ++ ds).length = ps.length → BindsTo s fd ⟨us, []⟩ (ps.zip (us ++ ds))
theorem Binds.all {K : PySem.W.Frag} {fd : FuncData} {ps : List Str} (h : ∀ us : List Value, us.length = ps.length → bindArgs fd ⟨us, []⟩ = pure (ps.zip us)) : Binds K fd ps [] := fun s us _ hl => by
  rw [List.append_nil] at hl ⊢
  exact .of_eq (h us hl)
def Passes (CX : CXT) (X : Cx) (E : XK) : Prop := ∀ (pins : List (Addr × Obj)) (σ : St) (H : Hp) (s : Shared) (e : Value) (s' : Shared), Inv X pins σ H s → CX X.stack H s E e s' → X.xe e s'
section
variable {X : Cx} {CX : CXT} {k : Nat} {f C : Addr} {fd : FuncData} {ps : List Str} {sp : Sp} {dvs : List V} {ds : List Value} {E : XK} {x m : Str} {p pos apos : Pos} {e o : Expr} {es : List Expr} {ta : TE} {t : TA}
theorem run_fn {pins : List (Addr × Obj)} {σ : St} {H : Hp} {s : Shared} {Q : VK} {us : List Value} {vs : List V} (F : FnOk X.prog X.w X.K X.mg X.base CX k f fd ps sp) (hr : Room k X.A) (hb : Binds X.K fd ps ds) (hd : Vals dvs ds) (hx : Passes CX X E)
    (I : Inv X pins σ H s) (r : Vals vs us) (h : sp (vs ++ dvs) H Q E) : wpAny (model X.prog X.w) X.A (call (.ref f) us) (EP X pins σ Q) X.xe s := by
  have r2 : Vals (vs ++ dvs) (us ++ ds) := r.append hd
  have hl : (us ++ ds).length = ps.length := by rw [← r2.length]; exact F.len _ _ _ _ h
  refine wpAny_call (codeAny_mono (F.run X.A X.stack s H ⟨us, []⟩ (us ++ ds) (vs ++ dvs) Q E hr I.env0 (hb s us I.kIn hl) r2 h) fun r s' hq => ?_)
  cases r with
  | error e => exact hx pins σ H s e s' I hq
  | ok fl =>
    cases fl with
    | ret u => exact I.after hq
    | next => exact False.elim hq
    | brk => exact False.elim hq
    | cont => exact False.elim hq
theorem pe_call (F : FnOk X.prog X.w X.K X.mg X.base CX k f fd ps sp) (hr : Room k X.A) (hg : Gl X x) (hm : X.mg x = some (.ref f)) (hk : PySem.W.keepIn X.K (.ref f) = true) (hb : Binds X.K fd ps ds) (hd : Vals dvs ds) (hx : Passes CX X E)
    (ha : PA X (e :: es) t) (hdb : (x == ("__debug__" : Str)) = false := by decide) (he : starEach (e :: es) X.env = (false, eval e X.env) :: starEach es X.env := by rfl) (hpl : (backTo pos (starEach es X.env)).any (·.1) = false := by rfl) :
    PE X (.Call (.Name x p) (e :: es) [] pos) (tCall sp dvs E t) := by
  intro pins s σ H Q I h
  refine wpAny_Call_Name_kw (ld_glob I hg hm ?_ hdb)
  refine PySem.W.callWith_K (h₀ := X.base) I.ok.mod.kin hk (thn (ha pos pins s σ H _ I h) fun us s1 ⟨vs, H1, I1, r, q⟩ => ⟨I1.kIn, ?_⟩) he hpl
  exact run_fn F hr hb hd hx I1 r q
theorem pe_meth {pl : Sem Bool} (he : PE X o ta) (c : Cls X.K C) (hm : Meth X.K C m f) (F : FnOk X.prog X.w X.K X.mg X.base CX k f fd ps sp) (hr : Room k X.A) (hb : Binds X.K fd ps ds) (hd : Vals dvs ds) (hx : Passes CX X E) (ha : PA X (e :: es) t)
    (hst : starEach (e :: es) X.env = (false, eval e X.env) :: starEach es X.env := by rfl) (hpl : (backTo pos (starEach es X.env)).any (·.1) = false := by rfl)
    (ht : eval (.Call (.Attribute o m apos) (e :: es) [] pos) X.env = (do
      let ov ← eval o X.env
      standAt apos.atName
      let (f, first) ← holding [ov] (getMethod ov m pl)
      callWith pos f first (backTo pos (starEach (e :: es) X.env)) (backToKw pos (keywordEach [] X.env))) := by rfl) :
    PE X (.Call (.Attribute o m apos) (e :: es) [] pos) (tMeth C m sp dvs E ta t) := by
  intro pins s σ H Q I h
  refine PySem.W.methodCall_KW (pl := pl) (thn (he pins s σ H _ I h) fun u s1 ⟨x, H1, I1, rx, a, dx, fs, ex, ea, l, q⟩ => ?_) ht
  subst ex
  obtain rfl : u = Value.ref a := rx
  refine getmeth_ok I1 ea c hm l ?_
  refine PySem.W.callWith_K (first := [.ref a]) (h₀ := X.base) I.ok.mod.kin hm.kp (thn (ha pos pins s1 σ H1 _ I1 q) fun us s2 ⟨vs, H2, I2, r, q2⟩ => ⟨I2.kIn, ?_⟩) hst hpl
  exact run_fn (us := .ref a :: us) (vs := .ref a :: vs) F hr hb hd hx I2 (.cons rfl r) q2
theorem pe_meth0 {pl : Sem Bool} (he : PE X o ta) (c : Cls X.K C) (hm : Meth X.K C m f) (F : FnOk X.prog X.w X.K X.mg X.base CX k f fd ps sp) (hr : Room k X.A) (hb : Binds X.K fd ps ds) (hd : Vals dvs ds) (hx : Passes CX X E)
    (ht : eval (.Call (.Attribute o m apos) [] [] pos) X.env = (do
      let ov ← eval o X.env
      standAt apos.atName
      let (f, first) ← holding [ov] (getMethod ov m pl)
      callWith pos f first (backTo pos (starEach [] X.env)) (backToKw pos (keywordEach [] X.env))) := by rfl) :
    PE X (.Call (.Attribute o m apos) [] [] pos) (tMeth C m sp dvs E ta tNil) := by
  intro pins s σ H Q I h
  refine PySem.W.methodCall_KW (pl := pl) (thn (he pins s σ H _ I h) fun u s1 ⟨x, H1, I1, rx, a, dx, fs, ex, ea, l, q⟩ => ?_) ht
  subst ex
  obtain rfl : u = Value.ref a := rx
  refine getmeth_ok I1 ea c hm l ?_
  exact PySem.W.callWith_K0 (first := [.ref a]) I1.kIn hm.kp (run_fn (us := [.ref a]) (vs := [.ref a]) F hr hb hd hx I1 (.cons rfl .nil) q)
structure Mk (K : PySem.W.Frag) (C f : Addr) : Prop where
  makes : PySem.W.makesIn K C = true
  init : PySem.W.findIn K (.ref C) "__init__" = some (some (.ref f))
  fn : PySem.W.isFn K (.ref f) = true
  kp : PySem.W.keepIn K (.ref C) = true
theorem run_make {pins : List (Addr × Obj)} {σ : St} {H : Hp} {s : Shared} {Q : VK} {us : List Value} {vs : List V} (M : Mk X.K C f) (F : FnOk X.prog X.w X.K X.mg X.base CX k f fd ps sp) (hr : Room (k + 1) X.A) (hb : Binds X.K fd ps ds) (hd : Vals dvs ds)
    (hx : Passes CX X E) (I : Inv X pins σ H s) (r : Vals vs us)
    (h : ∀ x dx, H x = none → H dx = none → dx ≠ x → sp (.ref x :: (vs ++ dvs)) (upd (upd H dx (.own x)) x (.ins C dx [])) (fun v H2 => v = .non ∧ Q (.ref x) H2) E) :
    wpAny (model X.prog X.w) X.A (call (.ref C) us) (EP X pins σ Q) X.xe s := by
  have hq := h (s.heap.objs.size + 1) s.heap.objs.size (I.hok.fresh (Nat.le_succ _)) (I.hok.fresh (Nat.le_refl _)) (Nat.ne_of_lt (Nat.lt_succ_self _))
  have I2 := Inv.made (C := C) I
  have r2 : Vals (V.ref (s.heap.objs.size + 1) :: (vs ++ dvs)) (Value.ref (s.heap.objs.size + 1) :: (us ++ ds)) := .cons rfl (r.append hd)
  have hl : (Value.ref (s.heap.objs.size + 1) :: us ++ ds).length = ps.length := by
    have e := r2.length
    rw [F.len _ _ _ _ hq] at e
    exact e.symm
  refine wpAny_call (make_map (f := f) I.kIn M.makes M.init (beq_iff_eq.mp M.fn) (codeAny_mono (F.run _ X.stack _ _ ⟨Value.ref (s.heap.objs.size + 1) :: us, []⟩ (Value.ref (s.heap.objs.size + 1) :: (us ++ ds)) _ _ E (hr.make C us [])
    (I2.env0.make C us []) (hb _ (Value.ref (s.heap.objs.size + 1) :: us) I2.kIn hl) r2 hq) fun r s' hq' => ?_))
  cases r with
  | error e => exact hx pins σ _ _ e s' I2 hq'
  | ok fl =>
    cases fl with
    | ret u =>
      obtain ⟨v, H', I3, rv, ev, q3⟩ := I2.after hq'
      subst ev
      exact ⟨rv, ⟨V.ref (s.heap.objs.size + 1), H', I3, rfl, q3⟩⟩
    | next => exact False.elim hq'
    | brk => exact False.elim hq'
    | cont => exact False.elim hq'
theorem pe_make (M : Mk X.K C f) (F : FnOk X.prog X.w X.K X.mg X.base CX k f fd ps sp) (hr : Room (k + 1) X.A) (hg : Gl X x) (hm : X.mg x = some (.ref C)) (hb : Binds X.K fd ps ds) (hd : Vals dvs ds) (hx : Passes CX X E)
    (ha : PA X (e :: es) t) (hdb : (x == ("__debug__" : Str)) = false := by decide) (he : starEach (e :: es) X.env = (false, eval e X.env) :: starEach es X.env := by rfl) (hpl : (backTo pos (starEach es X.env)).any (·.1) = false := by rfl) :
    PE X (.Call (.Name x p) (e :: es) [] pos) (tMake C sp dvs E t) := by
  intro pins s σ H Q I h
  refine wpAny_Call_Name_kw (ld_glob I hg hm ?_ hdb)
  refine PySem.W.callWith_K (h₀ := X.base) I.ok.mod.kin M.kp (thn (ha pos pins s σ H _ I h) fun us s1 ⟨vs, H1, I1, r, q⟩ => ⟨I1.kIn, ?_⟩) he hpl
  exact run_make M F hr hb hd hx I1 r q
theorem pe_make0 (M : Mk X.K C f) (F : FnOk X.prog X.w X.K X.mg X.base CX k f fd ps sp) (hr : Room (k + 1) X.A) (hg : Gl X x) (hm : X.mg x = some (.ref C)) (hb : Binds X.K fd ps ds) (hd : Vals dvs ds) (hx : Passes CX X E)
    (hdb : (x == ("__debug__" : Str)) = false := by decide) : PE X (.Call (.Name x p) [] [] pos) (tMake C sp dvs E tNil) := by
  intro pins s σ H Q I h
  refine wpAny_Call_Name_kw (ld_glob I hg hm ?_ hdb)
  exact PySem.W.callWith_K0 I.kIn M.kp (run_make (us := []) M F hr hb hd hx I .nil h)
end
section
variable {X : Cx} {CX : CXT} {k : Nat} {f C : Addr} {fd : FuncData} {ps ks : List Str} {sp : Sp} {E : XK} {x m : Str} {p pos apos kpos : Pos} {e o : Expr} {es : List Expr} {kws : List Keyword} {te ta : TE} {t tk : TA} {nm : Option Str}
variable {g : List Value → List Value → List Value} {gV : List V → List V → List V}
end
structure FnScope (N P : List Str) (sc : Scope) : Prop where
  kind : sc.kind = .function
  co : sc.isCoroutine = false
  gen : sc.isGenerator = false
  nd : N.Nodup
  pre : N.take P.length = P
  par : ∀ x ∈ P, sc.names.lookup x = some .local ∨ sc.names.lookup x = some .cell
  nofree : ∀ y ∈ sc.names, y.2 ≠ .free
theorem bindL_out {kindOf : Str → Option NameKind} {x : Str} : ∀ {binds : List (Str × Value)} {m : Str → Option Value}, (∀ v, (x, v) ∉ binds) → bindL kindOf binds m x = m x
  | [], _, _ => rfl
  | (n, v) :: r, m, h => by
    unfold bindL
    rw [bindL_out fun w hw => h w (List.mem_cons_of_mem _ hw)]
    split
    · have : x ≠ n := by rintro rfl; exact h v List.mem_cons_self
      simp [this]
    · rfl
theorem bindC_out {kindOf : Str → Option NameKind} {x : Str} : ∀ {binds : List (Str × Value)} {m : Str → Option Value}, (∀ v, (x, v) ∉ binds) → bindC kindOf binds m x = m x
  | [], _, _ => rfl
  | (n, v) :: r, m, h => by
    unfold bindC
    rw [bindC_out fun w hw => h w (List.mem_cons_of_mem _ hw)]
    split
    · rfl
    · have : x ≠ n := by rintro rfl; exact h v List.mem_cons_self
      simp [this]
theorem bindL_get {kindOf : Str → Option NameKind} {x : Str} {v : Value} : ∀ {P : List Str} {vs : List Value} {i : Nat} {m : Str → Option Value}, P.Nodup → P[i]? = some x → vs[i]? = some v → kindOf x = some .local →
    bindL kindOf (P.zip vs) m x = some v
  | [], _, _, _, _, h, _, _ => by simp at h
  | _ :: _, [], _, _, _, _, h, _ => by simp at h
  | p :: P, w :: vs, 0, m, nd, h1, h2, hk => by
    simp at h1 h2; subst h1; subst h2
    show bindL kindOf ((p, w) :: P.zip vs) m p = _
    unfold bindL
    rw [bindL_out fun v hv => (List.nodup_cons.mp nd).1 (List.of_mem_zip hv).1, if_pos hk]
    simp
  | p :: P, w :: vs, i + 1, m, nd, h1, h2, hk => by
    show bindL kindOf ((p, w) :: P.zip vs) m x = _
    unfold bindL
    exact bindL_get (i := i) (List.nodup_cons.mp nd).2 (by simpa using h1) (by simpa using h2) hk
theorem bindC_get {kindOf : Str → Option NameKind} {x : Str} {v : Value} : ∀ {P : List Str} {vs : List Value} {i : Nat} {m : Str → Option Value}, P.Nodup → P[i]? = some x → vs[i]? = some v → kindOf x ≠ some .local →
    bindC kindOf (P.zip vs) m x = some v
  | [], _, _, _, _, h, _, _ => by simp at h
  | _ :: _, [], _, _, _, _, h, _ => by simp at h
  | p :: P, w :: vs, 0, m, nd, h1, h2, hk => by
    simp at h1 h2; subst h1; subst h2
    show bindC kindOf ((p, w) :: P.zip vs) m p = _
    unfold bindC
    rw [bindC_out fun v hv => (List.nodup_cons.mp nd).1 (List.of_mem_zip hv).1, if_neg hk]
    simp
  | p :: P, w :: vs, i + 1, m, nd, h1, h2, hk => by
    show bindC kindOf ((p, w) :: P.zip vs) m x = _
    unfold bindC
    exact bindC_get (i := i) (List.nodup_cons.mp nd).2 (by simpa using h1) (by simpa using h2) hk
def start (N : List Str) (vs : List V) : St := vs.map some ++ List.replicate (N.length - vs.length) none
def cxOf (CX : CXT) (P : Program) (w : World) (K : PySem.W.Frag) (mg : Str → Option Value) (base : Heap) (N : List Str) (qual : Str) (scope : Scope) (f : Addr) (cd : Value) (A : Around) (outer : List Env) (s : Shared) (H : Hp) (E : XK) : Cx where
  prog := P
  w := w
  K := K
  mg := mg
  base := base
  A := A.deeper (envOfC qual scope s.heap.objs.size f cd)
  N := N
  s_0 := s
  H_0 := H
  env := envOfC qual scope s.heap.objs.size f cd
  outer := outer
  stack := envOfC qual scope s.heap.objs.size f cd :: outer
  ex := []
  calm := true
  fn := fun _ => true
  pn := []
  xe := fun e s' => wpAny (model P w) (A.deeper (envOfC qual scope s.heap.objs.size f cd)) (leaving (envOfC qual scope s.heap.objs.size f cd) e) (fun _ s'' => CX outer H s E e s'') (fun e' s'' => CX outer H s E e' s'') s'
theorem cell_has {sc : Scope} {n : Nat} {x : Str} (h : sc.names.lookup x = some .cell) : ∃ c, (cellsFrom n sc.names []).lookup x = some c := by
  have q := PySem.W.cellsFrom_some sc.names n [] (.inl h)
  exact Option.isSome_iff_exists.mp q
theorem inv_start {CX : CXT} {P : Program} {w : World} {K : PySem.W.Frag} {mg : Str → Option Value} {base : Heap} {N ps : List Str} {qual : Str} {scope : Scope} {f : Addr} {cd : Value} {A : Around} {outer : List Env} {s s1 : Shared} {H : Hp} {E : XK} {us : List Value} {vs : List V}
    (S : FnScope N ps scope) (hd : A.handled = none) (e0 : Env0 P w K mg base A outer s H) (hl : vs.length = ps.length) (r : Vals vs us)
    (x : InCallC s s.heap.objs.size (bindL (envOfC qual scope s.heap.objs.size f cd).kindOf (ps.zip us) fun _ => none) (cellsFrom (s.heap.objs.size + 1) scope.names []) (bindC (envOfC qual scope s.heap.objs.size f cd).kindOf (ps.zip us) fun _ => none) s1) :
    Inv (cxOf CX P w K mg base N qual scope f cd A outer s H E) [] (start N vs) H s1 := by
  have hpl : ps.length ≤ N.length := by have := congrArg List.length S.pre; rw [List.length_take] at this; omega
  obtain ⟨h1, tk, rfl, hk⟩ := x.done
  have noA : ∀ b : Addr, b ∉ (cxOf CX P w K mg base N qual scope f cd A outer s H E).ex := fun b z => absurd (show b ∈ ([] : List Addr) from z) (by simp)
  refine ⟨⟨e0.mod, S.kind, rfl, rfl, Nat.le_refl _, fun y z c h1 h2 => ?_, fun y hy => ?_, fun y c _ h => ?_, fun _ => hd, Around.frames_deeper e0.frames, .inr ⟨rfl, rfl⟩, fun b z => absurd z (noA b), e0.bs, e0.bsz, fun b _ _ => noA b, fun b z => absurd z (noA b), e0.funs, e0.frf⟩,
    rfl, e0.bare, Un.kept hk, ⟨_, x.toInCall.ns, fun i y v h1 h2 h3 => ?_⟩, fun y c h => ⟨_, x.cell y c h⟩, e0.hok.fresh (Nat.le_refl _), fun y c h => ?_, fun p hp => absurd (show p ∈ ([] : List (Addr × Obj)) from hp) (by simp), e0.hok.kept hk, ?_⟩
  · exact name_of_addr x.apart (PySem.mem_of_lookup h1) (PySem.mem_of_lookup h2)
  · have hy : scope.names.lookup y = some .cell ∨ scope.names.lookup y = some .free := hy
    rcases hy with hy | hy
    · exact cell_has hy
    · exact absurd rfl (S.nofree _ (PySem.mem_of_lookup hy))
  · exact Nat.le_of_lt (x.above y c (PySem.mem_of_lookup h))
  · have hi : i < vs.length := by
      unfold start at h2
      by_cases hi : i < vs.length
      · exact hi
      · rw [List.getElem?_append_right (by simpa using hi)] at h2
        rw [List.getElem?_replicate] at h2
        split at h2 <;> cases h2
    have ha : vs[i]? = some v := by
      unfold start at h2
      rw [List.getElem?_append_left (by simpa using hi), List.getElem?_map] at h2
      cases e : vs[i]? with
      | none => rw [e] at h2; cases h2
      | some a => rw [e] at h2; cases h2; rfl
    obtain ⟨u, hu, rv⟩ := r.get ha
    have hp : ps[i]? = some y := by
      rw [← S.pre, List.getElem?_take_of_lt (by omega)]; exact h1
    have ndP : ps.Nodup := by rw [← S.pre]; exact S.nd.sublist (List.take_sublist _ _)
    refine ⟨u, rv, ?_⟩
    rcases S.par y (List.mem_of_getElem? hp) with k | k
    · exact .inl ⟨k, bindL_get ndP hp hu k⟩
    · obtain ⟨c, e⟩ := cell_has (n := s.heap.objs.size + 1) k
      refine .inr ⟨.inl k, c, e, ?_⟩
      have q := x.cell y c e
      rw [bindC_get ndP hp hu (by show scope.names.lookup y ≠ _; rw [k]; decide)] at q
      exact q
  · exact e0.hok.fresh (Nat.le_of_lt (x.above y c (PySem.mem_of_lookup h)))
  · unfold start
    show _ = N.length
    rw [List.length_append, List.length_map, List.length_replicate]
    omega
theorem fn_of {CX : CXT} {P : Program} {w : World} {K : PySem.W.Frag} {mg : Str → Option Value} {base : Heap} {k : Nat} {f : Addr} {name qual : Str} {params : Arguments} {body : List Stmt} {scope : Scope} {dV kV doc pm cdv ct oc : Value} {an od : Option Addr}
    {osl : Array (Option Value)} {N ps : List Str} {sp : Sp} (lk : K.lookup f = some ⟨oc, od, .func (PySem.W.fnOf name qual params body scope dV kV doc pm an cdv ct), osl⟩) (hcd : PySem.W.codeIn K cdv qual = true) (S : FnScope N ps scope)
    (len : ∀ vs H Q E, sp vs H Q E → vs.length = ps.length)
    (hbody : ∀ (A : Around) (outer : List Env) (s : Shared) (H : Hp) (vs : List V) (Q : VK) (E : XK), Room k (A.deeper (envOfC qual scope s.heap.objs.size f cdv)) → sp vs H Q E →
      ∃ t, PSs (cxOf CX P w K mg base N qual scope f cdv A outer s H E) body t ∧ t { nx := fun _ H' => Q .non H', rt := Q } (start N vs) H) :
    FnOk P w K mg base CX (k + 1) f (PySem.W.fnOf name qual params body scope dV kV doc pm an cdv ct) ps sp := by
  refine ⟨len, fun A outer s H args us vs Q E hr e0 hb r hsp => ?_⟩
  have hl := len _ _ _ _ hsp
  have KX : K.In s.heap := e0.mod.kin.keeps fun b o e => (e0.bs b o e).1
  have lim : s.heap.NoLimit := e0.mod.nolimit.keeps fun b o e => (e0.bs b o e).1
  have hkind : ∀ y ∈ ps.zip us, scope.names.lookup y.1 = some .local ∨ (scope.names.lookup y.1 = some .cell ∧ ((cellsFrom (s.heap.objs.size + 1) scope.names []).lookup y.1).isSome = true) := fun ⟨n, v⟩ hy => by
    rcases S.par n (List.of_mem_zip hy).1 with q | q
    · exact .inl q
    · exact .inr ⟨q, PySem.W.cellsFrom_some _ _ _ (.inl q)⟩
  refine codeAny_call_function hr.depth (KX _ _ lk) rfl S.co S.gen rfl (PySem.W.codeRec_of KX hcd) (hb _ _ _ _ ?_)
  refine wpAny_newFunctionEnv_cells S.kind hkind fun env he s1 x => ?_
  subst he
  refine ⟨lim.keeps x.toInCall.keep, codeAny_func ?_⟩
  obtain ⟨t, ht, hq⟩ := hbody A outer s H vs Q E (hr.deeper _) hsp
  have I : Inv (cxOf CX P w K mg base N qual scope f cdv A outer s H E) [] (start N vs) H s1 := inv_start S hr.hd e0 hl r x
  refine wpAny_mono (ht [] s1 (start N vs) H _ I hq) (fun fl s' hs => ?_) fun e s' hs => hs
  have fin : ∀ {σ' : St} {H' : Hp} {v : V} {u : Value}, Inv (cxOf CX P w K mg base N qual scope f cdv A outer s H E) [] σ' H' s' → RelV v u → Q v H' → CE outer P w H s Q u s' :=
    fun {σ' H' v u} J rv q => ⟨v, H', J.os, J.bare, J.base, J.hok, rv, q⟩
  cases fl with
  | ret u =>
    obtain ⟨v, σ', H', J, rv, q⟩ := hs
    exact fin J rv q
  | next =>
    obtain ⟨σ', H', J, q⟩ := hs
    exact fin (v := V.non) (u := Value.none) J rfl q
  | brk =>
    obtain ⟨_, _, _, q⟩ := hs
    exact False.elim q
  | cont =>
    obtain ⟨_, _, _, q⟩ := hs
    exact False.elim q
end L2
namespace L2
open PySem PySem.Spec PyProof.Rows
section
variable {X : Cx} {x : Str} {p pos : Pos} {e : Expr} {es : List Expr} {t : TA} {id T : String} {r : List V → Hp → VK → Prop}
def tCB (r : List V → Hp → VK → Prop) (t : TA) : TE := fun σ H Q => t σ H fun vs H1 => r vs H1 Q
theorem pe_callB (hc : CallR X (.builtin id) r) (hg : Gl X x) (hm : X.mg x = none) (hv : bootBuiltins x = some (.builtin id)) (ha : PA X (e :: es) t) (hn : x ≠ "__name__" := by decide) (hdb : (x == ("__debug__" : Str)) = false := by decide)
    (he : starEach (e :: es) X.env = (false, eval e X.env) :: starEach es X.env := by rfl) (hpl : (backTo pos (starEach es X.env)).any (·.1) = false := by rfl) : PE X (.Call (.Name x p) (e :: es) [] pos) (tCB r t) := by
  intro pins s σ H Q I h
  refine wpAny_Call_Name_kw (ld_blt I hg hm hv ?_ hn hdb)
  exact PyProof.Rows.callWith_builtin1 (thn (ha pos pins s σ H _ I h) fun us s1 ⟨vs, H1, I1, r1, q1⟩ => hc pins s1 σ H1 vs us Q I1 r1 q1) he hpl
theorem pe_callTy (hc : CallR X (.type T) r) (hg : Gl X x) (hm : X.mg x = none) (hv : bootBuiltins x = some (.type T)) (ha : PA X (e :: es) t) (hn : x ≠ "__name__" := by decide) (hdb : (x == ("__debug__" : Str)) = false := by decide)
    (he : starEach (e :: es) X.env = (false, eval e X.env) :: starEach es X.env := by rfl) (hpl : (backTo pos (starEach es X.env)).any (·.1) = false := by rfl) : PE X (.Call (.Name x p) (e :: es) [] pos) (tCB r t) := by
  intro pins s σ H Q I h
  refine wpAny_Call_Name_kw (ld_blt I hg hm hv ?_ hn hdb)
  exact PyProof.Rows.callWith_type1 (thn (ha pos pins s σ H _ I h) fun us s1 ⟨vs, H1, I1, r1, q1⟩ => hc pins s1 σ H1 vs us Q I1 r1 q1) he hpl
end
end L2
namespace HT
open PySem PyProof.Rows
section
open PySem.SeqAt
open PySem.AutoSeq1 (wpAny_loadPart')
open PySem.MeetsSeq PySem.MeetsSeq2 PySem.MeetsSeq3
end
section
variable {prog : Program} {w : World} {A : Around} {E : Value → Shared → Prop} {s : Shared}
def sIx (n d : Nat) : Option Int → Nat
  | none => d
  | some v => if v < 0 then (v + (n : Int)).toNat else min v.toNat n
theorem sIx_none (n d : Nat) : sIx n d none = d := rfl
theorem sIx_nat (n d k : Nat) : sIx n d (some (k : Int)) = min k n := by
  show (if (k : Int) < 0 then ((k : Int) + (n : Int)).toNat else min (k : Int).toNat n) = min k n
  rw [if_neg (by omega), Int.toNat_natCast]
end
end HT
namespace L2
open PySem PySem.Spec PyProof.Rows
abbrev TO := St → Hp → (Option Int → Hp → Prop) → Prop
def PO (X : Cx) (e : Option Expr) (t : TO) : Prop :=
  ∀ (pins : List (Addr × Obj)) (s : Shared) (σ : St) (H : Hp) (Q : Option Int → Hp → Prop), Inv X pins σ H s → t σ H Q →
    wpAny (model X.prog X.w) X.A (evalPart e X.env) (fun u s' => ∃ o H', Inv X pins σ H' s' ∧ IsPart u o ∧ Q o H') X.xe s
def tNoPart : TO := fun _ H Q => Q none H
def tPart (t : TE) : TO := fun σ H Q => t σ H fun x H1 => ∃ i, x = .int i ∧ Q (some i) H1
section
variable {X : Cx} {e : Expr} {te : TE} {lo hi : Option Expr} {tl th : TO} {pos p2 : Pos}
theorem po_none : PO X none tNoPart := by
  intro pins s σ H Q I h
  rw [evalPart_none]
  exact wpAny_pure ⟨none, H, I, .none, h⟩
theorem po_some (h : PE X e te) : PO X (some e) (tPart te) := by
  intro pins s σ H Q I hw
  rw [evalPart_some]
  refine thn (h pins s σ H _ I hw) fun u s1 ⟨x, H1, I1, r1, q1⟩ => ?_
  obtain ⟨i, rfl, q⟩ := q1
  obtain ⟨t, rfl⟩ := r1
  exact ⟨some i, H1, I1, .int i t, q⟩
def SlR (X : Cx) (r : V → Option Int → Option Int → Hp → VK → Prop) : Prop :=
  ∀ (pins : List (Addr × Obj)) (s : Shared) (σ : St) (H : Hp) (x : V) (v vl vu : Value) (lo hi : Option Int) (sl : Addr) (Q : VK), Inv X pins σ H s → RelV x v → s.heap.IsSliceOf sl vl vu .none → IsPart vl lo → IsPart vu hi → r x lo hi H Q →
    ∃ T id, typeLookup (.type T) "__getitem__" = pure (some (.builtin id)) ∧ s.TypeIs v T ∧ wpAny (model X.prog X.w) X.A (getItem v (.ref sl)) (EP X pins σ Q) X.xe s
theorem SlR.or {r r' : V → Option Int → Option Int → Hp → VK → Prop} (h : SlR X r) (h' : SlR X r') : SlR X (fun x lo hi H Q => r x lo hi H Q ∨ r' x lo hi H Q) := by
  intro pins s σ H x v vl vu lo hi sl Q I rx hs pl pu q
  rcases q with q | q
  · exact h pins s σ H x v vl vu lo hi sl Q I rx hs pl pu q
  · exact h' pins s σ H x v vl vu lo hi sl Q I rx hs pl pu q
def tSl (r : V → Option Int → Option Int → Hp → VK → Prop) (te : TE) (tl th : TO) : TE := fun σ H Q => te σ H fun x H1 => tl σ H1 fun l H2 => th σ H2 fun u H3 => r x l u H3 Q
theorem pe_slice {r : V → Option Int → Option Int → Hp → VK → Prop} (hr : SlR X r) (he : PE X e te) (hl : PO X lo tl) (hu : PO X hi th) : PE X (.Subscript e (.Slice lo hi none p2) pos) (tSl r te tl th) := by
  intro pins s σ H Q I h
  refine Subscript_ (thn (he pins s σ H _ I h) fun v s1 ⟨x, H1, I1, r1, q1⟩ => ?_)
  refine wpAny_Slice (thn (hl pins s1 σ H1 _ I1 q1) fun vl s2 ⟨l, H2, I2, pl, q2⟩ => thn (hu pins s2 σ H2 _ I2 q2) fun vu s3 ⟨u, H3, I3, pu, q3⟩ => ?_)
  rw [evalPart_none]
  refine wpAny_pure ?_
  have I4 : Inv X pins σ H3 { s3 with heap := s3.heap.push { cls := .type "slice", data := .fields #[vl, vu, .none] } } := I3.kept (t' := s3.toks) fun b ob q => Heap.get?_push_of_some _ q
  obtain ⟨T, id, hT, ht, hg⟩ := hr pins { s3 with heap := s3.heap.push { cls := .type "slice", data := .fields #[vl, vu, .none] } } σ H3 x v vl vu l u s3.heap.objs.size Q I4 r1 (Heap.IsSliceOf.new ..) pl pu q3
  show wpAny (model X.prog X.w) X.A (subscriptTail e (.Slice lo hi none p2) v (.ref s3.heap.objs.size)) (EP X pins σ Q) X.xe { s3 with heap := s3.heap.push { cls := .type "slice", data := .fields #[vl, vu, .none] } }
  exact tail_any (ops := [.ref s3.heap.objs.size, v]) ht hT hg (by with_unfolding_all rfl)
def cutV (xs : List V) (lo hi : Option Int) : List V := (xs.drop (HT.sIx xs.length 0 lo)).take (HT.sIx xs.length xs.length hi - HT.sIx xs.length 0 lo)
theorem cutV_length (xs : List V) (lo hi : Option Int) : (cutV xs lo hi).length ≤ xs.length := by
  unfold cutV
  rw [List.length_take, List.length_drop]
  omega
end
end L2
namespace L2
open PySem PySem.Spec PyProof.Rows
def ixN (n : Nat) (i : Int) : Option Nat := if 0 ≤ i then (if i < n then some i.toNat else none) else if -(n : Int) ≤ i then some (i + n).toNat else none
def atI {α : Type} (xs : List α) (i : Int) : Option α := (ixN xs.length i).bind fun j => xs[j]?
theorem ixN_seq {n : Nat} {i : Int} {j : Nat} (h : ixN n i = some j) : seqIndex? i n = some j ∧ j < n ∧ -(n : Int) ≤ i ∧ i < n := by
  unfold ixN at h
  by_cases h0 : 0 ≤ i
  · rw [if_pos h0] at h
    by_cases h1 : i < n
    · rw [if_pos h1] at h
      have e : i.toNat = j := Option.some.inj h
      exact ⟨by rw [seqIndex_of h0 h1, e], by omega, by omega, h1⟩
    · rw [if_neg h1] at h; cases h
  · rw [if_neg h0] at h
    by_cases h1 : -(n : Int) ≤ i
    · rw [if_pos h1] at h
      have e : (i + n).toNat = j := Option.some.inj h
      exact ⟨by rw [seqIndex_neg (by omega) h1, e], by omega, h1, by omega⟩
    · rw [if_neg h1] at h; cases h
theorem atI_get {α : Type} {xs : List α} {i : Int} {v : α} (h : atI xs i = some v) : ∃ j, seqIndex? i xs.length = some j ∧ xs[j]? = some v ∧ j < xs.length ∧ -(xs.length : Int) ≤ i ∧ i < xs.length := by
  unfold atI at h
  cases e : ixN xs.length i with
  | none => rw [e] at h; cases h
  | some j =>
    rw [e] at h
    obtain ⟨h1, h2, h3, h4⟩ := ixN_seq e
    exact ⟨j, h1, h, h2, h3, h4⟩
theorem atI_nat {α : Type} {xs : List α} {j : Nat} {v : α} (h : xs[j]? = some v) : atI xs (j : Int) = some v := by
  have hj : j < xs.length := (List.getElem?_eq_some_iff.mp h).1
  have e : ixN xs.length (j : Int) = some j := by
    unfold ixN
    rw [if_pos (by omega), if_pos (by omega)]; simp
  unfold atI; rw [e]; exact h
theorem atI_last {α : Type} (xs : List α) (v : α) : atI (xs ++ [v]) (-1) = some v := by
  have hl : (xs ++ [v]).length = xs.length + 1 := by simp
  have e : ixN (xs ++ [v]).length (-1) = some xs.length := by
    unfold ixN
    rw [hl, if_neg (by decide), if_pos (by omega)]
    congr 1
    omega
  unfold atI
  rw [e]
  show (xs ++ [v])[xs.length]? = some v
  simp
def PlainIx (b : Expr) : Prop := ∀ o i, subscripted b false o i = operate [o, i] (getItem o i)
def IxR (X : Cx) (r : R2) : Prop :=
  ∀ (value slice : Expr) (pins : List (Addr × Obj)) (s : Shared) (σ : St) (H : Hp) (x y : V) (v u : Value) (Q : VK), Inv X pins σ H s → RelV x v → RelV y u → r x y H Q →
    subscripted slice false v u = operate [v, u] (getItem v u) → wpAny (model X.prog X.w) X.A (subscriptTail value slice v u) (EP X pins σ Q) X.xe s
def MtR (X : Cx) (id : String) (r : V → List V → Hp → VK → Prop) : Prop :=
  ∀ (pins : List (Addr × Obj)) (s : Shared) (σ : St) (H : Hp) (x : V) (xs : List V) (v : Value) (us : List Value) (Q : VK), Inv X pins σ H s → RelV x v → Vals xs us → r x xs H Q →
    wpAny (model X.prog X.w) X.A (call (.builtin id) (v :: us)) (EP X pins σ Q) X.xe s
section
variable {X : Cx} {a b : Expr} {ta tb : TE} {pos : Pos}
theorem IxR.or {r r' : R2} (h : IxR X r) (h' : IxR X r') : IxR X (fun x y H Q => r x y H Q ∨ r' x y H Q) := by
  intro value slice pins s σ H x y v u Q I rx ry q hs
  rcases q with q | q
  · exact h value slice pins s σ H x y v u Q I rx ry q hs
  · exact h' value slice pins s σ H x y v u Q I rx ry q hs
theorem MtR.or {id : String} {r r' : V → List V → Hp → VK → Prop} (h : MtR X id r) (h' : MtR X id r') : MtR X id (fun x xs H Q => r x xs H Q ∨ r' x xs H Q) := by
  intro pins s σ H x xs v us Q I rx rs q
  rcases q with q | q
  · exact h pins s σ H x xs v us Q I rx rs q
  · exact h' pins s σ H x xs v us Q I rx rs q
theorem pe_ix {r : R2} (hr : IxR X r) (ha : PE X a ta) (hb : PE X b tb) (hs : PlainIx b) : PE X (.Subscript a b pos) (tOp r ta tb) := by
  intro pins s σ H Q I h
  exact Subscript_ (binT ha hb I h fun v u s2 x y H2 I2 rx ry q => hr a b pins s2 σ H2 x y v u Q I2 rx ry q (hs _ _))
def rIxL (K : PySem.W.Frag) : R2 := fun x y H Q => ∃ p xs i v, x = .ref p ∧ y = .int i ∧ SqL K H p xs ∧ atI xs i = some v ∧ Q v H
def rIxT (K : PySem.W.Frag) : R2 := fun x y H Q => ∃ p xs i v, x = .ref p ∧ y = .int i ∧ SqT K H p xs ∧ atI xs i = some v ∧ Q v H
theorem ix_list : IxR X (rIxL X.K) := by
  intro value slice pins s σ H x y v u Q I rx ry h hs
  obtain ⟨p, xs, i, z, rfl, rfl, hq, he, q⟩ := h
  cases rx
  obtain ⟨t, rfl⟩ := ry
  obtain ⟨its, r, pl, hz⟩ := I.list hq
  obtain ⟨j, h1, h2, h3, h4, h5⟩ := atI_get he
  obtain ⟨w, ew, rw'⟩ := r.get h2
  have hl := r.length
  have hn := line63
  have fin : EP X pins σ Q w s := ⟨z, H, I, rw', q⟩
  by_cases h0 : 0 ≤ i
  · have hj : i.toNat = j := by
      rw [seqIndex_of h0 h5] at h1
      exact Option.some.inj h1
    exact item_listR pl.isList h0 (by omega) (by rw [hj]; simpa using ew) fin hs
  · have hj : (i + (its.toArray.size : Int)).toNat = j := by
      rw [seqIndex_neg (by omega) h4] at h1
      rw [List.size_toArray, ← hl]
      exact Option.some.inj h1
    exact subscriptTail_builtinR (x := w) pl.isList.typeIs slot_list_getitem.lookup
      (wpAny_getItem_list_neg (Q := fun r s' => r = w ∧ EP X pins σ Q r s') pl.isList (by omega) (by rw [List.size_toArray] <;> omega) (by omega) (by rw [hj]; simpa using ew) ⟨rfl, fin⟩) hs
theorem ix_tup : IxR X (rIxT X.K) := by
  intro value slice pins s σ H x y v u Q I rx ry h hs
  obtain ⟨p, xs, i, z, rfl, rfl, hq, he, q⟩ := h
  cases rx
  obtain ⟨t, rfl⟩ := ry
  obtain ⟨its, r, pl, hz⟩ := I.tuple hq
  obtain ⟨j, h1, h2, h3, h4, h5⟩ := atI_get he
  obtain ⟨w, ew, rw'⟩ := r.get h2
  have hl := r.length
  have hn := line63
  have fin : EP X pins σ Q w s := ⟨z, H, I, rw', q⟩
  exact subscriptTail_builtinR (x := w) pl.typeIs slot_tuple_getitem.lookup
    (getItem_tuple (j := j) (Q := fun r s' => r = w ∧ EP X pins σ Q r s') pl (by omega) (by omega) (by rw [List.size_toArray, ← hl]; exact h1) (by simpa using ew) ⟨rfl, fin⟩) hs
theorem mapSeq_set (its : List Value) (n j : Nat) (u : Value) : Obj.mapSeq (·.setIfInBounds j u) { cls := .type "list", data := .seq its.toArray n } = { cls := .type "list", data := .seq (its.set j u).toArray n } := by
  simp [Obj.mapSeq]
theorem Inv.lst {pins : List (Addr × Obj)} {σ : St} {H : Hp} {s : Shared} {p : Addr} {xs : List V} (I : Inv X pins σ H s) (h : H p = some (.lst xs)) :
    ∃ (its : List Value) (n : Nat), Vals xs its ∧ s.heap.get? p = some { cls := .type "list", data := .seq its.toArray n } ∧ xs.length ≤ sizeLine := by
  obtain ⟨z, its, n, r, e⟩ := I.hok p _ h
  exact ⟨its, n, r, e, z⟩
theorem Inv.lstUpd {pins : List (Addr × Obj)} {σ : St} {H : Hp} {s : Shared} {p : Addr} {xs ys : List V} {its its' : List Value} {n n' : Nat} {f : Obj → Obj} (I : Inv X pins σ H s) (h : H p = some (.lst xs))
    (ho : s.heap.get? p = some { cls := .type "list", data := .seq its.toArray n }) (hf : f { cls := .type "list", data := .seq its.toArray n } = { cls := .type "list", data := .seq its'.toArray n' }) (r : Vals ys its') (hz : ys.length ≤ sizeLine) (t : Nat) :
    Inv X pins σ (upd H p (.lst ys)) { s with heap := s.heap.update p f, toks := t } := by
  have e : (s.heap.update p f).get? p = some { cls := .type "list", data := .seq its'.toArray n' } := by
    rw [Heap.get?_update_self f ho (by rw [hf] <;> rfl), hf]
  refine I.write (x := p) (e := p) (by rw [h]; trivial) (.inl rfl) (fun b u hb q => (Heap.get?_update_other _ _ (Ne.symm hb)).trans q) ⟨_, e⟩ ?_
  exact ⟨hz, its', n', r, e⟩
def rSetL : V → V → V → Hp → (Hp → Prop) → Prop := fun o i v H Q => ∃ p xs k j, o = .ref p ∧ i = .int k ∧ H p = some (.lst xs) ∧ ixN xs.length k = some j ∧ Q (upd H p (.lst (xs.set j v)))
theorem set_list : PSet X rSetL := by
  intro pins s σ H o i v ov iv u Q I ro ri rv h
  obtain ⟨p, xs, k, j, rfl, rfl, hp, hj, q⟩ := h
  cases ro
  obtain ⟨t, rfl⟩ := ri
  obtain ⟨its, n, r, ho, hz⟩ := I.lst hp
  obtain ⟨h1, h2, h3, h4⟩ := ixN_seq hj
  have hl := r.length
  have hn := line63
  have I' : Inv X pins σ (upd H p (.lst (xs.set j v))) { s with heap := s.heap.update p (Obj.mapSeq (·.setIfInBounds j u)) } :=
    I.lstUpd hp ho (mapSeq_set its n j u) (r.set rv j) (by rw [List.length_set]; exact hz) s.toks
  by_cases h0 : 0 ≤ k
  · have hk : k.toNat = j := by
      rw [seqIndex_of h0 h4] at h1
      exact Option.some.inj h1
    exact PySem.W.ki_setAt ho h0 (by omega) (by rw [List.size_toArray, ← hl]; exact h4) (by rw [hk]; exact ⟨_, I', q⟩)
  · have hk : (k + (its.toArray.size : Int)).toNat = j := by
      rw [seqIndex_neg (by omega) h3] at h1
      rw [List.size_toArray, ← hl]
      exact Option.some.inj h1
    exact PySem.W.ki_setBack ho (by omega) (by rw [List.size_toArray, ← hl]; exact h3) (by omega) (by rw [hk]; exact ⟨_, I', q⟩)
theorem slice_bounds (lo hi : Option Int) (n : Nat) : (sliceBounds lo hi none n).1 = ((HT.sIx n 0 lo : Nat) : Int) ∧ (sliceBounds lo hi none n).2.1 = ((HT.sIx n n hi : Nat) : Int) ∧ (sliceBounds lo hi none n).2.2 = 1 := by
  refine ⟨?_, ?_, rfl⟩
  · cases lo with
    | none => simp [sliceBounds, HT.sIx]
    | some i =>
      simp only [sliceBounds, HT.sIx, Option.getD_none, show (1 : Int) > 0 by decide, if_true]
      by_cases h : i < 0
      · simp only [h, if_true] <;> omega
      · simp only [h, if_false] <;> omega
  · cases hi with
    | none => simp [sliceBounds, HT.sIx]
    | some i =>
      simp only [sliceBounds, HT.sIx, Option.getD_none, show (1 : Int) > 0 by decide, if_true]
      by_cases h : i < 0
      · simp only [h, if_true] <;> omega
      · simp only [h, if_false] <;> omega
theorem slicePick_cut (its : List Value) (lo hi : Option Int) : slicePick its.toArray lo hi none = ((its.drop (HT.sIx its.length 0 lo)).take (HT.sIx its.length its.length hi - HT.sIx its.length 0 lo)).toArray := by
  obtain ⟨h1, h2, h3⟩ := slice_bounds lo hi its.toArray.size
  unfold slicePick
  rw [h1, h2, h3]
  simp only [sliceRange_one, pick_run, List.size_toArray] <;> rfl
def rSlL (K : PySem.W.Frag) : V → Option Int → Option Int → Hp → VK → Prop := fun x lo hi H Q => ∃ a xs, x = .ref a ∧ SqL K H a xs ∧ ∀ p, H p = none → Q (.ref p) (upd H p (.lst (cutV xs lo hi)))
theorem sl_list : SlR X (rSlL X.K) := by
  intro pins s σ H x v vl vu lo hi sl Q I rx hs pl pu h
  obtain ⟨a, xs, rfl, hx, q⟩ := h
  cases rx
  obtain ⟨its, r, ht, hz⟩ := I.list hx
  have hlen := r.length
  refine ⟨"list", _, slot_list_getitem.lookup, ht.isList.typeIs, ?_⟩
  refine wpAny_getItem_list_slice ht.isList hs pl pu .none (by simp) ?_ (by rw [List.size_toArray] <;> omega)
  rw [slicePick_cut, ← hlen]
  refine ⟨.ref s.heap.objs.size, _, I.laid (t' := s.toks) (o := .lst (cutV xs lo hi)) (fun b ob q => Heap.get?_push_of_some _ q) (Nat.le_refl _) ?_, rfl, q _ (I.hok.fresh (Nat.le_refl _))⟩
  exact ⟨Nat.le_trans (cutV_length xs lo hi) hz, _, 0, (r.drop (HT.sIx xs.length 0 lo)).take (HT.sIx xs.length xs.length hi - HT.sIx xs.length 0 lo), Heap.get?_push_size _ rfl⟩
theorem call_len_seq : CallR X (.builtin "len") (fun xs H Q => ∃ p ys, xs = [.ref p] ∧ (SqL X.K H p ys ∨ SqT X.K H p ys) ∧ Q (.int ys.length) H) := by
  intro pins s σ H xs us Q I r h
  obtain ⟨p, ys, rfl, hq, q⟩ := h
  obtain ⟨u, rfl, rx⟩ := vals1 r
  cases rx
  have hn := line63
  rcases hq with hq | hq
  · obtain ⟨its, r', pl, hz⟩ := I.list hq
    have hlen := r'.length
    exact Calls.call_len_list pl.isList (by simp only [List.size_toArray] <;> omega) ⟨.int ys.length, H, I.tok _, ⟨s.toks + 1, by rw [List.size_toArray, hlen]⟩, q⟩
  · obtain ⟨its, r', pl, hz⟩ := I.tuple hq
    have hlen := r'.length
    exact len_tuple pl (by simp only [List.size_toArray] <;> omega) ⟨.int ys.length, H, I.tok _, ⟨s.toks + 1, by rw [List.size_toArray, hlen]⟩, q⟩
theorem CallR.or {f : Value} {r r' : List V → Hp → VK → Prop} (h : CallR X f r) (h' : CallR X f r') : CallR X f (fun xs H Q => r xs H Q ∨ r' xs H Q) := by
  intro pins s σ H xs us Q I rs q
  rcases q with q | q
  · exact h pins s σ H xs us Q I rs q
  · exact h' pins s σ H xs us Q I rs q
def tyV (K : PySem.W.Frag) (T : String) (x : V) (H : Hp) : Prop := match x with
  | .str _ => T = "str"
  | .int _ => T = "int"
  | .ref p => (T = "list" ∧ ∃ xs, SqL K H p xs) ∨ (T = "tuple" ∧ ∃ o, K.lookup p = some o ∧ o.cls = .type "tuple" ∧ o.dict = none) ∨
      (T = "dict" ∧ ((∃ kvs, H p = some (.dK kvs)) ∨ ∃ kvs, H p = some (.dT kvs))) ∨ (T = "set" ∧ ∃ S n, H p = some (.set S n))
  | _ => False
theorem tyV_is {pins : List (Addr × Obj)} {σ : St} {H : Hp} {s : Shared} {T : String} {x : V} {v : Value} (I : Inv X pins σ H s) (r : RelV x v) (ty : tyV X.K T x H) :
    s.TypeIs v T ∧ ∀ a, v = .ref a → ∃ ob, s.heap.get? a = some ob ∧ ob.dict = none := by
  cases x with
  | str z =>
    obtain ⟨t, rfl⟩ := r
    cases (show T = "str" from ty)
    exact ⟨typeIs_str s z t, fun _ e => nomatch e⟩
  | int i =>
    obtain ⟨t, rfl⟩ := r
    cases (show T = "int" from ty)
    exact ⟨typeIs_int s i t, fun _ e => nomatch e⟩
  | ref p =>
    cases r
    rcases ty with ⟨rfl, xs, hq⟩ | ⟨rfl, o, hk, hc, hd⟩ | ⟨rfl, hk⟩ | ⟨rfl, S, n, hk⟩
    · obtain ⟨its, _, pl, _⟩ := I.list hq
      refine ⟨pl.isList.typeIs, fun a e => ?_⟩
      cases e
      obtain ⟨o, n, e, c, hd, _⟩ := pl
      exact ⟨o, e, hd⟩
    · refine ⟨⟨o, I.kIn p o hk, hc⟩, fun a e => ?_⟩
      cases e
      exact ⟨o, I.kIn _ o hk, hd⟩
    · have z : ∃ o, s.heap.get? p = some o ∧ o.ExactDict := by
        rcases hk with ⟨kvs, hk⟩ | ⟨kvs, hk⟩
        · obtain ⟨_, _, _, _, o, _, _, e, ex, _⟩ := I.hok p _ hk
          exact ⟨o, e, ex⟩
        · obtain ⟨_, _, _, _, o, _, _, e, ex, _⟩ := I.hok p _ hk
          exact ⟨o, e, ex⟩
      obtain ⟨o, e, ex⟩ := z
      refine ⟨⟨o, e, ex.1⟩, fun a e2 => ?_⟩
      cases e2
      exact ⟨o, e, ex.2.1⟩
    · obtain ⟨o, _, _, _, e, ex, _⟩ := I.hok p _ hk
      refine ⟨⟨o, e, ex.1⟩, fun a e2 => ?_⟩
      cases e2
      exact ⟨o, e, ex.2.1⟩
  | _ => exact False.elim ty
def tBM0 (K : PySem.W.Frag) (T : String) (r : V → List V → Hp → VK → Prop) (to : TE) : TE := fun σ H Q => to σ H fun x H1 => tyV K T x H1 ∧ r x [] H1 Q
def tBM (K : PySem.W.Frag) (T : String) (r : V → List V → Hp → VK → Prop) (to : TE) (t : TA) : TE := fun σ H Q => to σ H fun x H1 => tyV K T x H1 ∧ t σ H1 fun xs H2 => r x xs H2 Q
variable {o e : Expr} {es : List Expr} {to : TE} {t : TA} {name : Str} {apos cpos : Pos} {T id : String} {r : V → List V → Hp → VK → Prop}
theorem pe_bm0 (pa : PlainAttrs T) (slot : Slot T name id) (hty : typeOf (.builtin id) = pure (.type "method_descriptor")) (hm : MtR X id r) (ho : PE X o to)
    (hbase : attributeBase o name X.env (eval o X.env) = eval o X.env := by rfl) (hline : (apos.endLine == cpos.line) = true := by rfl) : PE X (.Call (.Attribute o name apos) [] [] cpos) (tBM0 X.K T r to) := by
  intro pins s σ H Q I h
  refine wpAny_Call_method0_late hbase hline (thn (ho pins s σ H _ I h) fun v s1 ⟨x, H1, I1, r1, ty, q1⟩ => ?_)
  obtain ⟨h1, h2⟩ := tyV_is I1 r1 ty
  exact ⟨T, id, pa, slot, hty, h1, h2, Calls.callWith_builtin rfl (PySem.evalArgs_none (hm pins s1 σ H1 x [] v [] Q I1 r1 .nil q1))⟩
theorem pe_bm (pa : PlainAttrs T) (slot : Slot T name id) (hty : typeOf (.builtin id) = pure (.type "method_descriptor")) (hm : MtR X id r) (ho : PE X o to) (ha : PA X (e :: es) t)
    (hbase : attributeBase o name X.env (eval o X.env) = eval o X.env := by rfl)
    (hfew : ((backTo cpos (starEach (e :: es) X.env)).all (fun x => !x.1) && (backToKw cpos (keywordEach [] X.env)).all (fun x => x.1.isSome)
      && decide ((e :: es).length + ([] : List Keyword).length + (if ([] : List Keyword).isEmpty then 0 else 1) < 30)) = true := by rfl)
    (hline : (apos.endLine == cpos.line) = true := by rfl) (hs : starEach (e :: es) X.env = (false, eval e X.env) :: starEach es X.env := by rfl) (hplain : (backTo cpos (starEach es X.env)).any (·.1) = false := by rfl) :
    PE X (.Call (.Attribute o name apos) (e :: es) [] cpos) (tBM X.K T r to t) := by
  intro pins s σ H Q I h
  refine wpAny_Call_method_late hbase hfew hline rfl (thn (ho pins s σ H _ I h) fun v s1 ⟨x, H1, I1, r1, ty, q1⟩ => ?_)
  obtain ⟨h1, h2⟩ := tyV_is I1 r1 ty
  refine ⟨T, id, pa, slot, hty, h1, h2, ?_⟩
  have hA := ha cpos pins s1 σ H1 _ I1 q1
  rw [hs] at hA ⊢
  refine Calls.callWith_builtin (by show (false || (backTo cpos (starEach es X.env)).any (·.1)) = false; rw [hplain] <;> rfl) (Calls.evalArgs_plain ?_)
  exact thn hA fun us s2 ⟨vs, H2, I2, r2, q2⟩ => hm pins s2 σ H2 x vs v us Q I2 r1 r2 q2
/- xs.append(e), list.index on a module's tuple .. are MtR facts of 06m -/
end
end L2
namespace L2
open PySem PySem.Spec PyProof.Rows
def MtM (X : Cx) (id : String) (r : V → List V → Hp → VK → Prop) : Prop :=
  ∀ (pins : List (Addr × Obj)) (s : Shared) (σ : St) (H : Hp) (x : V) (xs : List V) (v : Value) (us : List Value) (Q : VK), Inv X pins σ H s → RelV x v → Vals xs us → r x xs H Q →
    wpAny (model X.prog X.w) X.A (call (.builtin id) (v :: us)) (EP X pins σ Q) X.xe s
theorem Vals.one : ∀ {x : V} {us : List Value}, Vals [x] us → ∃ u, us = [u] ∧ RelV x u
  | _, _, .cons r .nil => ⟨_, rfl, r⟩
theorem Vals.two : ∀ {x y : V} {us : List Value}, Vals [x, y] us → ∃ u v, us = [u, v] ∧ RelV x u ∧ RelV y v
  | _, _, _, .cons r (.cons q .nil) => ⟨_, _, rfl, r, q⟩
theorem Vals.zero : ∀ {us : List Value}, Vals [] us → us = []
  | _, .nil => rfl
theorem Vals.dropLast {xs : List V} {us : List Value} (h : Vals xs us) : Vals xs.dropLast us.dropLast := by
  induction h with
  | nil => exact .nil
  | cons r t ih =>
    cases t with
    | nil => exact .nil
    | cons q t' => exact .cons r ih
theorem Vals.eraseIdx : ∀ {xs : List V} {us : List Value} (i : Nat), Vals xs us → Vals (xs.eraseIdx i) (us.eraseIdx i)
  | _, _, _, .nil => .nil
  | _, _, 0, .cons _ t => t
  | _, _, i + 1, .cons r t => .cons r (Vals.eraseIdx i t)
theorem Vals.reverse {xs : List V} {us : List Value} (h : Vals xs us) : Vals xs.reverse us.reverse := by
  induction h with
  | nil => exact .nil
  | cons r t ih => rw [List.reverse_cons, List.reverse_cons]; exact Vals.append ih (.cons r .nil)
theorem Vals.rep {xs : List V} {us : List Value} (h : Vals xs us) : ∀ k : Nat, Vals (List.replicate k xs).flatten (List.replicate k us).flatten
  | 0 => .nil
  | k + 1 => by
    rw [List.replicate_succ, List.replicate_succ, List.flatten_cons, List.flatten_cons]
    exact Vals.append h (Vals.rep h k)
theorem erase_last {α : Type} (l : List α) : l.eraseIdx (l.length - 1) = l.dropLast := by
  induction l with
  | nil => rfl
  | cons a r ih =>
    cases r with
    | nil => rfl
    | cons b r =>
      have e : (a :: b :: r).length - 1 = ((b :: r).length - 1) + 1 := by
        have h1 : (a :: b :: r).length = r.length + 2 := rfl
        have h2 : (b :: r).length = r.length + 1 := rfl
        omega
      rw [e, List.eraseIdx_cons_succ, ih]
      all_goals rfl
theorem foldl_rep (its : List Value) : ∀ (k : Nat) (acc : List Value),
    List.foldl (fun x1 x2 => x1 ++ x2) acc.toArray (List.replicate k its.toArray) = (acc ++ (List.replicate k its).flatten).toArray
  | 0, acc => by simp
  | k + 1, acc => by
    have e : acc.toArray ++ its.toArray = (acc ++ its).toArray := by simp
    have e2 : (acc ++ its) ++ (List.replicate k its).flatten = acc ++ (List.replicate (k + 1) its).flatten := by
      rw [List.replicate_succ, List.flatten_cons, List.append_assoc]
    rw [← e2, ← foldl_rep its k (acc ++ its), ← e, List.replicate_succ, List.foldl_cons]
section
variable {X : Cx} {pins : List (Addr × Obj)} {σ : St} {H : Hp} {s : Shared} {l b : Addr} {xs ys zs : List V}
theorem Inv.lset {its its' : List Value} {n : Nat} {f : Array Value → Array Value} {t' : Nat} (I : Inv X pins σ H s) (hH : H l = some (.lst xs))
    (e : s.heap.get? l = some { cls := .type "list", data := .seq its.toArray n }) (hf : f its.toArray = its'.toArray) (hv : Vals ys its') (hz : ys.length ≤ sizeLine) :
    Inv X pins σ (upd H l (.lst ys)) { s with heap := s.heap.update l (Obj.mapSeq f), toks := t' } := by
  have q := PySem.IsL.update e f
  rw [hf] at q
  refine I.write (x := l) (e := l) (by rw [hH]; exact trivial) (.inl rfl) (fun b' u hb hu => (Heap.get?_update_other s.heap (Obj.mapSeq f) (Ne.symm hb)).trans hu) ⟨_, q⟩ ?_
  exact ⟨hz, its', _, hv, q⟩
theorem Inv.lnew {its : List Value} {t' : Nat} (I : Inv X pins σ H s) (hv : Vals ys its) (hz : ys.length ≤ sizeLine) :
    Inv X pins σ (upd H s.heap.objs.size (.lst ys)) { s with heap := s.heap.push { cls := .type "list", data := .seq its.toArray }, toks := t' } :=
  I.laid (fun _ _ q => Heap.get?_push_of_some _ q) (Nat.le_refl _) ⟨hz, its, 0, hv, Heap.get?_push_size _ rfl⟩
theorem Inv.fresh (I : Inv X pins σ H s) : H s.heap.objs.size = none := I.hok.fresh (Nat.le_refl _)
theorem Inv.lstM (I : Inv X pins σ H s) (hH : H l = some (.lst xs)) : xs.length ≤ sizeLine ∧ ∃ (its : List Value) (n : Nat), Vals xs its ∧ xs.length = its.length ∧ s.heap.get? l = some { cls := .type "list", data := .seq its.toArray n } := by
  obtain ⟨z, its, n, r, e⟩ := I.hok l _ hH
  exact ⟨z, its, n, r, r.length, e⟩
theorem notLongL {n : Nat} (h : n ≤ sizeLine) : Builtin.List.listTooLong n = false := by
  unfold Builtin.List.listTooLong
  exact decide_eq_false (by omega)
end
section
variable {X : Cx}
def rAppend : V → List V → Hp → VK → Prop := fun x vs H Q => ∃ l xs y, x = .ref l ∧ vs = [y] ∧ H l = some (.lst xs) ∧ xs.length < sizeLine ∧ Q .non (upd H l (.lst (xs ++ [y])))
theorem mt_append : MtM X "list.append" rAppend := by
  intro pins s σ H x vs v us Q I rx rv h
  obtain ⟨l, xs, y, rfl, rfl, hH, hz, q⟩ := h
  cases rx
  obtain ⟨u, rfl, ru⟩ := rv.one
  obtain ⟨z, its, n, r, hl, e⟩ := I.lstM hH
  refine call_meets F.slot_list_append ⟨_, e, rfl⟩ F.entry_list_append (F.args_list_append_2 _ _) (PySem.list_append l its.toArray n u (by rw [List.size_toArray]; omega)) ⟨e, ?_⟩
  refine ⟨.non, _, I.lset (its' := its ++ [u]) hH e (by simp) (r.append (.cons ru .nil)) ?_, rfl, q⟩
  rw [List.length_append, List.length_singleton]
  omega
def rExtend : V → List V → Hp → VK → Prop := fun x vs H Q => ∃ l b xs zs, x = .ref l ∧ vs = [.ref b] ∧ H l = some (.lst xs) ∧ H b = some (.lst zs) ∧ xs.length + zs.length ≤ sizeLine ∧ Q .non (upd H l (.lst (xs ++ zs)))
theorem mt_extend : MtM X "list.extend" rExtend := by
  intro pins s σ H x vs v us Q I rx rv h
  obtain ⟨l, b, xs, zs, rfl, rfl, hH, hB, hz, q⟩ := h
  cases rx
  obtain ⟨u, rfl, ru⟩ := rv.one
  cases ru
  obtain ⟨z, its, n, r, hl, e⟩ := I.lstM hH
  obtain ⟨z2, its2, n2, r2, hl2, e2⟩ := I.lstM hB
  have hsz : its.toArray.size + its2.toArray.size ≤ sizeLine := by rw [List.size_toArray, List.size_toArray]; omega
  have hlong : ¬ (!its.toArray.isEmpty && Builtin.List.listTooLong (its.toArray.size + its2.toArray.size)) = true := by
    rw [notLongL hsz, Bool.and_false]
    exact Bool.false_ne_true
  refine call_meets F.slot_list_extend ⟨_, e, rfl⟩ F.entry_list_extend (F.args_list_extend_2 _ _)
    (AutoSeq1.list_extend_list_list_0 l its.toArray n b its2.toArray n2 hlong (by rw [List.size_toArray]; omega) (by omega)) ⟨e, e2, ?_⟩
  refine ⟨.non, _, I.lset (its' := its ++ its2) hH e (by simp) (r.append r2) ?_, rfl, q⟩
  rw [List.length_append]
  omega
def rPop : V → List V → Hp → VK → Prop := fun x vs H Q => ∃ l xs y, x = .ref l ∧ vs = [] ∧ H l = some (.lst xs) ∧ xs[xs.length - 1]? = some y ∧ Q y (upd H l (.lst xs.dropLast))
theorem mt_pop : MtM X "list.pop" rPop := by
  intro pins s σ H x vs v us Q I rx rv h
  obtain ⟨l, xs, y, rfl, rfl, hH, hy, q⟩ := h
  cases rx
  have hus := rv.zero
  subst hus
  obtain ⟨z, its, n, r, hl, e⟩ := I.lstM hH
  obtain ⟨u, hu, ru⟩ := r.get hy
  have hy' : its.toArray[its.toArray.size - 1]? = some u := by
    show its.toArray[its.length - 1]? = some u
    rw [← Array.getElem?_toList, ← hl]
    exact hu
  refine call_meets F.slot_list_pop ⟨_, e, rfl⟩ F.entry_list_pop (F.args_list_pop_1 _) (MeetsSeq.list_pop_last l its.toArray n u hy' (by rw [List.size_toArray]; omega)) ⟨e, ?_⟩
  refine ⟨y, _, I.lset (its' := its.dropLast) hH e ?_ r.dropLast ?_, ru, q⟩
  · show its.toArray.eraseIdxIfInBounds (its.toArray.size - 1) = its.dropLast.toArray
    rw [List.size_toArray, List.eraseIdxIfInBounds_toArray, erase_last]
  · rw [List.length_dropLast]
    omega
def rCat : R2 := fun x y H Q => ∃ l b xs zs, x = .ref l ∧ y = .ref b ∧ H l = some (.lst xs) ∧ H b = some (.lst zs) ∧ xs.length + zs.length ≤ sizeLine ∧ ∀ p, H p = none → Q (.ref p) (upd H p (.lst (xs ++ zs)))
theorem op_cat : OpR X (binaryOp .Add) rCat := by
  intro pins s σ H x y v u Q I rx ry h
  obtain ⟨l, b, xs, zs, rfl, rfl, hH, hB, hz, q⟩ := h
  cases rx
  cases ry
  obtain ⟨z, its, n, r, hl, e⟩ := I.lstM hH
  obtain ⟨z2, its2, n2, r2, hl2, e2⟩ := I.lstM hB
  refine PySem.P.add_list e e2 ?_ (by rw [List.size_toArray, List.size_toArray]; omega)
  have ea : its.toArray ++ its2.toArray = (its ++ its2).toArray := by simp
  rw [ea]
  exact ⟨.ref _, _, I.lnew (t' := s.toks) (r.append r2) (by rw [List.length_append]; omega), rfl, q _ I.fresh⟩
def rRep : R2 := fun x y H Q => ∃ l k xs, x = .ref l ∧ y = .int k ∧ H l = some (.lst xs) ∧ -(2 ^ 63) ≤ k ∧ k < 2 ^ 63 ∧ xs.length * k.toNat ≤ sizeLine ∧
  ∀ p, H p = none → Q (.ref p) (upd H p (.lst (List.replicate k.toNat xs).flatten))
theorem len_rep {α : Type} (xs : List α) (k : Nat) : (List.replicate k xs).flatten.length = k * xs.length := by
  induction k with
  | zero => simp
  | succ k ih => rw [List.replicate_succ, List.flatten_cons, List.length_append, ih, Nat.succ_mul, Nat.add_comm]
theorem op_rep : OpR X (binaryOp .Mult) rRep := by
  intro pins s σ H x y v u Q I rx ry h
  obtain ⟨l, k, xs, rfl, rfl, hH, h1, h2, hz, q⟩ := h
  cases rx
  obtain ⟨t, rfl⟩ := ry
  obtain ⟨z, its, n, r, hl, e⟩ := I.lstM hH
  have hlen : its.toArray.size * k.toNat ≤ sizeLine := by rw [List.size_toArray, ← hl]; exact hz
  have hcap : ¬ its.toArray.size * k.toNat > (2 ^ 63 - 1) / 8 := by
    have : (sizeLine : Nat) ≤ (2 ^ 63 - 1) / 8 := by decide
    omega
  have hfit : ¬ (!Builtin.List.listFitsIndex k) = true := by
    rw [fitsIndex_both h1 h2]
    exact Bool.false_ne_true
  have hlong : ¬ Builtin.List.listTooLong (its.toArray.size * k.toNat) = true := by
    rw [notLongL hlen]
    exact Bool.false_ne_true
  have hnew : List.foldl (fun x1 x2 => x1 ++ x2) #[] (List.replicate (if its.toArray.isEmpty = true then 0 else k.toNat) its.toArray) = (List.replicate k.toNat its).flatten.toArray := by
    have f0 : ∀ m : Nat, List.foldl (fun x1 x2 => x1 ++ x2) #[] (List.replicate m its.toArray) = (List.replicate m its).flatten.toArray := fun m => by
      have := foldl_rep its m []
      rw [List.nil_append] at this
      exact this
    rw [f0]
    cases its with
    | nil => simp
    | cons a r' => rw [if_neg (by simp)]
  refine wpAny_binaryOp_repeat_ref (T := "list") (U := "int") (by decide) ⟨_, e, rfl⟩ (fun s' => typeIs_int s' k t) noFill_list_mul F.fills_int_mul F.slot_int_rmul repeat_list F.slot_int_index.lookup
    (call_meets F.slot_int_rmul (typeIs_int s k t) F.entry_int_rmul (F.args_int_rmul_2 _ _) (int___rmul___int_list k t l its.toArray n)
      ⟨e, rfl, ⟨_, e, rfl⟩, call_meets F.slot_list_mul ⟨_, e, rfl⟩ F.entry_list_mul (F.args_list_mul_2 _ _) (AutoListH.list___mul___list_int_3 l its.toArray n k t hfit hcap hlong) ⟨e, ?_⟩⟩)
  rw [hnew]
  exact ⟨.ref _, _, I.lnew (t' := s.toks) (r.rep k.toNat) (by rw [len_rep, Nat.mul_comm]; exact hz), rfl, q _ I.fresh⟩
end
section
variable {prog : Program} {w : World} {A : Around} {E : Value → Shared → Prop} {s : Shared}
set_option maxRecDepth 100000 in
end
section
variable {X : Cx}
end
end L2
namespace L2
open PySem PySem.Spec PyProof.Rows
theorem Vals.ints : ∀ {ns : List Int} {us : List Value}, Vals (ns.map V.int) us → IntsAre us ns
  | [], us, h => by
    rw [List.map_nil] at h
    cases h
    exact IntsAre.nil
  | n :: ns, us, h => by
    rw [List.map_cons] at h
    cases h with
    | cons r t =>
      obtain ⟨k, rfl⟩ := r
      exact IntsAre.cons n k (Vals.ints t)
theorem Vals.strs : ∀ {xs : List Str} {us : List Value}, Vals (xs.map V.str) us → StrsAre us xs
  | [], us, h => by
    rw [List.map_nil] at h
    cases h
    exact StrsAre.nil
  | x :: xs, us, h => by
    rw [List.map_cons] at h
    cases h with
    | cons r t =>
      obtain ⟨k, rfl⟩ := r
      exact StrsAre.cons x k (Vals.strs t)
section
variable {prog : Program} {w : World} {A : Around} {E : Value → Shared → Prop} {s : Shared} {l : Addr} {its : List Value} {ns : List Int} {Q : Value → Shared → Prop}
end
section
variable {X : Cx}
end
section
variable {X : Cx}
end
section
variable {X : Cx}
end
section
variable {X : Cx}
end
mutual
inductive Dp (K : PySem.W.Frag) (H : Hp) : V → PyData → Prop
  | non : Dp K H .non .none
  | bl (b : Bool) : Dp K H (.bl b) (.bool b)
  | int (i : Int) : Dp K H (.int i) (.int i)
  | str (x : Str) : Dp K H (.str x) (.str x)
  | lst {a : Addr} {xs : List V} {ds : List PyData} : SqL K H a xs → DpAll K H xs ds → Dp K H (.ref a) (.list ds)
  | tup {a : Addr} {xs : List V} {ds : List PyData} : SqT K H a xs → DpAll K H xs ds → Dp K H (.ref a) (.tuple ds)
inductive DpAll (K : PySem.W.Frag) (H : Hp) : List V → List PyData → Prop
  | nil : DpAll K H [] []
  | cons {v : V} {vs : List V} {d : PyData} {ds : List PyData} : Dp K H v d → DpAll K H vs ds → DpAll K H (v :: vs) (d :: ds)
end
section
variable {X : Cx} {pins : List (Addr × Obj)} {σ : St} {H : Hp} {s : Shared}
mutual
theorem Dp.reads (I : Inv X pins σ H s) : ∀ (d : PyData) (v : V) (u : Value), Dp X.K H v d → RelV v u → ∃ as, Reads s.heap u d as
  | .none, _, _, h, r => by
    cases h
    cases r
    exact ⟨_, Reads.none⟩
  | .bool b, _, _, h, r => by
    cases h
    cases r
    exact ⟨_, Reads.bool b⟩
  | .int i, _, _, h, r => by
    cases h
    obtain ⟨t, rfl⟩ := r
    exact ⟨_, Reads.int i t⟩
  | .str x, _, _, h, r => by
    cases h
    obtain ⟨t, rfl⟩ := r
    exact ⟨_, Reads.str x t⟩
  | .list ds, _, _, h, r => by
    cases h with
    | lst hs ha =>
      cases r
      obtain ⟨its, rv, ⟨o, n, ho, hc, _, hd⟩, _⟩ := I.list hs
      obtain ⟨as, hr⟩ := Dp.readsAll I ds _ its ha rv
      exact ⟨_, Reads.list ho hc hd hr⟩
  | .tuple ds, _, _, h, r => by
    cases h with
    | tup hs ha =>
      cases r
      obtain ⟨its, rv, ⟨o, ho, hc, n, hd⟩, _⟩ := I.tuple hs
      obtain ⟨as, hr⟩ := Dp.readsAll I ds _ its ha rv
      exact ⟨_, Reads.tuple ho hc hd hr⟩
  | .dict _, _, _, h, _ => by cases h
theorem Dp.readsAll (I : Inv X pins σ H s) : ∀ (ds : List PyData) (vs : List V) (us : List Value), DpAll X.K H vs ds → Vals vs us → ∃ as, ReadsAll s.heap us ds as
  | [], _, _, h, r => by
    cases h
    cases r
    exact ⟨_, ReadsAll.nil⟩
  | d :: ds, _, _, h, r => by
    cases h with
    | cons h1 h2 =>
      cases r with
      | cons r1 r2 =>
        obtain ⟨as, q1⟩ := Dp.reads I d _ _ h1 r1
        obtain ⟨bs, q2⟩ := Dp.readsAll I ds _ _ h2 r2
        exact ⟨_, ReadsAll.cons q1 q2⟩
end
end
section
variable {X : Cx}
end
end L2
namespace L2
open PySem PySem.Spec PyProof.Rows
abbrev CellAt (h : Heap) (c : Addr) (v : Option Value) : Prop := h.IsCell c v
def relS (scope sc : Scope) : Scope :=
  { scope with names := scope.names.map fun (n, k) => if (k == .free && sc.kind == .function && sc.names.lookup n == some .cell) then (n, .cell) else (n, k) }
def cloFrom (cells : List (Str × Addr)) : List (Str × NameKind) → List (Str × Addr) → List (Str × Addr)
  | [], acc => acc
  | (n, k) :: r, acc => if k == .free then cloFrom cells r ((n, (cells.lookup n).getD 0) :: acc) else cloFrom cells r acc
theorem closure_loop (env : Env) (f : Str × NameKind → List (Str × Addr) → Sem (ForInStep (List (Str × Addr))))
    (hf : ∀ n k c, f (n, k) c = if k == .free then (do let a ← cellOf env n; pure (.yield ((n, a) :: c))) else pure (.yield c)) :
    ∀ (names : List (Str × NameKind)) (acc : List (Str × Addr)), (∀ y ∈ names, y.2 = .free → ∃ c, env.cells.lookup y.1 = some c) → forIn names acc f = pure (cloFrom env.cells names acc)
  | [], acc, _ => by rw [List.forIn_nil]; rfl
  | (n, k) :: r, acc, h => by
    rw [List.forIn_cons, hf]
    have ih := fun acc => closure_loop env f hf r acc fun y hy => h y (List.mem_cons_of_mem _ hy)
    unfold cloFrom
    by_cases hk : (k == NameKind.free) = true
    · rw [if_pos hk, if_pos hk]
      obtain ⟨c, hc⟩ := h (n, k) List.mem_cons_self (by simpa using hk)
      have e : cellOf env n = pure c := by unfold cellOf; rw [hc]
      rw [e]
      have e2 : (env.cells.lookup n).getD 0 = c := by rw [hc]; rfl
      rw [e2]
      exact ih _
    · rw [if_neg hk, if_neg hk]
      exact ih _
theorem closure_ok {scope : Scope} {env : Env} (h : ∀ y ∈ scope.names, y.2 = .free → ∃ c, env.cells.lookup y.1 = some c) : closureFor scope env = pure (cloFrom env.cells scope.names []) := by
  simp only [closureFor]
  rw [closure_loop env _ (fun n k c => rfl) scope.names [] h]
  rfl
theorem mem_lookup {α : Type} : ∀ {l : List (Str × α)} {n : Str} {c : α}, (n, c) ∈ l → ∃ c', l.lookup n = some c'
  | (k, v) :: r, n, c, h => by
    rw [List.lookup_cons]
    cases hb : n == k with
    | true => exact ⟨_, rfl⟩
    | false =>
      rcases List.mem_cons.mp h with e | h
      · cases e; simp at hb
      · exact mem_lookup h
theorem cloFrom_mem {cells : List (Str × Addr)} : ∀ {names : List (Str × NameKind)} {acc : List (Str × Addr)} {n : Str} {c : Addr}, (n, c) ∈ cloFrom cells names acc → (n, c) ∈ acc ∨ ((n, .free) ∈ names ∧ c = (cells.lookup n).getD 0)
  | [], _, _, _, h => .inl h
  | (m, k) :: r, acc, n, c, h => by
    unfold cloFrom at h
    split at h
    · rename_i hk
      have hk : k = .free := by simpa using hk
      rcases cloFrom_mem h with h | ⟨h1, h2⟩
      · rcases List.mem_cons.mp h with e | h
        · cases e; exact .inr ⟨hk ▸ List.mem_cons_self, rfl⟩
        · exact .inl h
      · exact .inr ⟨List.mem_cons_of_mem _ h1, h2⟩
    · rcases cloFrom_mem h with h | ⟨h1, h2⟩
      · exact .inl h
      · exact .inr ⟨List.mem_cons_of_mem _ h1, h2⟩
theorem cloFrom_acc {cells : List (Str × Addr)} : ∀ {names : List (Str × NameKind)} {acc : List (Str × Addr)} {p : Str × Addr}, p ∈ acc → p ∈ cloFrom cells names acc
  | [], _, _, h => h
  | (m, k) :: r, acc, p, h => by
    unfold cloFrom
    split
    · exact cloFrom_acc (List.mem_cons_of_mem _ h)
    · exact cloFrom_acc h
theorem cloFrom_has {cells : List (Str × Addr)} : ∀ {names : List (Str × NameKind)} {acc : List (Str × Addr)} {n : Str}, (n, .free) ∈ names → (n, (cells.lookup n).getD 0) ∈ cloFrom cells names acc
  | (m, k) :: r, acc, n, h => by
    unfold cloFrom
    rcases List.mem_cons.mp h with e | h
    · cases e
      exact cloFrom_acc List.mem_cons_self
    · split
      · exact cloFrom_has h
      · exact cloFrom_has h
theorem cells_mem : ∀ {names : List (Str × NameKind)} {h : Heap} {acc : List (Str × Addr)} {x : Str} {c : Addr}, (x, c) ∈ cellsFrom h.objs.size names acc →
    (x, c) ∈ acc ∨ ((x, .cell) ∈ names ∧ h.objs.size ≤ c ∧ CellAt (pushCells h names) c none)
  | [], _, _, _, _, h => .inl h
  | (n, k) :: r, h, acc, x, c, hm => by
    unfold cellsFrom at hm
    unfold pushCells
    split at hm
    · rename_i hk
      rw [if_pos hk]
      have hk : k = .cell := by simpa using hk
      rw [← Heap.size_push h { cls := .type "cell", data := .cell none }] at hm
      rcases cells_mem hm with hm | ⟨h1, h2, h3⟩
      · rcases List.mem_cons.mp hm with e | hm
        · cases e
          exact .inr ⟨hk ▸ List.mem_cons_self, Nat.le_refl _, _, pushCells_keeps r _ _ _ (Heap.get?_push_size _ rfl), rfl⟩
        · exact .inl hm
      · rw [Heap.size_push] at h2
        exact .inr ⟨List.mem_cons_of_mem _ h1, Nat.le_of_succ_le h2, h3⟩
    · rename_i hk
      rw [if_neg hk]
      rcases cells_mem hm with hm | ⟨h1, h2, h3⟩
      · exact .inl hm
      · exact .inr ⟨List.mem_cons_of_mem _ h1, h2, h3⟩
theorem cells_acc : ∀ {names : List (Str × NameKind)} {n : Nat} {acc : List (Str × Addr)} {p : Str × Addr}, p ∈ acc → p ∈ cellsFrom n names acc
  | [], _, _, _, h => h
  | (m, k) :: r, n, acc, p, h => by
    unfold cellsFrom
    split
    · exact cells_acc (List.mem_cons_of_mem _ h)
    · exact cells_acc h
theorem cells_has : ∀ {names : List (Str × NameKind)} {n : Nat} {acc : List (Str × Addr)} {x : Str}, (x, .cell) ∈ names → ∃ c, (x, c) ∈ cellsFrom n names acc
  | (m, k) :: r, n, acc, x, h => by
    unfold cellsFrom
    rcases List.mem_cons.mp h with e | h
    · cases e
      exact ⟨n, cells_acc List.mem_cons_self⟩
    · split
      · exact cells_has h
      · exact cells_has h
theorem cells_inj : ∀ {names : List (Str × NameKind)} {h : Heap} {acc : List (Str × Addr)} {x y : Str} {c : Addr}, (∀ p ∈ acc, p.2 < h.objs.size) → (∀ x y c, (x, c) ∈ acc → (y, c) ∈ acc → x = y) →
    (x, c) ∈ cellsFrom h.objs.size names acc → (y, c) ∈ cellsFrom h.objs.size names acc → x = y
  | [], _, _, _, _, _, _, hi, h1, h2 => hi _ _ _ h1 h2
  | (n, k) :: r, h, acc, x, y, c, hl, hi, h1, h2 => by
    unfold cellsFrom at h1 h2
    split at h1
    · rename_i hk
      rw [if_pos hk] at h2
      rw [← Heap.size_push h { cls := .type "cell", data := .cell none }] at h1 h2
      refine cells_inj (h := h.push _) (fun p hp => ?_) (fun x y c a b => ?_) h1 h2
      · rw [Heap.size_push]
        rcases List.mem_cons.mp hp with rfl | hp
        · exact Nat.lt_succ_self _
        · exact Nat.lt_succ_of_lt (hl p hp)
      · rcases List.mem_cons.mp a with e | a <;> rcases List.mem_cons.mp b with e' | b
        · cases e; cases e'; rfl
        · cases e; exact absurd (hl _ b) (Nat.lt_irrefl _)
        · cases e'; exact absurd (hl _ a) (Nat.lt_irrefl _)
        · exact hi _ _ _ a b
    · rename_i hk
      rw [if_neg hk] at h2
      exact cells_inj hl hi h1 h2
theorem newEnv_comp {M : Model} {A : Around} {E : Value → Shared → Prop} {s : Shared} {scope : Scope} {globals : Addr} {closure : List (Str × Addr)} {qual : Str} {func : Option Addr} {code : Value} {around : Env} {builtins : Addr} {Q : Env → Shared → Prop}
    (h : Q (newEnv scope s.heap.objs.size globals (cellsFrom (s.heap.objs.size + 1) scope.names closure) qual func code (some around) builtins)
      { s with heap := pushCells (s.heap.push { cls := .type "dict", data := .dict #[] }) scope.names }) :
    wpAny M A (newFunctionEnv scope globals closure [] qual func code (some around) builtins) Q E s := by
  simp only [newFunctionEnv, Option.isSome_some, if_true]
  refine wpAny_bind (wpAny_alloc ?_)
  refine wpAny_bind (wpAny_layCells _ (fun n k c => rfl) scope.names closure _ _ ?_)
  rw [show ({ s with heap := s.heap.push { cls := .type "dict", data := .dict #[] } } : Shared).heap.objs.size = s.heap.objs.size + 1 from Heap.size_push ..]
  rw [List.forIn_nil]
  exact wpAny_bind (wpAny_pure (wpAny_pure h))
theorem lookup_relS {sc : Scope} : ∀ {names : List (Str × NameKind)} {x : Str} {k : NameKind},
    (names.map fun (n, k) => if (k == NameKind.free && sc.kind == .function && sc.names.lookup n == some .cell) then (n, NameKind.cell) else (n, k)).lookup x = some k →
    ∃ k', names.lookup x = some k' ∧ (k = k' ∨ (k' = .free ∧ k = .cell))
  | [], _, _, h => by simp at h
  | (n, k₀) :: r, x, k, h => by
    have ih := @lookup_relS sc r x k
    have h' : List.lookup x ((if (k₀ == NameKind.free && sc.kind == .function && sc.names.lookup n == some .cell) = true then (n, NameKind.cell) else (n, k₀)) :: (r.map _)) = some k := h
    cases hx : x == n with
    | true =>
      simp only [List.lookup_cons, hx]
      by_cases hc : (k₀ == NameKind.free && sc.kind == .function && sc.names.lookup n == some .cell) = true
      · rw [if_pos hc] at h'
        simp only [List.lookup_cons, hx] at h'
        cases h'
        simp only [Bool.and_eq_true, beq_iff_eq] at hc
        exact ⟨k₀, rfl, .inr ⟨hc.1.1, rfl⟩⟩
      · rw [if_neg hc] at h'
        simp only [List.lookup_cons, hx] at h'
        cases h'
        exact ⟨_, rfl, .inl rfl⟩
    | false =>
      simp only [List.lookup_cons, hx]
      by_cases hc : (k₀ == NameKind.free && sc.kind == .function && sc.names.lookup n == some .cell) = true
      · rw [if_pos hc] at h'
        simp only [List.lookup_cons, hx] at h'
        exact ih h'
      · rw [if_neg hc] at h'
        simp only [List.lookup_cons, hx] at h'
        exact ih h'
structure BlkOk (N : List Str) (sc scope : Scope) (own : List (Str × Nat)) : Prop where
  kind : scope.kind = .function
  uniq : ∀ y ∈ scope.names, scope.names.lookup y.1 = some y.2
  ix : ∀ p ∈ own, N[p.2]? = some p.1
  free : ∀ y ∈ scope.names, y.2 = .free → sc.names.lookup y.1 = some .cell ∨ sc.names.lookup y.1 = some .free
  own : ∀ y ∈ scope.names, y.2 = .local ∨ y.2 = .cell → y.1 ∈ own.map (·.1) ∨ y.1 ∉ N
def wipe (σ : St) : List Nat → St
  | [] => σ
  | v :: vs => (wipe σ vs).set v none
theorem wipe_length (σ : St) : ∀ vs : List Nat, (wipe σ vs).length = σ.length
  | [] => rfl
  | v :: vs => by unfold wipe; rw [List.length_set, wipe_length σ vs]
theorem wipe_some {σ : St} {i : Nat} {x : V} : ∀ {vs : List Nat}, (wipe σ vs)[i]? = some (some x) → σ[i]? = some (some x) ∧ i ∉ vs
  | [], h => ⟨h, by simp⟩
  | v :: vs, h => by
    unfold wipe at h
    by_cases hi : v = i
    · subst hi
      by_cases hv : v < (wipe σ vs).length
      · rw [List.getElem?_set_self hv] at h; cases h
      · rw [List.getElem?_eq_none (by simpa using hv)] at h; cases h
    · rw [List.getElem?_set_ne hi] at h
      obtain ⟨h1, h2⟩ := wipe_some h
      exact ⟨h1, by simp only [List.mem_cons, not_or]; exact ⟨fun e => hi e.symm, h2⟩⟩
abbrev Cx.blk (X : Cx) (s : Shared) (H : Hp) (scope : Scope) (cenv : Env) (fp : List Addr) : Cx := { X with s_0 := s, H_0 := H, env := cenv, outer := X.stack, ex := fp, fn := fun x => scope.names.lookup x == some .cell, pn := [], xe := fun _ _ => False }
section
variable {X : Cx} {pins : List (Addr × Obj)} {σ : St} {H : Hp} {s : Shared}
theorem block_start {scope : Scope} {own : List (Str × Nat)} {fp : List Addr} (I : Inv X pins σ H s) (ok : BlkOk X.N X.env.scope scope own) (hN : X.N.Nodup) (hfp : ∀ b ∈ fp, FpOk X pins H b ∧ b < s.heap.objs.size) :
    Inv (X.blk s H scope (compEnvC scope (cellsFrom (s.heap.objs.size + 1) scope.names (cloFrom X.env.cells scope.names [])) s.heap.objs.size X.env) fp) [] (wipe σ (own.map (·.2))) H { s with heap := pushCells (s.heap.push { cls := .type "dict", data := .dict #[] }) scope.names } := by
  have hfree : ∀ y ∈ scope.names, y.2 = .free → ∃ c, X.env.cells.lookup y.1 = some c := fun y hy e => by
    rcases ok.free y hy e with k | k
    · exact I.ok.has _ (.inl k)
    · exact I.ok.has _ (.inr k)
  generalize hcenv : compEnvC scope (cellsFrom (s.heap.objs.size + 1) scope.names (cloFrom X.env.cells scope.names [])) s.heap.objs.size X.env = cenv
  have kp : ∀ b o, s.heap.get? b = some o → (pushCells (s.heap.push { cls := .type "dict", data := .dict #[] }) scope.names).get? b = some o := fun b o e => pushCells_keeps _ _ _ _ (Heap.get?_push_of_some _ e)
  have hL : cenv.locals = s.heap.objs.size := by rw [← hcenv]; rfl
  have hcl : cenv.cells = cellsFrom (s.heap.objs.size + 1) scope.names (cloFrom X.env.cells scope.names []) := by rw [← hcenv]; rfl
  have hsc : cenv.scope = relS scope X.env.scope := by rw [← hcenv]; rfl
  rw [← Heap.size_push s.heap { cls := .type "dict", data := .dict #[] }] at hcl
  have cm : ∀ {y c}, (y, c) ∈ cloFrom X.env.cells scope.names [] → X.env.cells.lookup y = some c ∧ c < s.heap.objs.size := fun {y c} hm => by
    rcases cloFrom_mem hm with hm | ⟨h1, rfl⟩
    · cases hm
    · obtain ⟨c, hc⟩ := hfree _ h1 rfl
      rw [hc]
      obtain ⟨w, z⟩ := I.cell _ _ hc
      exact ⟨rfl, z.lt⟩
  have mem : ∀ {y c}, cenv.cells.lookup y = some c → (X.env.cells.lookup y = some c ∧ c < s.heap.objs.size) ∨ (s.heap.objs.size + 1 ≤ c ∧ CellAt (pushCells (s.heap.push { cls := .type "dict", data := .dict #[] }) scope.names) c none) := fun {y c} e => by
    rw [hcl] at e
    rcases cells_mem (PySem.mem_of_lookup e) with hm | ⟨_, h2, h3⟩
    · exact .inl (cm hm)
    · rw [Heap.size_push] at h2; exact .inr ⟨h2, h3⟩
  have look : ∀ {y}, scope.names.lookup y = some .free → ∃ c, cenv.cells.lookup y = some c ∧ X.env.cells.lookup y = some c := fun {y} hl => by
    have hy : (y, NameKind.free) ∈ scope.names := PySem.mem_of_lookup hl
    obtain ⟨c', e'⟩ := mem_lookup (cells_acc (names := scope.names) (n := (s.heap.push { cls := .type "dict", data := .dict #[] }).objs.size) (cloFrom_has (cells := X.env.cells) (acc := []) hy))
    rw [← hcl] at e'
    refine ⟨c', e', ?_⟩
    rw [hcl] at e'
    rcases cells_mem (PySem.mem_of_lookup e') with hm | ⟨h1, _, _⟩
    · exact (cm hm).1
    · have := ok.uniq _ h1
      rw [hl] at this; cases this
  have okB : (X.blk s H scope cenv fp).Ok := by
    refine ⟨I.ok.mod, by show cenv.scope.kind = _; rw [hsc]; exact ok.kind, by show cenv.globals = _; rw [← hcenv]; exact I.ok.glob, by show cenv.builtins = _; rw [← hcenv]; exact I.ok.blt, by show s.heap.objs.size ≤ cenv.locals; rw [hL]; exact Nat.le_refl _,
      fun y z c e1 e2 => ?_, fun y hy => ?_, fun y c z e => ?_, I.ok.hd, I.ok.frames, .inl rfl, fun b hb => ⟨?_, fun y c e z => ?_⟩, I.bs, Nat.le_trans I.ok.bsz I.sz, fun b o e hb => ?_, fun b hb z => ?_, I.stack, I.stkFree⟩
    · have e1 : cenv.cells.lookup y = some c := e1
      have e2 : cenv.cells.lookup z = some c := e2
      rw [hcl] at e1 e2
      refine cells_inj (fun p hp => ?_) (fun y z c a b => I.ok.inj y z c (cm a).1 (cm b).1) (PySem.mem_of_lookup e1) (PySem.mem_of_lookup e2)
      rw [Heap.size_push]
      exact Nat.lt_succ_of_lt (cm (y := p.1) (c := p.2) hp).2
    · show ∃ c, cenv.cells.lookup y = some c
      have key : ∀ k, cenv.kindOf y = some k → (k = .cell ∨ k = .free) → ∃ c, cenv.cells.lookup y = some c := fun k hk hk' => by
        unfold Env.kindOf at hk
        rw [hsc] at hk
        obtain ⟨k', e, r⟩ := lookup_relS hk
        have : k' = .cell ∨ k' = .free := by
          rcases r with rfl | ⟨rfl, _⟩
          · exact hk'
          · exact .inr rfl
        rcases this with rfl | rfl
        · obtain ⟨c, hm⟩ := cells_has (n := (s.heap.push { cls := .type "dict", data := .dict #[] }).objs.size) (acc := cloFrom X.env.cells scope.names []) (PySem.mem_of_lookup e)
          obtain ⟨c', e'⟩ := mem_lookup hm
          exact ⟨c', by rw [hcl]; exact e'⟩
        · obtain ⟨c, h1, _⟩ := look e
          exact ⟨c, h1⟩
      rcases hy with hy | hy
      · exact key _ hy (.inl rfl)
      · exact key _ hy (.inr rfl)
    · have z : (scope.names.lookup y == some NameKind.cell) = true := z
      have z : scope.names.lookup y = some .cell := by simpa using z
      have e : cenv.cells.lookup y = some c := e
      rw [hcl] at e
      rcases cells_mem (PySem.mem_of_lookup e) with hm | ⟨_, h2, _⟩
      · rcases cloFrom_mem hm with hm | ⟨h1, _⟩
        · cases hm
        · have q := ok.uniq _ h1
          rw [z] at q; cases q
      · rw [Heap.size_push] at h2
        exact Nat.le_of_succ_le h2
    · show b ≠ cenv.locals
      rw [hL]; exact Nat.ne_of_lt (hfp b hb).2
    · have e : cenv.cells.lookup y = some c := e
      rcases mem e with ⟨h1, _⟩ | ⟨h1, _⟩
      · exact (hfp b hb).1.2.2.2.2.1 y c h1 z
      · have h2 : s.heap.objs.size + 1 ≤ b := by rw [← z]; exact h1
        exact absurd (Nat.lt_of_lt_of_le (hfp b hb).2 (Nat.le_of_succ_le h2)) (Nat.lt_irrefl _)
    · rcases (hfp b hb).1.2.2.2.1 with z | z
      · exact I.ok.noex b o e z
      · exact absurd (Nat.lt_of_lt_of_le (Heap.lt_size e) (Nat.le_trans I.ok.bsz z)) (Nat.lt_irrefl _)
    · rcases List.mem_cons.mp (I.stkSub b z) with z | z
      · exact (hfp b hb).1.2.1 z
      · exact (hfp b hb).1.2.2.1 z
  refine ⟨okB, rfl, I.bare, Un.kept kp, ⟨fun _ => none, ?_, fun i y av e1 e2 e3 => ?_⟩, fun y c e => ?_, ?_, fun y c e => ?_, fun p hp => ?_, I.hok.kept kp, by rw [wipe_length]; exact I.len⟩
  · show Heap.Ns _ cenv.locals _
    rw [hL]
    exact Heap.Ns.keeps (Heap.Ns.new ..) fun b o e => pushCells_keeps _ _ _ _ e
  · obtain ⟨e2, hne⟩ := wipe_some e2
    have hfr : scope.names.lookup y = some .free ∧ (cenv.kindOf y = some .cell ∨ cenv.kindOf y = some .free) := by
      have key : ∀ k, cenv.scope.names.lookup y = some k → k = .local ∨ k = .cell ∨ k = .free → scope.names.lookup y = some .free ∧ (cenv.kindOf y = some .cell ∨ cenv.kindOf y = some .free) := fun k hk hk' => by
        have hk0 := hk
        rw [hsc] at hk
        obtain ⟨k', e, r⟩ := lookup_relS hk
        have no : ¬ (k' = .local ∨ k' = .cell) := fun hh => by
          rcases ok.own _ (PySem.mem_of_lookup e) hh with e' | e'
          · obtain ⟨p, hp, hpy⟩ := List.mem_map.mp e'
            have e3 := ok.ix p hp
            have : p.1 = y := hpy
            rw [this] at e3
            exact hne (List.mem_map.mpr ⟨p, hp, nodup_ix hN e3 e1⟩)
          · exact e' (List.mem_of_getElem? e1)
        rcases r with rfl | ⟨rfl, rfl⟩
        · rcases hk' with rfl | rfl | rfl
          · exact absurd (.inl rfl) no
          · exact absurd (.inr rfl) no
          · exact ⟨e, .inr hk0⟩
        · exact ⟨e, .inl hk0⟩
      have e3 : Vis cenv.scope y := e3
      rcases e3 with e3 | e3 | e3
      · exact key _ e3 (.inl rfl)
      · exact key _ e3 (.inr (.inl rfl))
      · exact key _ e3 (.inr (.inr rfl))
    obtain ⟨m, hn, hl⟩ := I.loc
    have hvis : Vis X.env.scope y := (ok.free _ (PySem.mem_of_lookup hfr.1) rfl).elim (fun k => .inr (.inl k)) (fun k => .inr (.inr k))
    obtain ⟨w, r, q⟩ := hl i y av e1 e2 hvis
    refine ⟨w, r, .inr ⟨hfr.2, ?_⟩⟩
    obtain ⟨c, h1, h2⟩ := look hfr.1
    rcases q with ⟨k, _⟩ | ⟨_, c', e', z⟩
    · have k : X.env.scope.names.lookup y = some .local := k
      rcases ok.free _ (PySem.mem_of_lookup hfr.1) rfl with k' | k' <;> rw [show X.env.scope.names.lookup y = _ from k'] at k <;> cases k
    · rw [h2] at e'; cases e'
      exact ⟨c, h1, z.keeps kp⟩
  · have e : cenv.cells.lookup y = some c := e
    rcases mem e with ⟨h1, _⟩ | ⟨_, z⟩
    · obtain ⟨w, z⟩ := I.cell y c h1
      exact ⟨w, z.keeps kp⟩
    · exact ⟨_, z⟩
  · show H cenv.locals = none
    rw [hL]; exact I.hok.fresh (Nat.le_refl _)
  · have e : cenv.cells.lookup y = some c := e
    rcases mem e with ⟨h1, _⟩ | ⟨h1, _⟩
    · exact I.freeC y c h1
    · exact I.hok.fresh (Nat.le_of_succ_le h1)
  · exact absurd (show p ∈ ([] : List (Addr × Obj)) ++ [] from hp) (by simp)
theorem app_ok {E : Value → Shared → Prop} {D : Addr} {xs : List V} {y : V} {v : Value} {Q : Value → Shared → Prop} (I : Inv X pins σ H s) (hD : H D = some (.lst xs)) (hz : xs.length < sizeLine) (r : RelV y v)
    (h : ∀ s', Inv X pins σ (upd H D (.lst (xs ++ [y]))) s' → Q .none s') : wpAny (model X.prog X.w) X.A (call (.builtin "list.append") [.ref D, v]) Q E s := by
  obtain ⟨hz', its, n, ri, e⟩ := I.hok D _ hD
  have hl := ri.length
  refine append_at (hsz := by rw [List.size_toArray]; omega) e fun h' sb ho' => ?_
  refine h { s with heap := h' } (I.write (t' := s.toks) (by rw [hD]; trivial) (.inl rfl) (fun b u hb q => (sb.2 b hb).trans q) ⟨_, ho'⟩ ⟨by rw [List.length_append]; exact hz, its ++ [v], n + 1, ri.append (.cons r .nil), ?_⟩)
  rw [ho']
  simp
def PTs (X : Cx) (ifs : List Expr) (t : TT) : Prop :=
  ∀ (pins : List (Addr × Obj)) (s : Shared) (σ : St) (H : Hp) (Q : Bool → Hp → Prop), Inv X pins σ H s → t σ H Q →
    wpAny (model X.prog X.w) X.A (forIn ifs true fun c r => if r = true then do let ok ← isTrue c X.env (eval c X.env); pure (ForInStep.yield ok) else pure (ForInStep.yield r)) (TP X pins σ Q) X.xe s
theorem pts_one {c : Expr} {t : TT} (h : PT X c t) : PTs X [c] t := fun pins s σ H Q I hw => wpAny_tests_one (h pins s σ H Q I hw)
end
theorem thnF {α : Type} {t : Sem α} {Q Q' : α → Shared → Prop} {M : Model} {A : Around} {E : Value → Shared → Prop} {s : Shared} (h : wpAny M A t Q (fun _ _ => False) s) (hQ : ∀ a s, Q a s → Q' a s) : wpAny M A t Q' E s := wpAny_mono h hQ fun _ _ z => False.elim z
theorem compLoop_any {prog : Program} {w : World} {A : Around} {R : Result → Shared → Prop} {s : Shared} {elt target iter : Expr} {ifs : List Expr} {scope : Scope} {pos : Pos} {it acc : Value} {env : Env} (I : Nat → Shared → Prop)
    (turn : ∀ n s, I n s → wpAny (model prog w) A (pyNext it) (fun r s₁ => match r with
      | none => R (.ok .next) s₁
      | some v => wpAny (model prog w) A (letOwnedTupleGo target it v) (fun _ s₁' => wpAny (model prog w) A (assign target env v) (fun _ s₂ =>
          wpAny (model prog w) A (forIn ifs true fun c r => if r = true then do let ok ← isTrue c env (eval c env); pure (ForInStep.yield ok) else pure (ForInStep.yield r)) (fun ok s₃ =>
            if ok = true then wpAny (model prog w) A (eval elt env) (fun x s₄ =>
              wpAny (model prog w) A (call (.builtin "list.append") [acc, x]) (fun _ s₅ => ∃ m, m < n ∧ I m s₅) (notedBy (model prog w) A env fun e s' => R (.error e) s') s₄) (notedBy (model prog w) A env fun e s' => R (.error e) s') s₃
            else ∃ m, m < n ∧ I m s₃) (notedBy (model prog w) A env fun e s' => R (.error e) s') s₂) (notedBy (model prog w) A env fun e s' => R (.error e) s') s₁') (notedBy (model prog w) A env fun e s' => R (.error e) s') s₁) (notedBy (model prog w) A env fun e s' => R (.error e) s') s)
    (n : Nat) (h : I n s) :
    codeAny (model prog w) A (.compLoop (.ListComp elt [⟨target, iter, ifs, 0⟩] scope pos) 0 it acc env) R s := by
  refine codeAny_loop rfl I (fun n s hI => ?_) n h
  show wpAny _ A ((compTurn (.ListComp elt [⟨target, iter, ifs, 0⟩] scope pos) 0 it acc env).onRaise (fun x => do noteFrame x env; theTreesLotGoes x)) _ _ s
  refine wpAny_noted ?_
  rw [compTurn_list]
  refine wpAny_bind (wpAny_standAt (wpAny_bind (wpAny_mono (turn n s hI) (fun r s₁ h₁ => ?_) fun _ _ h' => h')))
  cases r with
  | none => exact wpAny_pure h₁
  | some v =>
    refine wpAny_bind (wpAny_mono h₁ (fun _ s₁' h₁' => ?_) fun _ _ h' => h')
    refine wpAny_bind (wpAny_mono h₁' (fun _ s₂ h₂ => wpAny_bind (wpAny_mono h₂ (fun ok s₃ h₃ => ?_) fun _ _ h' => h')) fun _ _ h' => h')
    cases ok with
    | false => exact wpAny_pure ⟨rfl, h₃⟩
    | true =>
      exact wpAny_bind (wpAny_bind (wpAny_mono h₃ (fun x s₄ h₄ => wpAny_bind (wpAny_mono h₄ (fun _ s₅ h₅ => wpAny_pure (wpAny_pure ⟨rfl, h₅⟩)) fun _ _ h' => h')) fun _ _ h' => h'))
section
variable {X : Cx}
def tLc (wi : TI) (g : TG) (tt : TT) (te : TE) (vs : List Nat) : TE := fun σ H Q => wi σ H fun J H1 => ∀ D, H1 D = none → ∃ W : Nat → Nat → Hp → Prop, (∃ m, W 0 m (upd H1 D (.lst []))) ∧ ∀ i m H, W i m H →
  (J.stop i H ∧ Q (.ref D) H) ∨ (J.go i H ∧ ∃ Nx : Hp → Prop, (∀ H', Nx H' → ∃ m', m' < m ∧ W (i + 1) m' H') ∧ ∀ x H', J.yld i H x H' → g x (wipe σ vs) H' fun σ2 H2 => wipe σ2 vs = wipe σ vs ∧ tt σ2 H2 fun b H3 =>
    if b = true then te σ2 H3 fun y H4 => ∃ acc, H4 D = some (.lst acc) ∧ acc.length < sizeLine ∧ Nx (upd H4 D (.lst (acc ++ [y]))) else Nx H3)
theorem lc_core {pins : List (Addr × Obj)} {s : Shared} {σ : St} {H : Hp} {Q : VK} {elt tg iter : Expr} {ifs : List Expr} {scope : Scope} {own : List (Str × Nat)} {pos pos' : Pos} {wi : TI} {g : TG} {tt : TT} {te : TE} {use : Option (Value → Sem Unit)} {Qf : Value → Shared → Prop}
    (hc : X.calm = true) (hN : X.N.Nodup) (I : Inv X pins σ H s) (hi : PI X tg iter wi) (ok : BlkOk X.N X.env.scope scope own)
    (hg : ∀ (s : Shared) (H : Hp) (C : Addr) (cl : List (Str × Addr)) (fp : List Addr), PG (X.blk s H scope (compEnvC scope cl C X.env) fp) tg g) (ht : ∀ (s : Shared) (H : Hp) (C : Addr) (cl : List (Str × Addr)) (fp : List Addr), PTs (X.blk s H scope (compEnvC scope cl C X.env) fp) ifs tt)
    (he : ∀ (s : Shared) (H : Hp) (C : Addr) (cl : List (Str × Addr)) (fp : List Addr), PE (X.blk s H scope (compEnvC scope cl C X.env) fp) elt te) (hs : ∀ x, foldedSetIterable iter X.env x = pure x)
    (h : tLc wi g tt te (own.map (·.2)) σ H Q)
    (hRR : ∀ D C s' m H', Inv X pins σ H' s' → Q (.ref D) H' → s'.heap.Ns C m → FpOk X pins H' C → compPost (model X.prog X.w) X.A X.xe use Qf (.ref D) C (.ok .next) s') :
    wpAny (model X.prog X.w) X.A (comprehension (.ListComp elt [⟨tg, iter, ifs, 0⟩] scope pos) scope X.env pos' (newList []) false (eval iter X.env) use) Qf X.xe s := by
  have hfree : ∀ y ∈ scope.names, y.2 = .free → ∃ c, X.env.cells.lookup y.1 = some c := fun y hy e => by
    rcases ok.free y hy e with k | k
    · exact I.ok.has _ (.inl k)
    · exact I.ok.has _ (.inr k)
  refine wpAny_comprehension_free (use := use) rfl hs (closure_ok hfree) ok.kind (fun y hy e => by rw [ok.uniq y hy, e])
    (thn (hi pins s σ H _ I h) fun xv s1 hx => thn hx fun itv s2 h2 => ?_)
  obtain ⟨it, fp, tn, J, H2, e, I2, T, st2, f2, q⟩ := h2
  subst e
  refine wpAny_newObj_type (newEnv_comp ?_) (by show 0 ≤ sizeLine; decide)
  generalize hD : s2.heap.objs.size = D
  have hDn : H2 D = none := I2.hok.fresh (Nat.le_of_eq hD)
  obtain ⟨W, ⟨m0, w0⟩, turn⟩ := q D hDn
  -- the new list
  generalize hs3 : ({ s2 with heap := s2.heap.push { cls := .type "list", data := .seq ([] : List Value).toArray } } : Shared) = s3
  have I3 : Inv X pins σ (upd H2 D (.lst [])) s3 := by
    rw [← hs3]
    refine I2.laid (t' := s2.toks) (fun b o e => Heap.get?_push_of_some _ e) (Nat.le_of_eq hD) ⟨Nat.zero_le _, [], 0, .nil, ?_⟩
    rw [← hD]
    exact Heap.get?_push_size _ rfl
  have h3 : s3.heap = s2.heap.push { cls := .type "list", data := .seq ([] : List Value).toArray } := by rw [← hs3]
  have sz : ∀ b ∈ fp, b < s2.heap.objs.size := fun b hb => by
    obtain ⟨o, e, _⟩ := T.obj _ _ st2 b hb
    exact Heap.lt_size e
  have f3 : ∀ b ∈ fp, FpOk X pins (upd H2 D (.lst [])) b ∧ b < s3.heap.objs.size := fun b hb => by
    have hlt := sz b hb
    refine ⟨⟨?_, (f2 b hb).2⟩, by rw [h3, Heap.size_push]; exact Nat.lt_succ_of_lt hlt⟩
    rw [upd_ne (by rw [← hD]; exact Nat.ne_of_lt hlt)]
    exact (f2 b hb).1
  have st3 : tn 0 s3.heap := T.keep _ _ _ st2 fun b _ o e => by rw [h3]; exact Heap.get?_push_of_some _ e
  have I4 := block_start I3 ok hN f3
  have pg := hg s3 (upd H2 D (.lst [])) s3.heap.objs.size (cellsFrom (s3.heap.objs.size + 1) scope.names (cloFrom X.env.cells scope.names [])) fp
  have pt := ht s3 (upd H2 D (.lst [])) s3.heap.objs.size (cellsFrom (s3.heap.objs.size + 1) scope.names (cloFrom X.env.cells scope.names [])) fp
  have pe := he s3 (upd H2 D (.lst [])) s3.heap.objs.size (cellsFrom (s3.heap.objs.size + 1) scope.names (cloFrom X.env.cells scope.names [])) fp
  show codeAny _ _ (.compStart (.ListComp elt [⟨tg, iter, ifs, 0⟩] scope pos) 0 (.ref it) (.ref D) (compEnvC scope (cellsFrom (s3.heap.objs.size + 1) scope.names (cloFrom X.env.cells scope.names [])) s3.heap.objs.size X.env)) (compPost (model X.prog X.w) X.A X.xe use Qf (.ref D) s3.heap.objs.size) { s3 with heap := pushCells (s3.heap.push { cls := .type "dict", data := .dict #[] }) scope.names }
  have nfp : ∀ b ∈ fp, (upd H2 D (.lst [])) b = none := fun b hb => (f3 b hb).1.1
  generalize hce : compEnvC scope (cellsFrom (s3.heap.objs.size + 1) scope.names (cloFrom X.env.cells scope.names [])) s3.heap.objs.size X.env = ce at I4 pg pt pe ⊢
  have cL : ce.locals = s3.heap.objs.size := by subst hce; rfl
  generalize hH3 : upd H2 D (.lst []) = H3 at I3 I4 pg pt pe w0 nfp f3
  generalize hs4 : ({ s3 with heap := pushCells (s3.heap.push { cls := .type "dict", data := .dict #[] }) scope.names } : Shared) = s4 at I4 ⊢
  have st4 : tn 0 s4.heap := T.keep _ _ _ st3 fun b _ o e => by rw [← hs4]; exact pushCells_keeps _ _ _ _ (Heap.get?_push_of_some _ e)
  have stat : ∀ {σ' : St} {H' : Hp} {s' : Shared}, Inv (X.blk s3 H3 scope ce fp) [] σ' H' s' → (∀ b ∈ fp, H' b = none) → ∀ b ∈ fp, FpOk (X.blk s3 H3 scope ce fp) [] H' b := fun {σ' H' s'} I' hn b hb =>
    ⟨hn b hb, (I'.ok.exf b hb).1, I'.ok.exfs b hb, .inl hb, fun x c e => (I'.ok.exf b hb).2 x c e, fun p hp => absurd (show p ∈ ([] : List (Addr × Obj)) ++ [] from hp) (by simp)⟩
  have loop : codeAny (model X.prog X.w) X.A (.compLoop (.ListComp elt [⟨tg, iter, ifs, 0⟩] scope pos) 0 (.ref it) (.ref D) ce) (compPost (model X.prog X.w) X.A X.xe use Qf (.ref D) s3.heap.objs.size) s4 := by
    refine compLoop_any (fun n s' => ∃ i H', Inv (X.blk s3 H3 scope ce fp) [] (wipe σ (own.map (·.2))) H' s' ∧ tn i s'.heap ∧ (∀ b ∈ fp, H' b = none) ∧ W i n H') ?_ m0 ⟨0, H3, I4, st4, nfp, w0⟩
    rintro n s5 ⟨i, H5, I5, st5, n5, w5⟩
    rcases turn i n H5 w5 with ⟨stop, qq⟩ | ⟨go, Nx, hNx, step⟩
    · have td := T.done (X.blk s3 H3 scope ce fp) rfl rfl rfl hc i [] s5 _ H5 (fun _ _ => False) I5 (stat I5 n5) st5 stop
      refine thnF td fun r s6 ⟨hr, I6⟩ => ?_
      subst hr
      -- back in the def's context
      have I7 : Inv X pins σ H5 s6 := I3.call' (ch := fp) I6.os I6.base I6.hok I6.bare fun b hb => ⟨(f3 b hb).1.2.2.2.1, (f3 b hb).1.2.1, (f3 b hb).1.2.2.2.2.1, (f3 b hb).1.2.2.2.2.2⟩
      have nC : H5 s3.heap.objs.size = none := by
        have z : H5 ce.locals = none := I6.free
        rw [cL] at z
        exact z
      obtain ⟨m, hn, _⟩ := I6.loc
      have hn : s6.heap.Ns ce.locals m := hn
      rw [cL] at hn
      exact hRR D s3.heap.objs.size s6 m H5 I7 qq hn (I3.fpOk (Nat.le_refl _) nC)
    · have ti := T.item (X.blk s3 H3 scope ce fp) rfl rfl rfl hc i [] s5 _ H5 (fun _ _ => False) I5 (stat I5 n5) st5 go
      refine thnF ti fun r s6 ⟨u, hr, h6⟩ => ?_
      subst hr
      refine thnF h6 fun _ s7 ⟨x, H7, I7, r7, y7, st7, n7⟩ => ?_
      have I7' := I7.pinned (stat I7 n7) (T.obj _ _ st7)
      refine thnF (pg _ s7 _ H7 x u _ I7' r7 (step x H7 y7)) fun _ s8 ⟨σ8, H8, I8, hw8, q8⟩ => ?_
      refine thnF (pt _ s8 σ8 H8 _ I8 q8) fun b s9 ⟨H9, I9, q9⟩ => ?_
      -- the turn's end
      have fin : ∀ {s' : Shared} {H' : Hp}, Inv (X.blk s3 H3 scope ce fp) ([] ++ pinsAt fp s7.heap) σ8 H' s' → Nx H' → ∃ m, m < n ∧ ∃ i H', Inv (X.blk s3 H3 scope ce fp) [] (wipe σ (own.map (·.2))) H' s' ∧ tn i s'.heap ∧ (∀ b ∈ fp, H' b = none) ∧ W i m H' := fun {s' H'} I' nx => by
        obtain ⟨m', hm, w'⟩ := hNx H' nx
        have pin' : ∀ b ∈ fp, ∀ o, s7.heap.get? b = some o → s'.heap.get? b = some o ∧ H' b = none := fun b hb o e =>
          let z := I'.pin (b, o) (List.mem_append_right _ (List.mem_append_right _ (mem_pinsAt hb e)))
          ⟨z.1, z.2.1⟩
        have hl : (wipe σ (own.map (·.2))).length = σ8.length := by rw [← hw8, wipe_length]
        refine ⟨m', hm, i + 1, H', (I'.unpinned (pins := [])).weak hl (fun j v e => ?_), T.keep _ _ _ st7 fun b hb o e => (pin' b hb o e).1, fun b hb => ?_, w'⟩
        · rw [← hw8] at e
          exact (wipe_some e).1
        · obtain ⟨o, e, _⟩ := T.obj _ _ st7 b hb
          exact (pin' b hb o e).2
      cases b with
      | false =>
        simp only [Bool.false_eq_true, if_false] at q9 ⊢
        exact fin I9 q9
      | true =>
        simp only [if_true] at q9 ⊢
        refine thnF (pe _ s9 σ8 H9 _ I9 q9) fun z s10 ⟨yv, H10, I10, r10, acc, hD10, hz10, nx⟩ => ?_
        exact app_ok (X := X.blk s3 H3 scope ce fp) I10 hD10 hz10 r10 fun s11 I11 => fin I11 nx
  exact codeAny_compStart_list loop (T.self X.A 0 _ _ _ st4 loop)
theorem ps_setLc {i : Nat} {y : Str} {py : Pos} {elt tg iter : Expr} {ifs : List Expr} {scope : Scope} {own : List (Str × Nat)} {pos spos : Pos} {wi : TI} {g : TG} {tt : TT} {te : TE} (hc : X.calm = true) (hN : X.N.Nodup) (hy : X.N[i]? = some y) (hyl : X.env.scope.names.lookup y = some .local)
    (hsw : swapsWith (.ListComp elt [⟨tg, iter, ifs, 0⟩] scope pos) (some (.Name y py)) spos.line X.env = pure true) (hi : PI X tg iter wi) (ok : BlkOk X.N X.env.scope scope own)
    (hg : ∀ (s : Shared) (H : Hp) (C : Addr) (cl : List (Str × Addr)) (fp : List Addr), PG (X.blk s H scope (compEnvC scope cl C X.env) fp) tg g) (ht : ∀ (s : Shared) (H : Hp) (C : Addr) (cl : List (Str × Addr)) (fp : List Addr), PTs (X.blk s H scope (compEnvC scope cl C X.env) fp) ifs tt)
    (he : ∀ (s : Shared) (H : Hp) (C : Addr) (cl : List (Str × Addr)) (fp : List Addr), PE (X.blk s H scope (compEnvC scope cl C X.env) fp) elt te) (hs : ∀ x, foldedSetIterable iter X.env x = pure x := by intro _; rfl) :
    PS X (.Assign [.Name y py] (.ListComp elt [⟨tg, iter, ifs, 0⟩] scope pos) spos) (tAsg (tLc wi g tt te (own.map (·.2))) (gName i)) := by
  intro pins s σ H D I h
  rw [exec_Assign_Name_used _ _ _ _ hsw]
  refine wpAny_bind (wpAny_standAt (wpAny_bind ?_))
  show wpAny _ X.A (do let _ ← comprehension (.ListComp elt [⟨tg, iter, ifs, 0⟩] scope pos) scope X.env (firstIterPos [⟨tg, iter, ifs, 0⟩] pos) (newList []) false (eval iter X.env) (some (assign (.Name y py) X.env))) _ _ s
  have h : tLc wi g tt te (own.map (·.2)) σ H (fun x H1 => gName i x σ H1 D.nx) := h
  refine wpAny_bind (thn (lc_core (Qf := fun _ s' => SP X pins D .next s') hc hN I hi ok hg ht he hs h fun L C s' m H' I' q hn f => ?_) fun _ s' hq => wpAny_pure (wpAny_pure hq))
  show wpAny _ _ (assign (.Name y py) X.env (.ref L)) _ _ _
  refine wpAny_assign_Name (store_ok2 (v := V.ref L) I' hN hy (.inl hyl) rfl (fun s2 I2 ⟨a, sb, ha⟩ => ?_) (.inr hyl))
  obtain ⟨f0, f1, f2, f3, f4, f5⟩ := f
  have haC : C ≠ a := by
    rcases ha with z | z
    · rw [z]; exact f1
    · exact fun e => f4 y a z e.symm
  refine ⟨m, hn.sameBut sb haC, fun h3 sb3 => ?_⟩
  exact ⟨_, H', I2.turned (t' := s2.toks) (fun b o hb e => (sb3.2 b hb).trans e) f0 f1 f3 f4 f5, q⟩
theorem sw_true {elt : Expr} {gs : List Comprehension} {scope : Scope} {pos py : Pos} {y : Str} {l : Nat} {env : Env} (hk : env.scope.kind = .function) (hy : env.scope.names.lookup y = some .local) (hl : (py.line == pos.line) = true)
    (ha : (scope.names.any fun (n, k) => n == y && (k == .local || k == .cell)) = false) : swapsWith (.ListComp elt gs scope pos) (some (.Name y py)) l env = pure true := by
  have ky : env.kindOf y = some .local := hy
  have hb : env.blockKind = .function := by unfold Env.blockKind; rw [hk]; rfl
  unfold swapsWith
  simp only [hb, ky, ha, Expr.pos, hl]
  rfl
end
def blkC (N : List Str) (sc scope : Scope) (own : List (Str × Nat)) : Bool :=
  (match scope.kind with | .function => true | _ => false) && (scope.names.all fun y => decide (scope.names.lookup y.1 = some y.2)) && (own.all fun p => decide (N[p.2]? = some p.1)) &&
    (scope.names.all fun y => match y.2 with
      | .free => (match sc.names.lookup y.1 with | some .cell => true | some .free => true | _ => false)
      | .local => decide (y.1 ∈ own.map (·.1)) || decide (y.1 ∉ N)
      | .cell => decide (y.1 ∈ own.map (·.1)) || decide (y.1 ∉ N)
      | _ => true)
theorem blkOk_by {N : List Str} {sc scope : Scope} {own : List (Str × Nat)} (h : blkC N sc scope own = true) : BlkOk N sc scope own := by
  unfold blkC at h
  simp only [Bool.and_eq_true, List.all_eq_true, decide_eq_true_eq] at h
  obtain ⟨⟨⟨h1, h2⟩, h3⟩, h4⟩ := h
  refine ⟨?_, h2, h3, fun y hy e => ?_, fun y hy e => ?_⟩
  · split at h1
    · assumption
    · cases h1
  · have q := h4 y hy
    simp only [e] at q
    split at q <;> first | exact .inl (by assumption) | exact .inr (by assumption) | cases q
  · have q := h4 y hy
    rcases e with e | e <;> (simp only [e, Bool.or_eq_true, decide_eq_true_eq] at q; exact q)
end L2
namespace L2
open PySem PySem.Spec PyProof.Rows
section
variable {prog : Program} {w : World} {A : Around} {R : Result → Shared → Prop} {s : Shared} {elt t0 i0 t1 i1 : Expr} {ifs0 ifs1 : List Expr} {scope : Scope} {pos : Pos} {it acc : Value} {env : Env}
end
section
variable {X : Cx}
end
end L2
namespace L2
open PySem PySem.Spec PyProof.Rows
section
variable {κ : Type} [DecidableEq κ]
def valV (kvs : List (κ × V)) (k : κ) : Option V := (kvs.find? fun kv => decide (kv.1 = k)).map (·.2)
def putK (kvs : List (κ × V)) (k : κ) (v : V) : List (κ × V) :=
  if (kvs.any fun kv => decide (kv.1 = k)) = true then kvs.map (fun kv => if kv.1 = k then (kv.1, v) else kv) else kvs ++ [(k, v)]
def dropK (kvs : List (κ × V)) (k : κ) : List (κ × V) := kvs.filter fun kv => decide (kv.1 ≠ k)
theorem valV_pos {p : κ × V} {r : List (κ × V)} {k : κ} (e : p.1 = k) : valV (p :: r) k = some p.2 := by simp [valV, List.find?_cons, e]
theorem valV_neg {p : κ × V} {r : List (κ × V)} {k : κ} (e : ¬ p.1 = k) : valV (p :: r) k = valV r k := by simp [valV, List.find?_cons, e]
theorem valV_any (k : κ) : ∀ kvs : List (κ × V), (kvs.any fun kv => decide (kv.1 = k)) = (valV kvs k).isSome
  | [] => rfl
  | p :: r => by
    rw [List.any_cons]
    by_cases e : p.1 = k
    · simp only [valV_pos e, decide_eq_true e, Bool.true_or, Option.isSome_some]
    · rw [valV_neg e, decide_eq_false e, Bool.false_or]; exact valV_any k r
theorem length_putK (kvs : List (κ × V)) (k : κ) (v : V) : (putK kvs k v).length ≤ kvs.length + 1 := by
  unfold putK
  split
  · rw [List.length_map]; omega
  · rw [List.length_append, List.length_cons, List.length_nil]; omega
theorem putK_new {kvs : List (κ × V)} {k : κ} (v : V) (h : valV kvs k = none) : putK kvs k v = kvs ++ [(k, v)] := by
  unfold putK
  rw [valV_any, h]
  exact if_neg (by decide)
theorem RelO.isSome_eq {o : Option V} {u : Option Value} (r : RelO o u) : o.isSome = u.isSome := by
  cases o with
  | none => cases u with
    | none => rfl
    | some _ => exact (show False from r).elim
  | some _ => cases u with
    | none => exact (show False from r).elim
    | some _ => rfl
theorem RelO.getD {o : Option V} {u : Option Value} {d : V} {d' : Value} (r : RelO o u) (rd : RelV d d') : RelV (o.getD d) (u.getD d') := by
  cases o with
  | none => cases u with
    | none => exact rd
    | some _ => exact (show False from r).elim
  | some _ => cases u with
    | none => exact (show False from r).elim
    | some _ => exact r
theorem KV.val {kvs : List (κ × V)} {vs : List (κ × Value)} (r : KV kvs vs) (k : κ) : RelO (valV kvs k) (valueAt vs k) := by
  unfold KV at r
  induction r with
  | nil => exact True.intro
  | @cons p q ps qs h t ih =>
    obtain ⟨h1, h2⟩ := h
    by_cases e : p.1 = k
    · have e' : q.1 = k := h1.symm.trans e
      have b : valueAt (q :: qs) k = some q.2 := by simp [valueAt, List.find?_cons, e']
      rw [valV_pos e, b]; exact h2
    · have e' : ¬ q.1 = k := fun z => e (h1.trans z)
      have b : valueAt (q :: qs) k = valueAt qs k := by simp [valueAt, List.find?_cons, e']
      rw [valV_neg e, b]; exact ih
theorem KV.any {kvs : List (κ × V)} {vs : List (κ × Value)} (r : KV kvs vs) (k : κ) : (kvs.any fun kv => decide (kv.1 = k)) = vs.any fun kv => decide (kv.1 = k) := by
  unfold KV at r
  induction r with
  | nil => rfl
  | cons h t ih => rw [List.any_cons, List.any_cons, ih, h.1]
theorem KV.repl {kvs : List (κ × V)} {vs : List (κ × Value)} (r : KV kvs vs) (k : κ) {y : V} {u : Value} (ry : RelV y u) :
    KV (kvs.map fun kv => if kv.1 = k then (kv.1, y) else kv) (vs.map fun kv => if kv.1 = k then (kv.1, u) else kv) := by
  unfold KV at r ⊢
  induction r with
  | nil => exact .nil
  | @cons p q ps qs h t ih =>
    rw [List.map_cons, List.map_cons]
    refine .cons ?_ ih
    obtain ⟨h1, h2⟩ := h
    by_cases e : p.1 = k
    · rw [if_pos e, if_pos (h1.symm.trans e)]; exact ⟨h1, ry⟩
    · rw [if_neg e, if_neg (fun z => e (h1.trans z))]; exact ⟨h1, h2⟩
theorem KV.put {kvs : List (κ × V)} {vs : List (κ × Value)} (r : KV kvs vs) (k : κ) {y : V} {u : Value} (ry : RelV y u) : KV (putK kvs k y) (stored vs k u) := by
  unfold putK stored
  rw [r.any k]
  by_cases e : (vs.any fun kv => decide (kv.1 = k)) = true
  · rw [if_pos e, if_pos e]; exact r.repl k ry
  · rw [if_neg e, if_neg e]; exact Paired.snoc r ⟨rfl, ry⟩
theorem KV.drop {kvs : List (κ × V)} {vs : List (κ × Value)} (r : KV kvs vs) (k : κ) : KV (dropK kvs k) (without vs k) := by
  unfold KV at r ⊢
  unfold dropK without
  induction r with
  | nil => exact .nil
  | @cons p q ps qs h t ih =>
    obtain ⟨h1, h2⟩ := h
    rw [List.filter_cons, List.filter_cons]
    by_cases e : p.1 = k
    · have a : ¬ decide (p.1 ≠ k) = true := by simp [e]
      have b : ¬ decide (q.1 ≠ k) = true := by simp [h1.symm.trans e]
      rw [if_neg a, if_neg b]; exact ih
    · have e' : ¬ q.1 = k := fun z => e (h1.trans z)
      have a : decide (p.1 ≠ k) = true := by simp [e]
      have b : decide (q.1 ≠ k) = true := by simp [e']
      rw [if_pos a, if_pos b]; exact .cons ⟨h1, h2⟩ ih
theorem KV.keys {kvs : List (κ × V)} {vs : List (κ × Value)} (r : KV kvs vs) : kvs.map (·.1) = vs.map (·.1) := by
  unfold KV at r
  induction r with
  | nil => rfl
  | cons h t ih => rw [List.map_cons, List.map_cons, ih, h.1]
theorem KV.length {kvs : List (κ × V)} {vs : List (κ × Value)} (r : KV kvs vs) : kvs.length = vs.length := Paired.length r
end
theorem kV_is {P : Program} {w : World} {k : Key} {u : Value} (r : RelV (kV k) u) : (mixKind P w).is k u = true := by
  cases k with
  | inl i => obtain ⟨t, e⟩ := (show ∃ t, u = Value.int i t from r); subst e; exact mixKind_int P w i t
  | inr x => obtain ⟨t, e⟩ := (show ∃ t, u = Value.str x t from r); subst e; exact mixKind_str P w x t
theorem items_are {P : Program} {w : World} : ∀ {ks : List Key} {us : List Value}, Vals (ks.map kV) us → ItemsAre (mixKind P w) ks us
  | [], _, r => by rw [List.map_nil] at r; cases r; exact .nil
  | k :: ks, _, r => by
    rw [List.map_cons] at r
    cases r with
    | cons h t => exact .cons (kV_is h) (items_are t)
abbrev KT (H : Hp) : List (List Key × V) → List (List Key × Addr × Value) → Prop := Paired fun p q => p.1 = q.1 ∧ H q.2.1 = some (.tup (p.1.map kV)) ∧ RelV p.2 q.2.2
theorem KT.val {H : Hp} {kvs : List (List Key × V)} {xs : List (List Key × Addr × Value)} (r : KT H kvs xs) (k : List Key) : RelO (valV kvs k) ((atKey xs k).map (·.2)) := by
  induction r with
  | nil => exact True.intro
  | @cons p q ps qs h t ih =>
    obtain ⟨h1, _, h2⟩ := h
    by_cases e : p.1 = k
    · have e' : q.1 = k := h1.symm.trans e
      have b : atKey (q :: qs) k = some q.2 := by simp [atKey, List.find?_cons, e']
      rw [valV_pos e, b]; exact h2
    · have e' : ¬ q.1 = k := fun z => e (h1.trans z)
      have b : atKey (q :: qs) k = atKey qs k := by simp [atKey, List.find?_cons, e']
      rw [valV_neg e, b]; exact ih
theorem KT.repl {H : Hp} {kvs : List (List Key × V)} {xs : List (List Key × Addr × Value)} (r : KT H kvs xs) (k : List Key) {y : V} {u : Value} (ry : RelV y u) :
    KT H (kvs.map fun kv => if kv.1 = k then (kv.1, y) else kv) (xs.map (putAt k u)) := by
  induction r with
  | nil => exact .nil
  | @cons p q ps qs h t ih =>
    rw [List.map_cons, List.map_cons]
    refine .cons ?_ ih
    obtain ⟨h1, h2, h3⟩ := h
    unfold putAt
    by_cases e : p.1 = k
    · rw [if_pos e, if_pos (h1.symm.trans e)]; exact ⟨h1, h2, ry⟩
    · rw [if_neg e, if_neg (fun z => e (h1.trans z))]; exact ⟨h1, h2, h3⟩
theorem KT.put {H : Hp} {kvs : List (List Key × V)} {xs : List (List Key × Addr × Value)} (r : KT H kvs xs) (k : List Key) {b : Addr} {y : V} {u : Value} (hb : H b = some (.tup (k.map kV))) (ry : RelV y u) :
    KT H (putK kvs k y) (storedH xs k b u) := by
  have e : (kvs.any fun kv => decide (kv.1 = k)) = (atKey xs k).isSome := by
    rw [valV_any, (r.val k).isSome_eq, Option.isSome_map]
  unfold putK storedH
  rw [e]
  by_cases q : (atKey xs k).isSome = true
  · rw [if_pos q, if_pos q]; exact r.repl k ry
  · rw [if_neg q, if_neg q]; exact Paired.snoc r ⟨rfl, hb, ry⟩
theorem KT.keeps {H H' : Hp} {kvs : List (List Key × V)} {xs : List (List Key × Addr × Value)} (r : KT H kvs xs) (ht : ∀ b ys, H b = some (.tup ys) → H' b = some (.tup ys)) : KT H' kvs xs :=
  Paired.mapP r fun _ _ z => ⟨z.1, ht _ _ z.2.1, z.2.2⟩
section
variable {P : Program} {w : World} {H : Hp} {h : Heap} {a : Addr}
theorem rd_of {u : HO} (ok : HOk P w H h) (e : Rd H a u) : ObjOk P w H h a u := e.ok ok
theorem dk_rd {kvs : List (Key × V)} (ok : HOk P w H h) (e : Rd H a (.dK kvs)) : kvs.length ≤ sizeLine ∧ (a == sysModules) = false ∧ ∃ vs, KV kvs vs ∧ h.DictOf (mixKind P w) a vs :=
  show ObjOk P w H h a (.dK kvs) from rd_of ok e
theorem dk_of {kvs : List (Key × V)} (ok : HOk P w H h) (e : H a = some (.dK kvs)) : kvs.length ≤ sizeLine ∧ (a == sysModules) = false ∧ ∃ vs, KV kvs vs ∧ h.DictOf (mixKind P w) a vs := dk_rd ok (.inl e)
theorem key_of {ks : List Key} (ok : HOk P w H h) (e : H a = some (.tup (ks.map kV))) : (tupleKind (mixKind P w)).is h ks a := by
  obtain ⟨_, its, r, o, h1, h2, n, h3⟩ := (show ObjOk P w H h a (.tup (ks.map kV)) from ok a _ e)
  exact ⟨o, its.toArray, n, h1, h2, h3, by simpa using items_are r⟩
theorem dt_rd {kvs : List (List Key × V)} (ok : HOk P w H h) (e : Rd H a (.dT kvs)) : kvs.length ≤ sizeLine ∧ (a == sysModules) = false ∧
    ∃ xs, KT H kvs xs ∧ h.DictOfH (tupleKind (mixKind P w)) a xs := by
  obtain ⟨z, y, xs, r, o, es, ep, h1, h2, h3, h4, h5⟩ := (show ObjOk P w H h a (.dT kvs) from rd_of ok e)
  refine ⟨z, y, xs, r, o, es, ep, h1, h2, h3, h4, fun x hx => ?_, h5⟩
  have all : ∀ {l : List (List Key × V)} {m : List (List Key × Addr × Value)}, KT H l m → ∀ x ∈ m, (tupleKind (mixKind P w)).is h x.1 x.2.1 := by
    intro l m q
    induction q with
    | nil => intro x hx; exact nomatch hx
    | @cons p q ps qs hq t ih =>
      intro x hx
      rcases List.mem_cons.mp hx with e | hx
      · subst e
        exact key_of ok (by rw [← hq.1]; exact hq.2.1)
      · exact ih x hx
  exact all r x hx
theorem dt_of {kvs : List (List Key × V)} (ok : HOk P w H h) (e : H a = some (.dT kvs)) : kvs.length ≤ sizeLine ∧ (a == sysModules) = false ∧
    ∃ xs, KT H kvs xs ∧ h.DictOfH (tupleKind (mixKind P w)) a xs := dt_rd ok (.inl e)
end
def DGet (H : Hp) (a : Addr) (y : V) (r : Option V) : Prop :=
  (∃ kvs k, Rd H a (.dK kvs) ∧ y = kV k ∧ r = valV kvs k) ∨ ∃ kvs k b, Rd H a (.dT kvs) ∧ y = .ref b ∧ H b = some (.tup (k.map kV)) ∧ r = valV kvs k
def DPut (H : Hp) (a : Addr) (y v : V) (H' : Hp) : Prop :=
  (∃ kvs k, H a = some (.dK kvs) ∧ y = kV k ∧ kvs.length < sizeLine ∧ H' = upd H a (.dK (putK kvs k v))) ∨
  ∃ kvs k b, H a = some (.dT kvs) ∧ y = .ref b ∧ H b = some (.tup (k.map kV)) ∧ kvs.length < sizeLine ∧ H' = upd H a (.dT (putK kvs k v))
theorem DGet.k {H : Hp} {a : Addr} {kvs : List (Key × V)} {k : Key} (e : H a = some (.dK kvs)) : DGet H a (kV k) (valV kvs k) := .inl ⟨kvs, k, .inl e, rfl, rfl⟩
theorem DGet.t {H : Hp} {a b : Addr} {kvs : List (List Key × V)} {k : List Key} (e : H a = some (.dT kvs)) (eb : H b = some (.tup (k.map kV))) : DGet H a (.ref b) (valV kvs k) := .inr ⟨kvs, k, b, .inl e, rfl, eb, rfl⟩
theorem DPut.k {H : Hp} {a : Addr} {kvs : List (Key × V)} {k : Key} {v : V} (e : H a = some (.dK kvs)) (hl : kvs.length < sizeLine) : DPut H a (kV k) v (upd H a (.dK (putK kvs k v))) := .inl ⟨kvs, k, e, rfl, hl, rfl⟩
theorem DPut.t {H : Hp} {a b : Addr} {kvs : List (List Key × V)} {k : List Key} {v : V} (e : H a = some (.dT kvs)) (eb : H b = some (.tup (k.map kV))) (hl : kvs.length < sizeLine) :
    DPut H a (.ref b) v (upd H a (.dT (putK kvs k v))) := .inr ⟨kvs, k, b, e, rfl, eb, hl, rfl⟩
section
variable {X : Cx} {pins : List (Addr × Obj)} {σ : St} {H : Hp} {s : Shared} {a : Addr} {y v : V} {u r : Value} {o : Option V} {A : Around} {E : Value → Shared → Prop}
theorem Inv.big (I : Inv X pins σ H s) : sysModules < s.heap.objs.size := by
  have h : mainGlobals < s.heap.objs.size := (I.mod.glob.keeps I.bk).lt
  exact Nat.lt_trans (by decide) h
theorem d_getItem {Q : Value → Shared → Prop} (hu : A.units + 1 < cLine) (I : Inv X pins σ H s) (g : DGet H a y (some v)) (ry : RelV y u) (h : ∀ w' s', Inv X pins σ H s' → RelV v w' → Q w' s') :
    wpAny (model X.prog X.w) A (getItem (.ref a) u) Q E s := by
  rcases g with ⟨kvs, k, e, ey, l⟩ | ⟨kvs, k, b, e, ey, eb, l⟩
  · subst ey
    obtain ⟨z, hd, vs, rel, dd⟩ := dk_rd I.hok e
    obtain ⟨w', hw, rw'⟩ := RelO.some_of (v := v) (o := valueAt vs k) (by rw [l]; exact rel.val k)
    exact wpAny_getItem_of (kV_is ry) dd.mapOf hw (h w' _ (I.tok _) rw')
  · subst ey
    cases (show u = Value.ref b from ry)
    obtain ⟨z, hd, xs, rel, dd⟩ := dt_rd I.hok e
    obtain ⟨w', hw, rw'⟩ := RelO.some_of (v := v) (o := (atKey xs k).map (·.2)) (by rw [l]; exact rel.val k)
    obtain ⟨p, hp, hp2⟩ := Option.map_eq_some_iff.mp hw
    refine wpAny_getItem_heap (tupleKind_room_in1 hu) (key_of I.hok eb) dd hp ?_
    rw [hp2]
    exact h w' _ (I.tok _) rw'
theorem d_in {Q : Value → Shared → Prop} (hu : A.units + 1 < cLine) (I : Inv X pins σ H s) (g : DGet H a y o) (ry : RelV y u) (h : ∀ s', Inv X pins σ H s' → Q (.bool o.isSome) s') :
    wpAny (model X.prog X.w) A (compareOp .In u (.ref a)) Q E s := by
  rcases g with ⟨kvs, k, e, ey, l⟩ | ⟨kvs, k, b, e, ey, eb, l⟩
  · subst ey
    obtain ⟨z, hd, vs, rel, dd⟩ := dk_rd I.hok e
    refine wpAny_in_of (kV_is ry) hd dd.mapOf ?_
    rw [← (rel.val k).isSome_eq, ← l]
    exact h _ (I.tok _)
  · subst ey
    cases (show u = Value.ref b from ry)
    obtain ⟨z, hd, xs, rel, dd⟩ := dt_rd I.hok e
    refine wpAny_in_heap (tupleKind_room_in1 hu) (key_of I.hok eb) hd dd ?_
    have q := (rel.val k).isSome_eq
    rw [Option.isSome_map] at q
    rw [← q, ← l]
    exact h _ (I.tok _)
theorem d_write {h' : Heap} {t' : Nat} {ob : HO} (I : Inv X pins σ H s) (mu : Mut (H a)) (hs : Heap.SameBut a s.heap h') (he : ∃ q, h'.get? a = some q) (new : ObjOk X.prog X.w (upd H a ob) h' a ob) :
    Inv X pins σ (upd H a ob) { s with heap := h', toks := t' } :=
  I.write (x := a) (e := a) mu (.inl rfl) (fun b q hb z => (hs.2 b hb).trans z) he new
theorem dk_new {P : Program} {w : World} {H' : Hp} {h' : Heap} {kvs : List (Key × V)} {vs : List (Key × Value)} (z : kvs.length ≤ sizeLine) (hd : (a == sysModules) = false) (rel : KV kvs vs) (dd : h'.DictOf (mixKind P w) a vs) :
    ObjOk P w H' h' a (.dK kvs) := ⟨z, hd, vs, rel, dd⟩
theorem d_setItem {H' : Hp} {Q : Unit → Shared → Prop} (hu : A.units + 1 < cLine) (I : Inv X pins σ H s) (g : DPut H a y v H') (ry : RelV y u) (rv : RelV v r) (h : ∀ s', Inv X pins σ H' s' → Q () s') :
    wpAny (model X.prog X.w) A (setItem (.ref a) u r) Q E s := by
  rcases g with ⟨kvs, k, e, ey, l, eH⟩ | ⟨kvs, k, b, e, ey, eb, l, eH⟩
  · subst ey eH
    obtain ⟨z, hd, vs, rel, dd⟩ := dk_of I.hok e
    have hz : vs.length ≤ sizeLine := by rw [← rel.length]; exact z
    have hl : (putK kvs k v).length ≤ sizeLine := by have := length_putK kvs k v; omega
    refine wpAny_setItem_pairs (hsz := hz) (kV_is ry) dd fun h' dd' hs => h _ ?_
    have he : ∃ q, h'.get? a = some q := let ⟨q, _, _, hq, _⟩ := dd'; ⟨q, hq⟩
    exact d_write I (by rw [e]; exact True.intro) hs he (dk_new hl hd (rel.put k rv) dd')
  · subst ey eH
    cases (show u = Value.ref b from ry)
    obtain ⟨z, hd, xs, rel, dd⟩ := dt_of I.hok e
    have hz : xs.length ≤ sizeLine := by rw [← Paired.length rel]; exact z
    have hl : (putK kvs k v).length ≤ sizeLine := by have := length_putK kvs k v; omega
    refine wpAny_setItem_heap (hsz := hz) (tupleKind_room_in1 hu) (key_of I.hok eb) dd fun h' dd' hs => h _ ?_
    obtain ⟨q, es, ep, hq, h2, h3, h4, _, h5⟩ := dd'
    refine d_write I (by rw [e]; exact True.intro) hs ⟨q, hq⟩ ⟨hl, hd, _, (rel.put k eb rv).keeps fun c ys ec => ?_, q, es, ep, hq, h2, h3, h4, h5⟩
    rw [upd_ne (ne_of ec e (fun z => nomatch z))]
    exact ec
end
section
variable {X : Cx} {pins : List (Addr × Obj)} {σ : St} {H : Hp} {s : Shared} {a : Addr} {kvs : List (Key × V)} {k : Key} {u : Value} {A : Around} {E : Value → Shared → Prop}
end
def NoSl (i : Expr) : Prop := ∀ ov iv, subscripted i false ov iv = operate [ov, iv] (getItem ov iv)
theorem subD_of {prog : Program} {w : World} {A : Around} {E : Value → Shared → Prop} {s : Shared} {env : Env} {value slice : Expr} {pos : Pos} {T id : String} {Q : Value → Shared → Prop}
    (hl : typeLookup (.type T) "__getitem__" = pure (some (.builtin id))) (hs : NoSl slice)
    (h : wpAny (model prog w) A (eval value env) (fun o s₁ => wpAny (model prog w) A (eval slice env) (fun i s₂ => s₂.TypeIs o T ∧ wpAny (model prog w) A (getItem o i) Q E s₂) E s₁) E s) :
    wpAny (model prog w) A (eval (.Subscript value slice pos) env) Q E s := by
  refine Subscript_ (wpAny_mono h (fun o s₁ h₁ => wpAny_mono h₁ (fun i s₂ h₂ => ?_) fun _ _ x => x) fun _ _ x => x)
  obtain ⟨hT, h₂⟩ := h₂
  unfold subscriptTail
  refine wpAny_bind ?_
  rw [getitemInPython_of_ne hT.not_modules]
  refine wpAny_bind (wpAny_specialOf hT hl ?_)
  have fin : wpAny (model prog w) A (subscripted slice false o i) (fun r s₃ => wpAny (model prog w) A (letTemporaryGo value o r >>= fun _ => pure r) Q E s₃) E s₂ := by
    rw [hs o i]
    exact wpAny_operating (wpAny_mono h₂ (fun r s₃ h₃ => wpAny_bind (wpAny_letTemporaryGo (wpAny_pure h₃))) fun _ _ x => x)
  first
    | exact wpAny_pure (wpAny_bind fin)
    | exact wpAny_bind (wpAny_pure (wpAny_bind fin))
    | exact wpAny_bind fin
theorem dict_typeIs {X : Cx} {pins : List (Addr × Obj)} {σ : St} {H : Hp} {s : Shared} {a : Addr} {y : V} {o : Option V} (I : Inv X pins σ H s) (g : DGet H a y o) : s.TypeIs (.ref a) "dict" := by
  rcases g with ⟨kvs, k, e, _, _⟩ | ⟨kvs, k, b, e, _, _, _⟩
  · obtain ⟨_, _, vs, _, dd⟩ := dk_rd I.hok e
    exact dd.typeIs
  · obtain ⟨_, _, xs, _, dd⟩ := dt_rd I.hok e
    exact dd.typeIs
def tDGet (td ty : TE) : TE := fun σ H Q => td σ H fun x H1 => ty σ H1 fun y H2 => ∃ a v, x = .ref a ∧ DGet H2 a y (some v) ∧ Q v H2
def tDIn (ty td : TE) : TE := fun σ H Q => ty σ H fun y H1 => td σ H1 fun x H2 => ∃ a o, x = .ref a ∧ DGet H2 a y o ∧ Q (.bl o.isSome) H2
def sDPut (td ty tv : TE) : TS := fun D σ H => tv σ H fun v H1 => td σ H1 fun x H2 => ty σ H2 fun y H3 => ∃ a H4, x = .ref a ∧ DPut H3 a y v H4 ∧ D.nx σ H4
section
variable {X : Cx} {o i e value : Expr} {pos pos' tpos : Pos} {td ty tv : TE}
theorem pe_dget (hu : X.A.units + 1 < cLine) (ho : PE X o td) (hi : PE X i ty) (hs : NoSl i) : PE X (.Subscript o i pos) (tDGet td ty) := by
  intro pins s σ H Q I h
  refine subD_of PySem.F.slot_dict_getitem.lookup hs (thn (ho pins s σ H _ I h) fun u s1 ⟨x, H1, I1, rx, q1⟩ => thn (hi pins s1 σ H1 _ I1 q1) fun iv s2 ⟨y, H2, I2, ry, a, v, ex, g, q2⟩ => ?_)
  subst ex
  obtain rfl : u = Value.ref a := rx
  exact ⟨dict_typeIs I2 g, d_getItem hu I2 g ry fun w' s3 I3 rw' => ⟨v, H2, I3, rw', q2⟩⟩
theorem pc_din (hu : X.A.units + 1 < cLine) (hi : PE X i ty) (ho : PE X o td) : PC X .In i o (tDIn ty td) := by
  intro pins s σ H Q I h
  refine thn (hi pins s σ H _ I h) fun iv s1 ⟨y, H1, I1, ry, q1⟩ => thn (ho pins s1 σ H1 _ I1 q1) fun u s2 ⟨x, H2, I2, rx, a, ov, ex, g, q2⟩ => ?_
  subst ex
  obtain rfl : u = Value.ref a := rx
  exact d_in hu I2 g ry fun s3 I3 => ⟨.bl ov.isSome, H2, I3, rfl, q2⟩
theorem ps_dput (hu : X.A.units + 1 < cLine) (ho : PE X o td) (hi : PE X i ty) (hv : PE X value tv) (hs : swapsWith value (some (.Subscript o i pos')) pos.line X.env = pure false) :
    PS X (.Assign [.Subscript o i pos'] value pos) (sDPut td ty tv) := by
  intro pins s σ H D I h
  refine wpAny_Assign_Subscript (thn (hv pins s σ H _ I h) fun r s1 ⟨v, H1, I1, rv, q1⟩ => thn (ho pins s1 σ H1 _ I1 q1) fun u s2 ⟨x, H2, I2, rx, q2⟩ => thn (hi pins s2 σ H2 _ I2 q2) fun iv s3 ⟨y, H3, I3, ry, a, H4, ex, g, q3⟩ => ?_) hs
  subst ex
  obtain rfl : u = Value.ref a := rx
  exact d_setItem hu I3 g ry rv fun s4 I4 => ⟨σ, H4, I4, q3⟩
end
theorem dt_empty {P : Program} {w : World} {H : Hp} (h : Heap) (hb : sysModules < h.objs.size) : ObjOk P w H (h.push { cls := .type "dict", data := .dict #[] }) h.objs.size (.dT []) :=
  ⟨Nat.zero_le _, beq_eq_false_iff_ne.mpr (Ne.symm (Nat.ne_of_lt hb)), [], .nil, _, #[], 0, Heap.get?_push_size _ rfl, ⟨rfl, rfl, rfl⟩, rfl, rfl, List.nodup_nil⟩
def tDNewT : TE := fun _ H Q => ∀ p, H p = none → Q (.ref p) (upd H p (.dT []))
section
variable {X : Cx} {pos : Pos}
theorem pe_dnewT : PE X (.Dict [] [] pos) tDNewT := fun pins s σ H Q I h =>
  wpAny_Dict_empty ⟨.ref s.heap.objs.size, _, I.laid (a := s.heap.objs.size) (o := .dT []) (t' := s.toks) (fun _ _ q => Heap.get?_push_of_some _ q) (Nat.le_refl _) (dt_empty s.heap I.big), rfl, h _ (I.hok.fresh (Nat.le_refl _))⟩
end
structure M1 (X : Cx) (o : Expr) (m : Str) (apos : Pos) (e : Expr) (cpos : Pos) : Prop where
  base : attributeBase o m X.env (eval o X.env) = eval o X.env
  few : ((backTo cpos (starEach [e] X.env)).all (fun x => !x.1) && (backToKw cpos (keywordEach [] X.env)).all (fun x => x.1.isSome)
    && decide (([e] : List Expr).length + ([] : List Keyword).length + (if ([] : List Keyword).isEmpty then 0 else 1) < 30)) = true
  line : (apos.endLine == cpos.line) = true
  trees : backTo cpos (starEach [e] X.env) = [(false, eval e X.env)]
section
variable {X : Cx} {pins : List (Addr × Obj)} {σ : St} {H : Hp} {s : Shared} {a : Addr} {y d : V} {u r : Value} {o : Option V} {A : Around} {E : Value → Shared → Prop}
end
section
variable {X : Cx} {o e f : Expr} {apos cpos : Pos} {td ty tx : TE}
end
section
variable {X : Cx} {pins : List (Addr × Obj)} {σ : St} {H : Hp} {s : Shared} {a : Addr} {kvs : List (Key × V)} {A : Around} {E : Value → Shared → Prop}
end
section
variable {X : Cx} {pins : List (Addr × Obj)} {σ : St} {H : Hp} {s : Shared} {a : Addr} {y : V} {u : Value} {A : Around} {E : Value → Shared → Prop}
end
end L2
namespace L2
open PySem PySem.Spec PyProof.Rows
section
variable {prog : Program} {w : World} {A : Around} {E : Value → Shared → Prop}
end
section
variable {X : Cx}
theorem refs_at : ∀ {ps : List Addr} {us : List Value}, Vals (ps.map V.ref) us → us = ps.map Value.ref
  | [], us, r => by
    rw [List.map_nil] at r
    cases r
    rfl
  | p :: ps, us, r => by
    rw [List.map_cons] at r
    cases r with
    | cons h t =>
      cases h
      rw [List.map_cons, ← refs_at t]
end
end L2
namespace L2
open PySem PySem.Spec PyProof.Rows
theorem boot_reversed5 : bootBuiltins "reversed" = some (.type "reversed") := by decide +kernel
section
variable {X : Cx} {pins : List (Addr × Obj)} {σ : St} {H : Hp} {s : Shared} {h' : Heap}
theorem Inv.turnedNew {t' : Nat} {ch : List Addr} {T : Addr} {ob : HO} (I : Inv X pins σ H s) (k : ∀ b o, b ∉ ch → s.heap.get? b = some o → h'.get? b = some o) (hf : ∀ b ∈ ch, FpOk X pins H b) (hT : s.heap.objs.size ≤ T)
    (new : ObjOk X.prog X.w (upd H T ob) h' T ob) : Inv X pins σ (upd H T ob) { s with heap := h', toks := t' } := by
  have hn : H T = none := I.hok.fresh hT
  have nit : ∀ b u, H b = some u → b ∉ ch := fun b u e z => by
    have q := (hf b z).1
    rw [q] at e; cases e
  refine I.step (g' := s.gens) (d' := s.drawn) (ch := ch) (fun b hb => ⟨(hf b hb).2.2.2.1, (hf b hb).2.1, (hf b hb).2.2.2.2.1, (hf b hb).2.2.2.2.2⟩) (fun b o _ _ hc e _ => k b o hc e) (fun b o _ _ hc e _ => ⟨o.slots, k b o hc e⟩)
    (fun b o _ e n => ?_) (fun b o hc e => ⟨o, k b o hc e⟩) (fun b xs e => ?_) (fun b o u e => ?_) (fun b ps e => ⟨#[], ?_⟩) (fun m hm => ?_) (fun b u e => ?_) I.bare
  · rw [upd_ne (Nat.ne_of_lt (Nat.lt_of_lt_of_le (Heap.lt_size e) hT))]; exact n
  · rw [upd_ne (ne_of_none e hn)]; exact e
  · rw [upd_ne (ne_of_none e hn)]; exact e
  · rw [upd_ne (ne_of_none e hn), e]; simp
  · obtain ⟨o, es, ep, ho, r⟩ := hm
    exact ⟨o, es, ep, k _ o (fun z => (hf _ z).2.1 rfl) ho, r⟩
  · by_cases hb : b = T
    · subst hb
      rw [upd_same] at e
      cases e
      exact new
    · rw [upd_ne hb] at e
      refine (I.hok b u e).stay (fun c v hc q => k c v ?_ q) (fun c q => by rw [upd_ne (ne_of_none q hn)]; exact q) fun c xs q => by rw [upd_ne (ne_of_none q hn)]; exact q
      rcases hc with z | z
      · rw [z]; exact nit b u e
      · exact nit c _ z
theorem Inv.lock {d : Addr} {u : HO} (I : Inv X pins σ H s) (h : H d = some u) (mu : Mut (some u)) : ∃ od, Inv X pins σ (upd H d (.frz od u)) s := by
  have x := I.hok d u h
  have ex : ∃ od, s.heap.get? d = some od := by
    cases u with
    | lst xs => obtain ⟨_, _, _, _, e⟩ := x; exact ⟨_, e⟩
    | dK kvs => obtain ⟨_, _, _, _, o, _, _, e, _⟩ := x; exact ⟨o, e⟩
    | dT kvs => obtain ⟨_, _, _, _, o, _, _, e, _⟩ := x; exact ⟨o, e⟩
    | set S n => obtain ⟨o, _, _, _, e, _⟩ := x; exact ⟨o, e⟩
    | ins C dx fs => obtain ⟨_, _, _, e, _⟩ := x; exact ⟨_, e⟩
    | ext φ => obtain ⟨_, ⟨_, e⟩, _⟩ := x; exact ⟨_, e⟩
    | _ => exact False.elim mu
  obtain ⟨od, e⟩ := ex
  have new : ObjOk X.prog X.w (upd H d (.frz od u)) s.heap d (.frz od u) := by
    refine ⟨e, x.stay (fun b v _ q => q) (fun b q => ?_) fun b xs q => ?_⟩
    · rw [upd_ne (fun z => by rw [z, h] at q; cases q; exact mu)]; exact q
    · rw [upd_ne (fun z => by rw [z, h] at q; cases q; exact mu)]; exact q
  exact ⟨od, I.write (x := d) (e := d) (t' := s.toks) (h' := s.heap) (by rw [h]; exact mu) (.inl rfl) (fun b v _ q => q) ⟨od, e⟩ new⟩
theorem Inv.nofrz {d : Addr} {u : HO} (I : Inv X pins σ H s) (h : H d = some u) (mu : Mut (some u)) : ∀ o' u', X.H_0 d ≠ some (.frz o' u') := fun o' u' e => by
  have q := I.base.frzs d o' u' e
  rw [h] at q
  cases q
  exact mu
theorem Inv.unlock {d : Addr} {od : Obj} {u : HO} (I : Inv X pins σ H s) (h : H d = some (.frz od u)) (hn : ∀ o' u', X.H_0 d ≠ some (.frz o' u')) : Inv X pins σ (upd H d u) s := by
  have neH : ∀ b o, H b = some o → (∀ o' u', o ≠ .frz o' u') → b ≠ d := fun b o e hne z => by
    rw [z, h] at e
    cases e
    exact hne _ _ rfl
  have neN : ∀ b, H b = none → b ≠ d := fun b e z => by rw [z, h] at e; cases e
  refine ⟨I.ok, I.os, I.bare, ⟨I.base.keep, I.base.slot, fun b o e n hx => ?_, I.base.there, fun b xs e => ?_, fun b o x e => ?_, fun b ps e => ?_⟩, I.loc, I.cell, ?_, fun x c e => ?_, fun p hp => ?_, fun b o e => ?_, I.len⟩
  · rw [upd_ne (neN b (I.base.free b o e n hx))]; exact I.base.free b o e n hx
  · have q := I.base.tups b xs e
    rw [upd_ne (neH b _ q (fun _ _ z => nomatch z))]; exact q
  · have q := I.base.frzs b o x e
    rw [upd_ne (fun z => by rw [z] at e; exact hn _ _ e)]; exact q
  · obtain ⟨m, q⟩ := I.base.tbls b ps e
    exact ⟨m, by rw [upd_ne (neH b _ q (fun _ _ z => nomatch z))]; exact q⟩
  · rw [upd_ne (neN _ I.free)]; exact I.free
  · rw [upd_ne (neN c (I.freeC x c e))]; exact I.freeC x c e
  · obtain ⟨e, n, r⟩ := I.pin p hp
    exact ⟨e, by rw [upd_ne (neN _ n)]; exact n, r⟩
  · by_cases hb : b = d
    · rw [hb, upd_same] at e
      cases e
      rw [hb]
      obtain ⟨_, x⟩ := I.hok d _ h
      exact x.stay (fun c v _ q => q) (fun c q => by rw [upd_ne (neH c _ q (fun _ _ z => nomatch z))]; exact q) fun c xs q => by rw [upd_ne (neH c _ q (fun _ _ z => nomatch z))]; exact q
    · rw [upd_ne hb] at e
      exact (I.hok b o e).stay (fun c v _ q => q) (fun c q => by rw [upd_ne (neH c _ q (fun _ _ z => nomatch z))]; exact q) fun c xs q => by rw [upd_ne (neH c _ q (fun _ _ z => nomatch z))]; exact q
end
def tLock (t : TS) : TS := fun D σ H => ∃ d u, H d = some u ∧ Mut (some u) ∧ ∀ od, t ⟨fun σ' H' => H' d = some (.frz od u) ∧ D.nx σ' (upd H' d u), fun v H' => H' d = some (.frz od u) ∧ D.rt v (upd H' d u), fun σ' H' => H' d = some (.frz od u) ∧ D.bk σ' (upd H' d u), fun σ' H' => H' d = some (.frz od u) ∧ D.ct σ' (upd H' d u)⟩ σ (upd H d (.frz od u))
section
variable {X : Cx}
theorem ps_lock {st : Stmt} {t : TS} (h : PS X st t) : PS X st (tLock t) := by
  intro pins s σ H D I hw
  obtain ⟨d, u, hd, mu, hw⟩ := hw
  obtain ⟨od, I1⟩ := I.lock hd mu
  refine thn (h pins s σ _ _ I1 (hw od)) fun f s1 q => ?_
  cases f with
  | next => obtain ⟨σ', H', I2, e, q⟩ := q; exact ⟨σ', _, I2.unlock e (I.nofrz hd mu), q⟩
  | brk => obtain ⟨σ', H', I2, e, q⟩ := q; exact ⟨σ', _, I2.unlock e (I.nofrz hd mu), q⟩
  | cont => obtain ⟨σ', H', I2, e, q⟩ := q; exact ⟨σ', _, I2.unlock e (I.nofrz hd mu), q⟩
  | ret v => obtain ⟨x, σ', H', I2, r, e, q⟩ := q; exact ⟨x, σ', _, I2.unlock e (I.nofrz hd mu), r, q⟩
theorem pi_one {tg : Expr} {pins : List (Addr × Obj)} {σ : St} {H : Hp} {s : Shared} {R : It → Hp → Prop} {J : It} {tn : Nat → Heap → Prop} {tk : Nat} (I : Inv X pins σ H s) (o : Obj)
    (T : Turn X.prog X.w X.K tg J [s.heap.objs.size] s.heap.objs.size tn) (st : tn 0 (s.heap.push o)) (q : R J H) : PIE X pins σ tg R (.ref s.heap.objs.size) { s with heap := s.heap.push o, toks := tk } := by
  refine ⟨s.heap.objs.size, [s.heap.objs.size], tn, J, H, rfl, I.kept fun b ob e => Heap.get?_push_of_some _ e, T, st, fun b hb => ?_, q⟩
  have e : b = s.heap.objs.size := by simpa using hb
  subst e
  exact I.fpOk (Nat.le_refl _) (I.hok.fresh (Nat.le_refl _))
end
def RgC (i j c : Int) (n : Nat) : Prop := c ≠ 0 ∧ c.natAbs < 1073741824 ∧ Builtin.Range.small i j c = true ∧ Builtin.Range.rangeSize i j c = n
theorem RgC.neg {i j : Int} (ha : -(2 ^ 62) ≤ i) (ha' : i < 2 ^ 62) (hb : -(2 ^ 62) ≤ j) (hb' : j < 2 ^ 62) : RgC i j (-1) (i - j).toNat :=
  ⟨by decide, by decide, PySem.W.small_down ha ha' hb hb', PySem.W.rangeSize_downNat i j⟩
section
variable {X : Cx} {tg : Expr}
end
section
variable {X : Cx} {tg : Expr}
end
section
variable {prog : Program} {w : World} {A : Around} {E : Value → Shared → Prop} {s : Shared}
theorem iter_keys {d : Addr} {o : Obj} {es : Array DictEntry} {ep : Nat} {Q : Value → Shared → Prop} (hd : (d == sysModules) = false) (ho : s.heap.get? d = some o) (hc : o.ExactDict) (hdat : o.data = .dict es ep)
    (hQ : Q (.ref s.heap.objs.size) { s with heap := s.heap.push { cls := .type "dict_keyiterator", data := .fields #[.ref d, .int 0 0, .int es.size 0, .int ep 0] } }) :
    wpAny (model prog w) A (pyIter (.ref d)) Q E s := by
  have hT : s.TypeIs (.ref d) "dict" := ⟨o, ho, hc.1⟩
  refine wpAny_pyIter_slot hT F.slot_dict_iter (wpAny_call_entry F.slot_dict_iter hT F.entry_dict_iter ?_ (F.args_dict_iter_1 _))
  unfold Builtin.«dict.__iter__»
  refine wpAny_bind ?_
  unfold Builtin.Dict.dictSlotNone
  refine wpAny_bind (wpAny_notOrdered_dict hT ?_)
  show wpAny _ _ (pure (Value.ref d)) _ _ s
  refine wpAny_pure ?_
  show wpAny _ _ (Builtin.Dict.showsAll d >>= _) _ _ s
  unfold Builtin.Dict.showsAll
  rw [if_neg (by rw [hd]; exact Bool.false_ne_true)]
  refine wpAny_bind (wpAny_pure ?_)
  refine wpAny_bind (wpAny_dictEntries ho hdat ?_)
  refine wpAny_bind (wpAny_dictEpoch ho hdat ?_)
  refine wpAny_bind (wpAny_newObj_type (wpAny_pure ⟨_, rfl, "dict_keyiterator", _, ⟨_, Heap.get?_push_size _ rfl, rfl⟩, F.slot_dict_keyiterator_next.lookup, ?_⟩))
  simpa [rawInt] using hQ
theorem next_key_item {it d : Addr} {i n ep : Nat} {od : Obj} {es : Array DictEntry} {en : DictEntry} {Q : Option Value → Shared → Prop} (hit : s.heap.IsKeyIter it d i n ep) (hod : s.heap.get? d = some od) (hdd : od.data = .dict es ep)
    (hsz : es.size = n) (hx : es[i]? = some en) (hQ : ∀ h', h'.IsKeyIter it d (i + 1) n ep → Heap.SameBut it s.heap h' → Q (some en.key) { s with heap := h' }) : wpAny (model prog w) A (pyNext (.ref it)) Q E s := by
  obtain ⟨o, ho, hc, hd⟩ := id hit
  unfold pyNext
  refine wpAny_bind (wpAny_attempt (wpAny_callSpecial?_slot (name := Str.ofString "__next__") hit.typeIs F.slot_dict_keyiterator_next
    (wpAny_call_entry F.slot_dict_keyiterator_next hit.typeIs F.entry_dict_keyiterator_next ?_ (F.args_dict_keyiterator_next_1 _))))
  refine wpAny_bind (wpAny_pure ?_)
  refine wpAny_bind ?_
  refine wpAny_bind ?_
  first | refine wpAny_bind (wpAny_typeNameOfWhole_keyiter hit.typeIs (wpAny_pure ?_)) | refine wpAny_bind (wpAny_typeNameOf_keyiter hit.typeIs (wpAny_pure ?_))
  refine wpAny_bind (wpAny_fieldsOf ho hd ?_)
  have hown : Builtin.Dict_items.ownsTuple "dict_keyiterator" = false := by decide
  simp only [hown, Bool.false_eq_true, if_false]
  show wpAny _ _ (if (Value.ref d == Value.none) = true then _ else _) _ _ s
  rw [if_neg (show ¬ ((Value.ref d == Value.none) = true) from Bool.false_ne_true)]
  refine wpAny_bind (wpAny_pure ?_)
  refine wpAny_bind (wpAny_dictEntries hod hdd ?_)
  rw [if_neg (by rw [hsz]; simp)]
  refine wpAny_bind (wpAny_pure ?_)
  refine wpAny_bind (wpAny_dictEpoch hod hdd ?_)
  rw [if_neg (by simp)]
  refine wpAny_pure ?_
  obtain ⟨hlt', hen⟩ := Array.getElem?_eq_some_iff.mp hx
  simp only [show ¬ ((i : Int) < 0) from by omega, if_false, Int.toNat_natCast, Array.getElem?_eq_getElem hlt']
  refine wpAny_bind ?_
  first | refine wpAny_bind (wpAny_typeNameOfWhole_keyiter hit.typeIs (wpAny_pure ?_)) | refine wpAny_bind (wpAny_typeNameOf_keyiter hit.typeIs (wpAny_pure ?_))
  refine wpAny_bind (wpAny_isOneOf_keyiter hit.typeIs ?_)
  show wpAny _ _ (setField (.ref it) 1 (rawInt ((i : Int) + 1)) >>= _) _ _ s
  refine wpAny_bind (wpAny_setField ho hd (by simp) ?_)
  have hit' : (s.heap.update it (Obj.mapFields (·.setIfInBounds 1 (rawInt ((i : Int) + 1))))).IsKeyIter it d (i + 1) n ep :=
    ⟨_, Heap.get?_update_self _ ho (Obj.isFreed_of_fields (Obj.data_mapFields hd _)), (Obj.cls_mapFields ..).trans hc, by rw [Obj.data_mapFields hd]; simp [rawInt]⟩
  refine wpAny_bind (wpAny_holding ?_)
  refine wpAny_bind (wpAny_isOneOf_keyiter (s := { s with heap := s.heap.update it (Obj.mapFields (·.setIfInBounds 1 (rawInt ((i : Int) + 1)))) }) hit'.typeIs ?_)
  show wpAny _ _ (pure es[i].key) _ _ _
  rw [hen]
  exact wpAny_pure (wpAny_pure ⟨_, rfl, wpAny_pure (hQ _ hit' (Heap.SameBut.update ..))⟩)
theorem next_key_end {it d : Addr} {i n ep : Nat} {od : Obj} {es : Array DictEntry} {Q : Option Value → Shared → Prop} (hh : A.handled = none) (hit : s.heap.IsKeyIter it d i n ep) (hod : s.heap.get? d = some od) (hdd : od.data = .dict es ep)
    (hsz : es.size = n) (hge : n ≤ i) (hQ : ∀ h', Heap.ExtBut it s.heap h' → Q none { s with heap := h' }) : wpAny (model prog w) A (pyNext (.ref it)) Q E s := by
  obtain ⟨o, ho, hc, hd⟩ := id hit
  unfold pyNext
  refine wpAny_bind (wpAny_attempt (wpAny_callSpecial?_slot (name := Str.ofString "__next__") hit.typeIs F.slot_dict_keyiterator_next
    (wpAny_call_entry F.slot_dict_keyiterator_next hit.typeIs F.entry_dict_keyiterator_next ?_ (F.args_dict_keyiterator_next_1 _))))
  refine wpAny_bind (wpAny_pure ?_)
  refine wpAny_bind ?_
  refine wpAny_bind ?_
  first | refine wpAny_bind (wpAny_typeNameOfWhole_keyiter hit.typeIs (wpAny_pure ?_)) | refine wpAny_bind (wpAny_typeNameOf_keyiter hit.typeIs (wpAny_pure ?_))
  refine wpAny_bind (wpAny_fieldsOf ho hd ?_)
  have hown : Builtin.Dict_items.ownsTuple "dict_keyiterator" = false := by decide
  simp only [hown, Bool.false_eq_true, if_false]
  show wpAny _ _ (if (Value.ref d == Value.none) = true then _ else _) _ _ s
  rw [if_neg (show ¬ ((Value.ref d == Value.none) = true) from Bool.false_ne_true)]
  refine wpAny_bind (wpAny_pure ?_)
  refine wpAny_bind (wpAny_dictEntries hod hdd ?_)
  rw [if_neg (by rw [hsz]; simp)]
  refine wpAny_bind (wpAny_pure ?_)
  refine wpAny_bind (wpAny_dictEpoch hod hdd ?_)
  rw [if_neg (by simp)]
  refine wpAny_pure ?_
  have hge' : es.size ≤ i := by rw [hsz]; exact hge
  simp only [show ¬ ((i : Int) < 0) from by omega, if_false, Int.toNat_natCast, Array.getElem?_eq_none hge']
  refine wpAny_bind ?_
  first | refine wpAny_bind (wpAny_typeNameOfWhole_keyiter hit.typeIs (wpAny_pure ?_)) | refine wpAny_bind (wpAny_typeNameOf_keyiter hit.typeIs (wpAny_pure ?_))
  show wpAny _ _ (setField (.ref it) 0 .none >>= _) _ _ s
  refine wpAny_bind (wpAny_setField ho hd (by simp) ?_)
  show wpAny _ _ (newExc (.type "StopIteration") [] >>= _) _ _ _
  refine wpAny_bind ?_
  simp only [newExc, newTuple]
  refine wpAny_bind (wpAny_newObj_type ?_ (by size_fits))
  refine wpAny_bind (m := firstArgMember _ _) (wpAny_of_eq (a := Value.none) (by first | rfl | (simp only [firstArgMember]; rfl)) ?_)
  refine wpAny_newObj_type ?_ (by size_fits)
  simp only [raiseNew]
  refine wpAny_bind (wpAny_handled ?_)
  rw [show A.in1.handled = none from hh]
  refine wpAny_bind (wpAny_pure (wpAny_throw ?_))
  refine wpAny_bind (wpAny_isInstance (T := "StopIteration") (b := true) ⟨_, Heap.get?_push_size _ rfl, rfl⟩ isSubtype_stop ?_)
  exact wpAny_pure (hQ _ (((Heap.SameBut.update ..).extBut.push _).push _))
end
theorem kv_get {κ : Type} {kvs : List (κ × V)} {vs : List (κ × Value)} (h : KV kvs vs) : ∀ {i : Nat} {k : κ} {v : V}, kvs[i]? = some (k, v) → ∃ u, vs[i]? = some (k, u) ∧ RelV v u := by
  unfold KV at h
  induction h with
  | nil => intro i k v e; simp at e
  | @cons a b l₁ l₂ r t ih =>
    intro i k v e
    cases i with
    | zero =>
      simp only [List.getElem?_cons_zero, Option.some.injEq] at e
      subst e
      refine ⟨b.2, ?_, r.2⟩
      simp only [List.getElem?_cons_zero]
      exact congrArg some (Prod.ext r.1.symm rfl)
    | succ j =>
      simp only [List.getElem?_cons_succ] at e ⊢
      exact ih e
theorem paired_get {α β : Type} {G : α → β → Prop} {l₁ : List α} {l₂ : List β} (h : Paired G l₁ l₂) : ∀ {i : Nat} {a : α}, l₁[i]? = some a → ∃ b, l₂[i]? = some b ∧ G a b := by
  induction h with
  | nil => intro i a e; simp at e
  | @cons a b l₁ l₂ r t ih =>
    intro i a' e
    cases i with
    | zero =>
      simp only [List.getElem?_cons_zero, Option.some.injEq] at e
      subst e
      exact ⟨b, rfl, r⟩
    | succ j =>
      simp only [List.getElem?_cons_succ] at e ⊢
      exact ih e
theorem relV_key {k : Key} {u : Value} (h : keyIs k u = true) : RelV (kV k) u := by
  rcases keyIs_shape h with ⟨i, t, rfl, rfl⟩ | ⟨x, t, rfl, rfl⟩
  · exact ⟨t, rfl⟩
  · exact ⟨t, rfl⟩
section
variable {X : Cx} {pins : List (Addr × Obj)} {σ : St} {H : Hp} {s : Shared} {d : Addr} {o : Obj}
theorem Inv.frzK {kvs : List (Key × V)} (I : Inv X pins σ H s) (h : H d = some (.frz o (.dK kvs))) :
    (d == sysModules) = false ∧ s.heap.get? d = some o ∧ o.ExactDict ∧ ∃ (es : Array DictEntry) (ep : Nat) (vs : List (Key × Value)), o.data = .dict es ep ∧ es.size = kvs.length ∧ KV kvs vs ∧ s.heap.DictAt (mixKind X.prog X.w) d vs ep := by
  obtain ⟨hd, z, hs, vs, kv, o', es, ep, ho, hx, hdt, r⟩ := I.hok d _ h
  rw [hd] at ho
  cases ho
  refine ⟨hs, hd, hx, es, ep, vs, hdt, ?_, kv, o, es, hd, hx, hdt, r⟩
  have l1 := r.2.1.length
  have l2 : kvs.length = vs.length := Paired.length kv
  rw [Array.length_toList] at l1
  omega
theorem Inv.frzT {kvs : List (List Key × V)} (I : Inv X pins σ H s) (h : H d = some (.frz o (.dT kvs))) :
    (d == sysModules) = false ∧ s.heap.get? d = some o ∧ o.ExactDict ∧ ∃ (es : Array DictEntry) (ep : Nat), o.data = .dict es ep ∧ es.size = kvs.length ∧
      ∀ (i : Nat) (k : List Key) (v : V), kvs[i]? = some (k, v) → ∃ (en : DictEntry) (q : Addr), es[i]? = some en ∧ en.key = .ref q ∧ H q = some (.tup (k.map kV)) := by
  obtain ⟨hd, z, hs, xs, pr, o', es, ep, ho, hx, hdt, he, _⟩ := I.hok d _ h
  rw [hd] at ho
  cases ho
  refine ⟨hs, hd, hx, es, ep, hdt, ?_, fun i k v e => ?_⟩
  · have l1 : es.size = xs.length := size_of_entries he
    have l2 : kvs.length = xs.length := Paired.length pr
    omega
  · obtain ⟨b, hb, e1, e2, _⟩ := paired_get pr e
    have q := entry_at he i
    rw [hb] at q
    exact ⟨_, b.2.1, q, rfl, e2⟩
end
def Itk (d : Addr) (o : Obj) (kvs : List (Key × V)) : It :=
  ⟨fun i H => H d = some (.frz o (.dK kvs)) ∧ i < kvs.length, fun i H x H' => H' = H ∧ ∃ k v, kvs[i]? = some (k, v) ∧ x = kV k, fun i H => H d = some (.frz o (.dK kvs)) ∧ kvs.length ≤ i⟩
def Itkt (d : Addr) (o : Obj) (kvs : List (List Key × V)) : It :=
  ⟨fun i H => H d = some (.frz o (.dT kvs)) ∧ i < kvs.length, fun i H x H' => H' = H ∧ ∃ (k : List Key) (v : V) (q : Addr), kvs[i]? = some (k, v) ∧ x = .ref q ∧ H q = some (.tup (k.map kV)), fun i H => H d = some (.frz o (.dT kvs)) ∧ kvs.length ≤ i⟩
theorem dict_ep {o : Obj} {es es' : Array DictEntry} {ep ep' : Nat} (h : o.data = .dict es ep) (h' : o.data = .dict es' ep') : es' = es ∧ ep' = ep := by
  rw [h] at h'
  cases h'
  exact ⟨rfl, rfl⟩
section
variable {P : Program} {w : World} {K : PySem.W.Frag} {tg : Expr} {d : Addr} {o : Obj} {es : Array DictEntry} {ep : Nat}
theorem turn_keys {kvs : List (Key × V)} (it : Addr) (hod : o.data = .dict es ep) : Turn P w K tg (Itk d o kvs) [it] it (fun i h => h.IsKeyIter it d i kvs.length ep) where
  mem := by simp
  obj := fun i h st b hb => by
    have e : b = it := by simpa using hb
    subst e
    obtain ⟨oi, e, c, dd⟩ := st
    exact ⟨oi, e, fun v z => by rw [dd] at z; cases z⟩
  keep := fun i h h' st k => st.at fun oi e => k it (by simp) oi e
  item := by
    intro X hP hw hK hc i pins s σ H E I hf st hg
    subst hP hw hK
    obtain ⟨hd, hi⟩ := hg
    obtain ⟨f0, f1, f2, f3, f4, f5⟩ := hf it (by simp)
    obtain ⟨hs, hgd, hx, es', ep', vs, hdt, hsz, kv, hm⟩ := I.frzK hd
    obtain ⟨rfl, rfl⟩ := dict_ep hod hdt
    obtain ⟨⟨k, v⟩, hkv⟩ : ∃ p, kvs[i]? = some p := ⟨kvs[i], List.getElem?_eq_getElem hi⟩
    obtain ⟨u, hu, ru⟩ := kv_get kv hkv
    have hl : kvs.length = vs.length := Paired.length kv
    rw [hl] at st
    refine wpAny_pyNext_dict_item st hm hu fun key h' hkey st' sb => ?_
    have I1 : Inv X pins σ H { s with heap := h' } := I.turned (t' := s.toks) (fun b ob hb e => (sb.2 b hb).trans e) f0 f1 f3 f4 f5
    obtain ⟨oi, e, c, dd⟩ := id st'
    refine ⟨key, rfl, go_of (s := { s with heap := h' }) e c dd (by decide) ⟨kV k, H, I1, relV_key (show keyIs k key = true from hkey), ⟨rfl, k, v, hkv, rfl⟩, ?_, fun b hb => (hf b hb).1⟩⟩
    show h'.IsKeyIter it d (i + 1) kvs.length _
    rw [hl]
    exact st'
  done := by
    intro X hP hw hK hc i pins s σ H E I hf st hg
    subst hP hw hK
    obtain ⟨hd, hi⟩ := hg
    obtain ⟨f0, f1, f2, f3, f4, f5⟩ := hf it (by simp)
    obtain ⟨hs, hgd, hx, es', ep', vs, hdt, hsz, kv, hm⟩ := I.frzK hd
    obtain ⟨rfl, rfl⟩ := dict_ep hod hdt
    exact next_key_end (I.ok.hd hc) st hgd hdt hsz hi fun h' eb => ⟨rfl, I.turned (t' := s.toks) (fun b ob hb e => eb b ob hb e) f0 f1 f3 f4 f5⟩
  self := fun A i s Q E st h => wpAny_pyIter_keyiter st h
theorem turn_keysT {kvs : List (List Key × V)} (it : Addr) (hod : o.data = .dict es ep) : Turn P w K tg (Itkt d o kvs) [it] it (fun i h => h.IsKeyIter it d i kvs.length ep) where
  mem := by simp
  obj := fun i h st b hb => by
    have e : b = it := by simpa using hb
    subst e
    obtain ⟨oi, e, c, dd⟩ := st
    exact ⟨oi, e, fun v z => by rw [dd] at z; cases z⟩
  keep := fun i h h' st k => st.at fun oi e => k it (by simp) oi e
  item := by
    intro X hP hw hK hc i pins s σ H E I hf st hg
    subst hP hw hK
    obtain ⟨hd, hi⟩ := hg
    obtain ⟨f0, f1, f2, f3, f4, f5⟩ := hf it (by simp)
    obtain ⟨hs, hgd, hx, es', ep', hdt, hsz, ent⟩ := I.frzT hd
    obtain ⟨rfl, rfl⟩ := dict_ep hod hdt
    obtain ⟨⟨k, v⟩, hkv⟩ : ∃ p, kvs[i]? = some p := ⟨kvs[i], List.getElem?_eq_getElem hi⟩
    obtain ⟨en, q, hen, hkey, hq⟩ := ent i k v hkv
    refine next_key_item st hgd hdt hsz hen fun h' st' sb => ?_
    have I1 : Inv X pins σ H { s with heap := h' } := I.turned (t' := s.toks) (fun b ob hb e => (sb.2 b hb).trans e) f0 f1 f3 f4 f5
    obtain ⟨oi, e, c, dd⟩ := id st'
    exact ⟨en.key, rfl, go_of (s := { s with heap := h' }) e c dd (by decide) ⟨.ref q, H, I1, hkey, ⟨rfl, k, v, q, hkv, rfl, hq⟩, st', fun b hb => (hf b hb).1⟩⟩
  done := by
    intro X hP hw hK hc i pins s σ H E I hf st hg
    subst hP hw hK
    obtain ⟨hd, hi⟩ := hg
    obtain ⟨f0, f1, f2, f3, f4, f5⟩ := hf it (by simp)
    obtain ⟨hs, hgd, hx, es', ep', hdt, hsz, ent⟩ := I.frzT hd
    obtain ⟨rfl, rfl⟩ := dict_ep hod hdt
    exact next_key_end (I.ok.hd hc) st hgd hdt hsz hi fun h' eb => ⟨rfl, I.turned (t' := s.toks) (fun b ob hb e => eb b ob hb e) f0 f1 f3 f4 f5⟩
  self := fun A i s Q E st h => by
    refine wpAny_pyIter_slot st.typeIs F.slot_dict_keyiterator_iter (wpAny_call_entry F.slot_dict_keyiterator_iter st.typeIs F.entry_dict_keyiterator_iter ?_ (F.args_dict_keyiterator_iter_1 _))
    show wpAny _ _ (ret (.ref it)) _ _ s
    exact wpAny_pure ⟨_, rfl, "dict_keyiterator", _, st.typeIs, F.slot_dict_keyiterator_next.lookup, h⟩
end
def iKeys (td : TE) : TI := fun σ H R => td σ H fun x H1 => ∃ d o, x = .ref d ∧ ((∃ kvs, H1 d = some (.frz o (.dK kvs)) ∧ R (Itk d o kvs) H1) ∨ ∃ kvs, H1 d = some (.frz o (.dT kvs)) ∧ R (Itkt d o kvs) H1)
section
variable {X : Cx} {tg e : Expr} {td : TE} {apos cpos : Pos}
theorem pi_keys (he : PE X e td) : PI X tg e (iKeys td) := by
  intro pins s σ H R I h
  refine thn (he pins s σ H _ I h) fun u s1 ⟨x, H1, I1, rx, d, o, ex, q⟩ => ?_
  subst ex
  obtain rfl : u = Value.ref d := rx
  rcases q with ⟨kvs, hd, q⟩ | ⟨kvs, hd, q⟩
  · obtain ⟨hs, hgd, hx, es, ep, vs, hdt, hsz, kv, hm⟩ := I1.frzK hd
    refine iter_keys hs hgd hx hdt (pi_one (tk := s1.toks) I1 _ (turn_keys _ hdt) ⟨_, Heap.get?_push_size _ rfl, rfl, ?_⟩ q)
    rw [hsz] <;> rfl
  · obtain ⟨hs, hgd, hx, es, ep, hdt, hsz, ent⟩ := I1.frzT hd
    refine iter_keys hs hgd hx hdt (pi_one (tk := s1.toks) I1 _ (turn_keysT _ hdt) ⟨_, Heap.get?_push_size _ rfl, rfl, ?_⟩ q)
    rw [hsz] <;> rfl
end
def Ite (K : PySem.W.Frag) (a : Addr) : It :=
  ⟨fun i H => ∃ (xs : List V) (x : V), SqL K H a xs ∧ xs[i]? = some x, fun i H v H' => ∃ T x, v = .ref T ∧ H T = none ∧ H' = upd H T (.tup [.int (i : Nat), x]) ∧ ∀ xs, SqL K H a xs → xs[i]? = some x, fun i H => ∃ xs : List V, SqL K H a xs ∧ xs.length ≤ i⟩
theorem turn_enum {P : Program} {w : World} {K : PySem.W.Frag} {elts : List Expr} {kk : Nat} {tpos : Pos} (a e it : Addr) :
    Turn P w K (.Tuple elts kk tpos) (Ite K a) [e, it] e (fun i h => (∃ old, IsEnum h e it ((i : Nat) : Int) old) ∧ h.IsListIter it a i ∧ e ≠ it) where
  mem := by simp
  obj := fun i h st b hb => by
    obtain ⟨⟨old, he⟩, ⟨o, ho, hc, hd⟩, _⟩ := st
    have e' : b = e ∨ b = it := by simpa using hb
    rcases e' with z | z
    · rw [z]; exact ⟨_, he, fun v q => nomatch q⟩
    · rw [z]; exact ⟨o, ho, fun v q => by rw [hd] at q; cases q⟩
  keep := fun i h h' st k => let ⟨⟨old, he⟩, hi, hne⟩ := st; ⟨⟨old, k e (by simp) _ he⟩, hi.at fun o q => k it (by simp) o q, hne⟩
  item := by
    intro X hP hw hK hc i pins s σ H E I hf st hg
    subst hP hw hK
    obtain ⟨⟨old, he⟩, hit, hne⟩ := st
    obtain ⟨xs, x, hq, hx⟩ := hg
    obtain ⟨its, rv, p, hz⟩ := I.list hq
    obtain ⟨u, hu, ru⟩ := rv.get hx
    have hel : e < s.heap.objs.size := Heap.lt_size he
    have hil : it < s.heap.objs.size := by obtain ⟨_, q, _⟩ := hit; exact Heap.lt_size q
    refine wpAny_pyNext_enum_item he hit p.isList (x := u) (by simpa using hu) hne fun h' ho hit' hT hsz hk => ?_
    refine ⟨_, rfl, wpAny_letOwnedTupleGo_enum (s := { s with heap := h', toks := s.toks + 1 }) ho fun h'' he' sb => ?_⟩
    have hT2 : h''.get? s.heap.objs.size = some { cls := .type "tuple", data := .seq #[.int i s.toks, u] } := (sb.2 _ (Nat.ne_of_gt hel)).trans hT
    have new : ObjOk X.prog X.w (upd H s.heap.objs.size (.tup [.int (i : Nat), x])) h'' s.heap.objs.size (.tup [.int (i : Nat), x]) :=
      ⟨by show 2 ≤ sizeLine; decide, [.int i s.toks, u], .cons ⟨_, rfl⟩ (.cons ru .nil), ⟨_, hT2, rfl, _, rfl⟩⟩
    have I1 : Inv X pins σ (upd H s.heap.objs.size (.tup [.int (i : Nat), x])) { s with heap := h'', toks := s.toks + 1 } :=
      I.turnedNew (ch := [e, it]) (fun b ob hb q => (sb.2 b (fun z => hb (by simp [z]))).trans (hk b ob (fun z => hb (by simp [z])) (fun z => hb (by simp [z])) q)) hf (Nat.le_refl _) new
    refine ⟨.ref s.heap.objs.size, _, I1, rfl, ⟨_, x, rfl, I.hok.fresh (Nat.le_refl _), rfl, fun ys hy => by rw [I.list_inj hy hq]; exact hx⟩, ⟨⟨u, ?_⟩, hit'.at fun o q => (sb.2 it (Ne.symm hne)).trans q, hne⟩, fun b hb => ?_⟩
    · have e1 : ((i + 1 : Nat) : Int) = (i : Int) + 1 := by omega
      rw [e1]; exact he'
    · have hb' : b < s.heap.objs.size := by
        have e' : b = e ∨ b = it := by simpa using hb
        rcases e' with z | z
        · rw [z]; exact hel
        · rw [z]; exact hil
      rw [upd_ne (Nat.ne_of_lt hb')]
      exact (hf b hb).1
  done := by
    intro X hP hw hK hc i pins s σ H E I hf st hg
    subst hP hw hK
    obtain ⟨⟨old, he⟩, hit, hne⟩ := st
    obtain ⟨xs, hq, hx⟩ := hg
    obtain ⟨its, rv, p, hz⟩ := I.list hq
    obtain ⟨f0, f1, f2, f3, f4, f5⟩ := hf it (by simp)
    have hl := rv.length
    exact wpAny_pyNext_enum_end (I.ok.hd hc) he hit p.isList (by simp; omega) fun h' eb => ⟨rfl, I.turned (t' := s.toks) (fun b o hb q => eb b o hb q) f0 f1 f3 f4 f5⟩
  self := fun A i s Q E st h => let ⟨⟨_, he⟩, _⟩ := st; wpAny_pyIter_enum he h
def iEnum (K : PySem.W.Frag) (ta : TA) : TI := fun σ H R => ta σ H fun vs H1 => ∃ a xs, vs = [.ref a] ∧ SqL K H1 a xs ∧ R (Ite K a) H1
theorem pi_enum {X : Cx} {e : Expr} {ta : TA} {p pos tpos : Pos} {elts : List Expr} {kk : Nat} (hg : Gl X "enumerate") (hm : X.mg "enumerate" = none) (ha : PA X [e] ta) (hs : starEach [e] X.env = [(false, eval e X.env)] := by rfl) :
    PI X (.Tuple elts kk tpos) (.Call (.Name "enumerate" p) [e] [] pos) (iEnum X.K ta) := by
  intro pins s σ H R I h
  refine Call_ (ld_blt I hg hm boot_enumerate (PyProof.Rows.callWith_type1 (thn (ha pos pins s σ H _ I h) fun us s1 ⟨vs, H1, I1, r1, q1⟩ => ?_) hs rfl))
  obtain ⟨a, xs, ex, hq, q⟩ := q1
  subst ex
  cases r1 with
  | cons r rr =>
    cases rr
    cases r
    obtain ⟨its, rv, p', hz⟩ := I1.list hq
    refine call_enumerate_list p'.isList fun h' he hit hsz hk => wpAny_pyIter_enum he ?_
    have I2 : Inv X pins σ H1 { s1 with heap := h' } := I1.kept (t' := s1.toks) hk
    refine ⟨s1.heap.objs.size + 1, [s1.heap.objs.size + 1, s1.heap.objs.size], _, _, H1, rfl, I2, turn_enum a (s1.heap.objs.size + 1) s1.heap.objs.size, ⟨⟨.none, he⟩, hit, Nat.succ_ne_self _⟩, fun b hb => ?_, q⟩
    have e' : b = s1.heap.objs.size + 1 ∨ b = s1.heap.objs.size := by simpa using hb
    have hle : s1.heap.objs.size ≤ b := by
      rcases e' with z | z
      · rw [z]; exact Nat.le_add_right _ _
      · rw [z]; exact Nat.le_refl _
    exact I1.fpOk hle (I1.hok.fresh hle)
end L2
section 
namespace Bits
open PySem PyProof.Rows
end Bits
end 
section 
namespace TL
open PySem PySem.Builtin PySem.Builtin.Str PySem.StrLaws
abbrev tl (x : Str) : List Nat := x.cps.toList
def pre (S l : List Nat) : Bool := l.take S.length == S
def par (S : List Nat) : List Nat → List Nat → Option (List Nat × List Nat)
  | _, [] => none
  | acc, c :: r => if pre S (c :: r) = true then some (acc, (c :: r).drop S.length) else par S (acc ++ [c]) r
end TL
end 
namespace L2
open PySem PySem.Spec PyProof.Rows
section
variable {X : Cx} {pins : List (Addr × Obj)} {σ : St} {H : Hp} {s : Shared} {Q : VK}
end
section
variable {X : Cx}
end
section
variable {X : Cx} {o e : Expr} {to te : TE}
end
end L2
namespace L2
open PySem PySem.Spec PyProof.Rows
section
variable {X : Cx}
end
theorem IsPart.raw {v : Value} {o : Option Int} (p : IsPart v o) : ∃ l : Option (Int × Tok), v = partValue l ∧ l.map (·.1) = o := by
  cases p with
  | none => exact ⟨none, rfl, rfl⟩
  | int i t => exact ⟨some (i, t), rfl, rfl⟩
end L2
namespace Att
open PySem PySem.W PySem.Calls PyProof.Rows
section
variable {prog : Program} {w : World} {A : Around} {E : Value → Shared → Prop} {s : Shared} {K : Frag}
end
end Att
namespace L2
open PySem PySem.Spec PyProof.Rows
end L2
namespace L2
open PySem PySem.Spec PyProof.Rows
end L2
/- THE LAST THEOREM (shape; LID, My.* are yours):
   My.Adr: a structure of the addresses that your layer names (classes, functions); My.Txt K t: a structure (Prop) of the equations over K;
   My.txt_mk : {K} {implicit addresses ..} (e1 : nsIn K mainGlobals "law" = some (some (.ref f))) (e2 : K.lookup f = some ⟨oc, od, .func (fnOf "law" "law" params body scope dV kV doc pm an cdv ct), sl⟩) (e3 : codeIn K cdv "law" = true) .. : ∃ t, My.Txt K t
set_option maxRecDepth 100000 in
set_option maxHeartbeats 0 in
theorem PySem.Challenge.cw_LID_holds : PySem.Challenge.rw_LID.Holds := by
  w_on; o_law; k_head; (case hw => w_witness2)
  k_fill
  refine L2.walk_of (l := PySem.Challenge.rw_LID) (n := 63) (k := 40) (x := "script") (CX := fun w => ..) (sp := fun _ => My.sp_law) rfl (by decide) rfl ⟨rfl, by decide, by decide⟩ (fun w h Y => PySem.W.kIn_of Y) ?F ?S ?C
  case F =>
    intro w mg fa h KX G hmg
    have T : ∃ t, My.Txt (L2.KOf KX) t := by
      dsimp only [L2.KOf]                          -- K must stand as «<heap const> w.params» for k_is
      refine' My.txt_mk ?e1 ?e2 ?e3 ..
      (case e1 => PySem.W.k_is)                    -- in the order: a name -> its address -> its object -> its parts
      (case e2 => PySem.W.k_is)
      ..
    obtain ⟨t, T⟩ := T
    have e0 := hmg.symm.trans (PySem.W.mg_of KX G T.law)
    cases e0                                       -- fa is the law's own address
    exact ⟨_, fun s u => .of_eq rfl, fun base kb nb => My.law_fn T kb nb⟩     -- if «.of_eq rfl» comes too early: refine' ⟨_, ?b, fun base kb nb => My.law_fn T kb nb⟩; exact fun s u => .of_eq rfl
  case S => exact fun w H a ns hl hO hS => ..
  case C => exact ..
(the tactic k_is has no namespace: write k_is) -/
namespace L2
open PySem PySem.Spec PyProof.Rows
def inClass (s : Stmt) (j : Nat) : Stmt := match s with
  | .ClassDef _ _ _ body _ _ _ _ _ _ _ => body.getD j (.Pass ⟨0, 0, 0, 0⟩)
  | _ => .Pass ⟨0, 0, 0, 0⟩
def defArgs (s : Stmt) : Arguments := match s with
  | .FunctionDef _ a _ _ _ _ _ _ _ _ => a
  | _ => { posonlyargs := [], args := [], vararg := none, kwonlyargs := [], kw_defaults := [], kwarg := none, defaults := [] }
def defBody (s : Stmt) : List Stmt := match s with
  | .FunctionDef _ _ b _ _ _ _ _ _ _ => b
  | _ => []
def defScope (s : Stmt) : Scope := match s with
  | .FunctionDef _ _ _ _ _ _ sc _ _ _ => sc
  | _ => { kind := .function, names := [], isGenerator := false, isCoroutine := false }
abbrev CX0 : CXT := fun _ _ _ _ _ _ => False
abbrev E0 : XK := fun _ _ _ => False
theorem pass0 {X : Cx} : Passes CX0 X E0 := fun _ _ _ _ _ _ _ h => h.elim
structure Fun (K : PySem.W.Frag) (x qual : Str) (st : Stmt) (f : Addr) (fd : FuncData) : Prop where
  ex : ∃ (oc : Value) (od : Option Addr) (kV doc pm : Value) (an : Option Addr) (cdv ct : Value) (osl : Array (Option Value)),
    fd = PySem.W.fnOf x qual (defArgs st) (defBody st) (defScope st) .none kV doc pm an cdv ct ∧ K.lookup f = some ⟨oc, od, .func fd, osl⟩ ∧ PySem.W.codeIn K cdv qual = true
  kp : PySem.W.keepIn K (.ref f) = true
section
variable {P : Program} {w : World} {K : PySem.W.Frag} {mg : Str → Option Value} {base : Heap}
theorem Fun.ok {x qual : Str} {st : Stmt} {f : Addr} {fd : FuncData} {N ps : List Str} {k : Nat} {sp : Sp} (F : Fun K x qual st f fd) (S : FnScope N ps (defScope st)) (len : ∀ vs H Q E, sp vs H Q E → vs.length = ps.length)
    (hbody : ∀ (cdv : Value) (A : Around) (outer : List Env) (s : Shared) (H : Hp) (vs : List V) (Q : VK) (E : XK), Room k (A.deeper (envOfC qual (defScope st) s.heap.objs.size f cdv)) → sp vs H Q E →
      ∃ t, PSs (cxOf CX0 P w K mg base N qual (defScope st) f cdv A outer s H E).nox (defBody st) t ∧ t { nx := fun _ H' => Q .non H', rt := Q } (start N vs) H) : FnOk P w K mg base CX0 (k + 1) f fd ps sp := by
  obtain ⟨oc, od, kV, doc, pm, an, cdv, ct, osl, rfl, lk, hcd⟩ := F.ex
  refine fn_of lk hcd S len fun A outer s H vs Q E hr hsp => ?_
  obtain ⟨t, h, q⟩ := hbody cdv A outer s H vs Q E hr hsp
  exact ⟨t, h.nox, q⟩
theorem Fun.binds {x qual : Str} {st : Stmt} {f : Addr} {fd : FuncData} {ps : List Str} (F : Fun K x qual st f fd)
    (h : ∀ (kV doc pm : Value) (an : Option Addr) (cdv ct : Value) (us : List Value), us.length = ps.length → bindArgs (PySem.W.fnOf x qual (defArgs st) (defBody st) (defScope st) .none kV doc pm an cdv ct) ⟨us, []⟩ = pure (ps.zip us)) : Binds K fd ps [] := by
  obtain ⟨oc, od, kV, doc, pm, an, cdv, ct, osl, rfl, lk, hcd⟩ := F.ex
  exact .all (h kV doc pm an cdv ct)
theorem fun_mk {x qual : Str} {st : Stmt} {f : Addr} {oc : Value} {od an : Option Addr} {osl : Array (Option Value)} {kV doc pm cdv ct : Value} (l : K.lookup f = some ⟨oc, od, .func (PySem.W.fnOf x qual (defArgs st) (defBody st) (defScope st) .none kV doc pm an cdv ct), osl⟩)
    (c : PySem.W.codeIn K cdv qual = true) (k : PySem.W.keepIn K (.ref f) = true) : Fun K x qual st f (PySem.W.fnOf x qual (defArgs st) (defBody st) (defScope st) .none kV doc pm an cdv ct) := ⟨⟨oc, od, kV, doc, pm, an, cdv, ct, osl, rfl, l, c⟩, k⟩
end
theorem hu_of {A : Around} {k : Nat} (hr : Room k A) : A.units + 1 < cLine := Nat.lt_of_le_of_lt (Nat.add_le_add_left (by decide : 1 ≤ 64) _) hr.units
section
variable {X : Cx}
theorem pv (i : Nat) {x : Str} {pos : Pos} (hN : X.N[i]? = some x := by rfl) (hv : Vis X.env.scope x := by first | exact Or.inl rfl | exact Or.inr (Or.inl rfl) | exact Or.inr (Or.inr rfl)) (hd : (x == ("__debug__" : Str)) = false := by decide)
    (hcd : (x == ("__classdict__" : Str)) = false := by decide) : PE X (.Name x pos) (tVar i) := pe_var hN hv hd hcd
end
def Same (H H' : Hp) : Prop := ∀ b o, H b = some o → H' b = some o
theorem Same.refl (H : Hp) : Same H H := fun _ _ h => h
theorem Same.trans {H H1 H2 : Hp} (a : Same H H1) (b : Same H1 H2) : Same H H2 := fun c o h => b c o (a c o h)
theorem Same.free {H H' : Hp} (e : Same H H') {l : Addr} (h : H' l = Option.none) : H l = Option.none := by
  cases q : H l with
  | none => rfl
  | some o =>
    rw [e l o q] at h
    cases h
theorem Same.seq {K : PySem.W.Frag} {H H' : Hp} {a : Addr} {xs : List V} (e : Same H H') (h : SqL K H a xs) : SqL K H' a xs := by
  rcases h with (h | ⟨o, h⟩) | h
  · exact .inl (.inl (e _ _ h))
  · exact .inl (.inr ⟨o, e _ _ h⟩)
  · exact .inr h
section
variable {κ : Type} [DecidableEq κ]
end
theorem Same.made {H H1 : Hp} {x dx C : Addr} (nx : H x = Option.none) (nd : H dx = Option.none) (k : ∀ b o, (upd (upd H dx (.own x)) x (.ins C dx [])) b = some o → b ≠ x → H1 b = some o) : Same H H1 := fun b o e =>
  k b o (by rw [upd_ne (ne_of_none e nx), upd_ne (ne_of_none e nd)]; exact e) (ne_of_none e nx)
end L2
section
set_option Elab.async false
set_option linter.all false
set_option maxRecDepth 100000
set_option maxHeartbeats 2000000
namespace L2
open PySem PySem.Spec PyProof.Rows
open PySem.W (WData Codec OpenSpec Well WellAll ReadsW ReadsAllW)
mutual
inductive Dw (K : PySem.W.Frag) (H : Hp) : V → WData → Prop
  | non : Dw K H .non .none
  | bl (b : Bool) : Dw K H (.bl b) (.bool b)
  | int (i : Int) : Dw K H (.int i) (.int i)
  | str (x : Str) : Dw K H (.str x) (.str x)
  | byt (b : Array UInt8) : Dw K H (.byt b) (.bytes b.toList)
  | lst {a : Addr} {xs : List V} {ds : List WData} : SqL K H a xs → DwAll K H xs ds → Dw K H (.ref a) (.list ds)
  | tup {a : Addr} {xs : List V} {ds : List WData} : SqT K H a xs → DwAll K H xs ds → Dw K H (.ref a) (.tuple ds)
inductive DwAll (K : PySem.W.Frag) (H : Hp) : List V → List WData → Prop
  | nil : DwAll K H [] []
  | cons {v : V} {vs : List V} {d : WData} {ds : List WData} : Dw K H v d → DwAll K H vs ds → DwAll K H (v :: vs) (d :: ds)
end
theorem dw_ints {K : PySem.W.Frag} {H : Hp} : ∀ ns : List Int, DwAll K H (ns.map V.int) (ns.map WData.int)
  | [] => .nil
  | n :: r => .cons (.int n) (dw_ints r)
theorem ints_dw {K : PySem.W.Frag} {H : Hp} : ∀ (ns : List Int) (xs : List V), DwAll K H xs (ns.map WData.int) → xs = ns.map V.int
  | [], xs, h => by
    cases h
    rfl
  | n :: r, xs, h => by
    cases h with
    | cons h1 h2 =>
      cases h1
      rw [ints_dw r _ h2] <;> rfl
section
variable {P : Program} {w : World} {K : PySem.W.Frag} {H : Hp} {h : Heap} {R : PySem.W.WRecords} {cl : Str → Option Addr}
theorem sqL_at {a : Addr} {xs : List V} (hok : HOk P w H h) (KX : K.In h) (q : SqL K H a xs) : ∃ (its : List Value) (o : Obj) (n : Nat), Vals xs its ∧ h.get? a = some o ∧ o.cls = .type "list" ∧ o.data = .seq its.toArray n := by
  rcases q with q | ⟨o, its, n, e, hc, _, hd, _, hv⟩
  · obtain ⟨_, its, n, hv, e⟩ := (show ObjOk P w H h a (.lst xs) from q.ok hok)
    exact ⟨its, _, n, hv, e, rfl, rfl⟩
  · exact ⟨its.toList, o, n, hv, KX _ _ e, hc, by simp [hd]⟩
theorem sqT_at {a : Addr} {xs : List V} (hok : HOk P w H h) (KX : K.In h) (q : SqT K H a xs) : ∃ (its : List Value) (o : Obj) (n : Nat), Vals xs its ∧ h.get? a = some o ∧ o.cls = .type "tuple" ∧ o.data = .seq its.toArray n := by
  rcases q with q | ⟨o, its, n, e, hc, hd, _, hv⟩
  · obtain ⟨_, its, hv, o, e, hc, n, hd⟩ := (show ObjOk P w H h a (.tup xs) from q.ok hok)
    exact ⟨its, o, n, hv, e, hc, hd⟩
  · exact ⟨its.toList, o, n, hv, KX _ _ e, hc, by simp [hd]⟩
mutual
theorem Dw.reads (hok : HOk P w H h) (KX : K.In h) : ∀ (d : WData) (v : V) (u : Value), Dw K H v d → RelV v u → ∃ as, ReadsW R cl h u d as
  | .none, _, _, x, r => by
    cases x
    cases r
    exact ⟨_, ReadsW.none⟩
  | .bool b, _, _, x, r => by
    cases x
    cases r
    exact ⟨_, ReadsW.bool b⟩
  | .int i, _, _, x, r => by
    cases x
    obtain ⟨t, rfl⟩ := r
    exact ⟨_, ReadsW.int i t⟩
  | .str s, _, _, x, r => by
    cases x
    obtain ⟨t, rfl⟩ := r
    exact ⟨_, ReadsW.str s t⟩
  | .bytes b, _, _, x, r => by
    cases x
    obtain ⟨t, rfl⟩ := r
    exact ⟨_, ReadsW.bytes _ t⟩
  | .list ds, _, _, x, r => by
    cases x with
    | lst hs ha =>
      cases r
      obtain ⟨its, o, n, rv, ho, hc, hd⟩ := sqL_at hok KX hs
      obtain ⟨as, hr⟩ := Dw.readsAll hok KX ds _ its ha rv
      exact ⟨_, ReadsW.list ho hc hd hr⟩
  | .tuple ds, _, _, x, r => by
    cases x with
    | tup hs ha =>
      cases r
      obtain ⟨its, o, n, rv, ho, hc, hd⟩ := sqT_at hok KX hs
      obtain ⟨as, hr⟩ := Dw.readsAll hok KX ds _ its ha rv
      exact ⟨_, ReadsW.tuple ho hc hd hr⟩
  | .float _, _, _, x, _ => by cases x
  | .dict _, _, _, x, _ => by cases x
  | .bytearray _, _, _, x, _ => by cases x
  | .set _, _, _, x, _ => by cases x
  | .frozenset _, _, _, x, _ => by cases x
  | .obj _ _, _, _, x, _ => by cases x
theorem Dw.readsAll (hok : HOk P w H h) (KX : K.In h) : ∀ (ds : List WData) (vs : List V) (us : List Value), DwAll K H vs ds → Vals vs us → ∃ as, ReadsAllW R cl h us ds as
  | [], _, _, x, r => by
    cases x
    cases r
    exact ⟨_, ReadsAllW.nil⟩
  | d :: ds, _, _, x, r => by
    cases x with
    | cons h1 h2 =>
      cases r with
      | cons r1 r2 =>
        obtain ⟨as, q1⟩ := Dw.reads hok KX d _ _ h1 r1
        obtain ⟨bs, q2⟩ := Dw.readsAll hok KX ds _ _ h2 r2
        exact ⟨_, ReadsAllW.cons q1 q2⟩
end
end
mutual
def plW : WData → Bool
  | .none => true
  | .bool _ => true
  | .int _ => true
  | .str _ => true
  | .bytes _ => true
  | .list xs => plWs xs
  | .tuple xs => plWs xs
  | _ => false
def plWs : List WData → Bool
  | [] => true
  | x :: r => plW x && plWs r
end
theorem plWs_map {α : Type} {f : α → WData} (h : ∀ a, plW (f a) = true) : ∀ l : List α, plWs (l.map f) = true
  | [] => rfl
  | x :: r => by
    show (plW (f x) && plWs (r.map f)) = true
    rw [h x, plWs_map h r] <;> rfl
theorem pl_enc : ∀ (c : Codec) (a : c.denote), plW (c.enc a) = true
  | .unit, _ => rfl
  | .bool, _ => rfl
  | .int _ _, _ => rfl
  | .nat _ _, _ => rfl
  | .u8, _ => rfl
  | .bytes _ _, _ => rfl
  | .text _ _ _ _, _ => rfl
  | .list _ _ c, a => plWs_map (fun x => pl_enc c x) a
  | .pair c d, a => by
    show (plW (c.enc a.1) && (plW (d.enc a.2) && true)) = true
    rw [pl_enc c a.1, pl_enc d a.2] <;> rfl
  | .triple c d e, a => by
    show (plW (c.enc a.1) && (plW (d.enc a.2.1) && (plW (e.enc a.2.2) && true))) = true
    rw [pl_enc c a.1, pl_enc d a.2.1, pl_enc e a.2.2] <;> rfl
  | .option c, none => rfl
  | .option c, some x => pl_enc c x
theorem pl_encAll : ∀ (cs : List Codec) (a : Codec.denoteAll cs), plWs (Codec.encAll cs a) = true
  | [], _ => rfl
  | c :: cs, a => by
    show (plW (c.enc a.1) && plWs (Codec.encAll cs a.2)) = true
    rw [pl_enc c a.1, pl_encAll cs a.2] <;> rfl
theorem weight_mem : ∀ {xs : List WData} {d : WData}, d ∈ xs → d.weight ≤ WData.weightAll xs
  | [], d, h => absurd h (by simp)
  | x :: r, d, h => by
    show d.weight ≤ x.weight + 1 + WData.weightAll r
    rcases List.mem_cons.mp h with e | m
    · rw [e]
      omega
    · have z := weight_mem m
      omega
def toV : Value → V
  | .none => .non
  | .bool b => .bl b
  | .int i _ => .int i
  | .str x _ => .str x
  | .bytes b _ => .byt b
  | .ref a => .ref a
  | _ => .non
def OkU (A : List Addr) : Value → Prop
  | .none => True
  | .bool _ => True
  | .int _ _ => True
  | .str _ _ => True
  | .bytes _ _ => True
  | .ref a => a ∈ A
  | _ => False
theorem OkU.mono {A B : List Addr} (h : ∀ a ∈ A, a ∈ B) : ∀ {u : Value}, OkU A u → OkU B u := fun {u} x => by
  cases u with
  | ref a => exact h a x
  | none => trivial
  | bool b => trivial
  | int i t => trivial
  | str s t => trivial
  | bytes b t => trivial
  | _ => exact False.elim x
theorem relV_toV {A : List Addr} {u : Value} (x : OkU A u) : RelV (toV u) u := by
  cases u with
  | ref a => rfl
  | none => rfl
  | bool b => rfl
  | int i t => exact ⟨t, rfl⟩
  | str s t => exact ⟨t, rfl⟩
  | bytes b t => exact ⟨t, rfl⟩
  | _ => exact False.elim x
theorem vals_toV {A : List Addr} : ∀ {vs : List Value}, (∀ u ∈ vs, OkU A u) → Vals (vs.map toV) vs
  | [], _ => .nil
  | u :: r, h => .cons (relV_toV (h u (List.mem_cons_self ..))) (vals_toV fun x hx => h x (List.mem_cons_of_mem _ hx))
def ArgOb (h : Heap) (A : List Addr) (a : Addr) : Prop := ∃ vs : List Value, vs.length ≤ sizeLine ∧ (∀ u ∈ vs, OkU A u) ∧
  (h.get? a = some { cls := .type "list", data := .seq vs.toArray } ∨ h.get? a = some { cls := .type "tuple", data := .seq vs.toArray })
theorem ArgOb.mono {h : Heap} {A B : List Addr} {a : Addr} (k : ∀ a ∈ A, a ∈ B) (x : ArgOb h A a) : ArgOb h B a := by
  obtain ⟨vs, h1, h2, h3⟩ := x
  exact ⟨vs, h1, fun u hu => (h2 u hu).mono k, h3⟩
theorem wellAll_len {P : Params} {h : Heap} : ∀ {vs : List Value} {ds : List WData}, WellAll P h vs ds → vs.length = ds.length
  | _, _, .nil => rfl
  | _, _, .cons _ b => by
    show _ + 1 = _ + 1
    rw [wellAll_len b]
theorem well_list {P : Params} {h : Heap} {v : Value} {ds : List WData} (x : Well P h v (.list ds)) : ∃ (a : Addr) (vs : List Value), v = .ref a ∧ h.get? a = some { cls := .type "list", data := .seq vs.toArray } ∧ WellAll P h vs ds := by
  cases x with
  | list ho hall => exact ⟨_, _, rfl, ho, hall⟩
theorem well_tuple {P : Params} {h : Heap} {v : Value} {ds : List WData} (x : Well P h v (.tuple ds)) : ∃ (a : Addr) (vs : List Value), v = .ref a ∧ h.get? a = some { cls := .type "tuple", data := .seq vs.toArray } ∧ WellAll P h vs ds := by
  cases x with
  | tuple ho hall => exact ⟨_, _, rfl, ho, hall⟩
theorem well_cons {P : Params} {h : Heap} {us : List Value} {d : WData} {ds : List WData} (x : WellAll P h us (d :: ds)) : ∃ (v : Value) (vs : List Value), us = v :: vs ∧ Well P h v d ∧ WellAll P h vs ds := by
  cases x with
  | cons a b => exact ⟨_, _, rfl, a, b⟩
theorem line_of {n : Nat} (h : n ≤ 1048576) : n ≤ sizeLine := Nat.le_trans h (by decide)
section
variable {P : Params} {h : Heap}
mutual
theorem area_one : ∀ (d : WData) (v : Value), Well P h v d → plW d = true → d.weight ≤ 1048576 → ∃ A : List Addr, OkU A v ∧ ∀ a ∈ A, ArgOb h A a
  | .none, _, x, _, _ => by
    cases x
    exact ⟨[], trivial, fun a m => absurd m (by simp)⟩
  | .bool b, _, x, _, _ => by
    cases x
    exact ⟨[], trivial, fun a m => absurd m (by simp)⟩
  | .int i, _, x, _, _ => by
    cases x
    exact ⟨[], trivial, fun a m => absurd m (by simp)⟩
  | .str s, _, x, _, _ => by
    cases x
    exact ⟨[], trivial, fun a m => absurd m (by simp)⟩
  | .bytes b, _, x, _, _ => by
    cases x
    exact ⟨[], trivial, fun a m => absurd m (by simp)⟩
  | .list ds, _, x, p, z => by
    obtain ⟨a, vs, rfl, ho, hall⟩ := well_list x
    have z2 : WData.weightAll ds ≤ 1048576 := z
    obtain ⟨A, h1, h2⟩ := area_all ds _ hall p fun d hd => Nat.le_trans (weight_mem hd) z2
    have k : ∀ b ∈ A, b ∈ a :: A := fun b hb => List.mem_cons_of_mem _ hb
    refine ⟨a :: A, List.mem_cons_self .., fun b hb => ?_⟩
    rcases List.mem_cons.mp hb with e | m
    · rw [e]
      exact ⟨vs, line_of (by rw [wellAll_len hall]; exact Nat.le_trans (PySem.W.length_le_weightAllW ds) z2), fun u hu => (h1 u hu).mono k, .inl ho⟩
    · exact (h2 b m).mono k
  | .tuple ds, _, x, p, z => by
    obtain ⟨a, vs, rfl, ho, hall⟩ := well_tuple x
    have z2 : WData.weightAll ds ≤ 1048576 := z
    obtain ⟨A, h1, h2⟩ := area_all ds _ hall p fun d hd => Nat.le_trans (weight_mem hd) z2
    have k : ∀ b ∈ A, b ∈ a :: A := fun b hb => List.mem_cons_of_mem _ hb
    refine ⟨a :: A, List.mem_cons_self .., fun b hb => ?_⟩
    rcases List.mem_cons.mp hb with e | m
    · rw [e]
      exact ⟨vs, line_of (by rw [wellAll_len hall]; exact Nat.le_trans (PySem.W.length_le_weightAllW ds) z2), fun u hu => (h1 u hu).mono k, .inr ho⟩
    · exact (h2 b m).mono k
  | .float _, _, _, p, _ => Bool.noConfusion (show false = true from p)
  | .dict _, _, _, p, _ => Bool.noConfusion (show false = true from p)
  | .bytearray _, _, _, p, _ => Bool.noConfusion (show false = true from p)
  | .set _, _, _, p, _ => Bool.noConfusion (show false = true from p)
  | .frozenset _, _, _, p, _ => Bool.noConfusion (show false = true from p)
  | .obj _ _, _, _, p, _ => Bool.noConfusion (show false = true from p)
theorem area_all : ∀ (ds : List WData) (vs : List Value), WellAll P h vs ds → plWs ds = true → (∀ d ∈ ds, d.weight ≤ 1048576) → ∃ A : List Addr, (∀ u ∈ vs, OkU A u) ∧ ∀ a ∈ A, ArgOb h A a
  | [], _, x, _, _ => by
    cases x
    exact ⟨[], fun u m => absurd m (by simp), fun a m => absurd m (by simp)⟩
  | d :: ds, _, x, p, z => by
    obtain ⟨v, vs, rfl, x1, x2⟩ := well_cons x
    have q : plW d = true ∧ plWs ds = true := Bool.and_eq_true_iff.mp p
    obtain ⟨A, a1, a2⟩ := area_one d v x1 q.1 (z d (List.mem_cons_self ..))
    obtain ⟨B, b1, b2⟩ := area_all ds vs x2 q.2 fun e he => z e (List.mem_cons_of_mem _ he)
    have kA : ∀ b ∈ A, b ∈ A ++ B := fun b hb => List.mem_append.mpr (.inl hb)
    have kB : ∀ b ∈ B, b ∈ A ++ B := fun b hb => List.mem_append.mpr (.inr hb)
    refine ⟨A ++ B, fun u hu => ?_, fun b hb => ?_⟩
    · rcases List.mem_cons.mp hu with e | m
      · rw [e]
        exact a1.mono kA
      · exact (b1 u m).mono kB
    · rcases List.mem_append.mp hb with m | m
      · exact (a2 b m).mono kA
      · exact (b2 b m).mono kB
end
end
def hoOf (o : Obj) : Option HO := match o.data with
  | .seq vs _ => if (o.cls == Value.type "list") = true then some (.frz o (.lst (vs.toList.map toV))) else some (.frz o (.tup (vs.toList.map toV)))
  | _ => none
def argH (K : PySem.W.Frag) (h : Heap) (A : List Addr) : Hp := fun b => if b ∈ A then (if (K.lookup b).isNone = true then (h.get? b).bind hoOf else none) else none
def OnlyF (H : Hp) : Prop := ∀ b, H b = none ∨ ∃ o u, H b = some (.frz o u)
theorem hoOf_lst (vs : List Value) : hoOf { cls := .type "list", data := .seq vs.toArray } = some (.frz { cls := .type "list", data := .seq vs.toArray } (.lst (vs.map toV))) := by
  show (if (Value.type "list" == Value.type "list") = true then some (HO.frz { cls := .type "list", data := .seq vs.toArray } (.lst (vs.toArray.toList.map toV))) else some (HO.frz { cls := .type "list", data := .seq vs.toArray } (.tup (vs.toArray.toList.map toV)))) = _
  rw [if_pos (beq_self_eq_true _)]
theorem hoOf_tup (vs : List Value) : hoOf { cls := .type "tuple", data := .seq vs.toArray } = some (.frz { cls := .type "tuple", data := .seq vs.toArray } (.tup (vs.map toV))) := by
  show (if (Value.type "tuple" == Value.type "list") = true then some (HO.frz { cls := .type "tuple", data := .seq vs.toArray } (.lst (vs.toArray.toList.map toV))) else some (HO.frz { cls := .type "tuple", data := .seq vs.toArray } (.tup (vs.toArray.toList.map toV)))) = _
  rw [if_neg (by decide)]
section
variable {P : Program} {w : World} {K : PySem.W.Frag} {h : Heap} {A : List Addr}
theorem argH_at {b : Addr} {o : Obj} (hb : b ∈ A) (hk : K.lookup b = none) (e : h.get? b = some o) : argH K h A b = hoOf o := by
  unfold argH
  rw [if_pos hb, hk, if_pos (show (none : Option Obj).isNone = true from rfl), e] <;> rfl
theorem of_argH {b : Addr} {u : HO} (q : argH K h A b = some u) : b ∈ A ∧ K.lookup b = none := by
  unfold argH at q
  by_cases hb : b ∈ A
  · rw [if_pos hb] at q
    cases hk : K.lookup b with
    | none => exact ⟨hb, rfl⟩
    | some o =>
      rw [hk, if_neg (by simp)] at q
      cases q
  · rw [if_neg hb] at q
    cases q
theorem argH_is (ar : ∀ a ∈ A, ArgOb h A a) {b : Addr} {u : HO} (q : argH K h A b = some u) : K.lookup b = none ∧ ∃ vs : List Value, vs.length ≤ sizeLine ∧ (∀ u ∈ vs, OkU A u) ∧
    ((h.get? b = some { cls := .type "list", data := .seq vs.toArray } ∧ u = .frz { cls := .type "list", data := .seq vs.toArray } (.lst (vs.map toV))) ∨
     (h.get? b = some { cls := .type "tuple", data := .seq vs.toArray } ∧ u = .frz { cls := .type "tuple", data := .seq vs.toArray } (.tup (vs.map toV)))) := by
  obtain ⟨hb, hk⟩ := of_argH q
  obtain ⟨vs, h1, h2, h3⟩ := ar b hb
  refine ⟨hk, vs, h1, h2, ?_⟩
  rcases h3 with e | e
  · rw [argH_at hb hk e, hoOf_lst] at q
    exact .inl ⟨e, (Option.some.inj q).symm⟩
  · rw [argH_at hb hk e, hoOf_tup] at q
    exact .inr ⟨e, (Option.some.inj q).symm⟩
theorem argH_only (ar : ∀ a ∈ A, ArgOb h A a) : OnlyF (argH K h A) := fun b => by
  cases q : argH K h A b with
  | none => exact .inl rfl
  | some u =>
    obtain ⟨_, vs, _, _, ⟨_, e⟩ | ⟨_, e⟩⟩ := argH_is ar q
    · exact .inr ⟨_, _, by rw [e]⟩
    · exact .inr ⟨_, _, by rw [e]⟩
theorem argH_ok (ar : ∀ a ∈ A, ArgOb h A a) : HOk P w (argH K h A) h := fun b u q => by
  obtain ⟨_, vs, h1, h2, ⟨e, rfl⟩ | ⟨e, rfl⟩⟩ := argH_is ar q
  · exact ⟨e, by rw [List.length_map]; exact h1, vs, _, vals_toV h2, e⟩
  · exact ⟨e, by rw [List.length_map]; exact h1, vs, vals_toV h2, _, e, rfl, _, rfl⟩
theorem seq_inj {c c' : Value} {vs us : List Value} (e : (some { cls := c, data := .seq vs.toArray } : Option Obj) = some { cls := c', data := .seq us.toArray }) : c = c' ∧ vs = us := by
  have e1 := Option.some.inj e
  have e2 : c = c' := congrArg Obj.cls e1
  have e3 : Data.seq vs.toArray = Data.seq us.toArray := congrArg Obj.data e1
  injection e3 with e4
  refine ⟨e2, ?_⟩
  have e5 := congrArg Array.toList e4
  simpa using e5
theorem argL (KX : K.In h) (ar : ∀ a ∈ A, ArgOb h A a) {a : Addr} {vs : List Value} (ha : a ∈ A) (e : h.get? a = some { cls := .type "list", data := .seq vs.toArray }) : (∀ u ∈ vs, OkU A u) ∧ SqL K (argH K h A) a (vs.map toV) := by
  obtain ⟨us, h1, h2, h3⟩ := ar a ha
  have hu : us = vs := by
    rcases h3 with q | q
    · rw [e] at q
      exact (seq_inj q).2.symm
    · rw [e] at q
      exact absurd (Value.type.inj (seq_inj q).1) (by decide)
  subst hu
  refine ⟨h2, ?_⟩
  cases hk : K.lookup a with
  | none => exact .inl (.inr ⟨_, by rw [argH_at ha hk e, hoOf_lst]⟩)
  | some o =>
    have e2 := KX a o hk
    rw [e] at e2
    obtain rfl := Option.some.inj e2
    exact .inr ⟨_, us.toArray, _, hk, rfl, rfl, rfl, by rw [List.size_toArray]; exact h1, by simpa using vals_toV h2⟩
theorem argT (KX : K.In h) (ar : ∀ a ∈ A, ArgOb h A a) {a : Addr} {vs : List Value} (ha : a ∈ A) (e : h.get? a = some { cls := .type "tuple", data := .seq vs.toArray }) : (∀ u ∈ vs, OkU A u) ∧ SqT K (argH K h A) a (vs.map toV) := by
  obtain ⟨us, h1, h2, h3⟩ := ar a ha
  have hu : us = vs := by
    rcases h3 with q | q
    · rw [e] at q
      exact absurd (Value.type.inj (seq_inj q).1) (by decide)
    · rw [e] at q
      exact (seq_inj q).2.symm
  subst hu
  refine ⟨h2, ?_⟩
  cases hk : K.lookup a with
  | none => exact .inl (.inr ⟨_, by rw [argH_at ha hk e, hoOf_tup]⟩)
  | some o =>
    have e2 := KX a o hk
    rw [e] at e2
    obtain rfl := Option.some.inj e2
    exact .inr ⟨_, us.toArray, _, hk, rfl, rfl, by rw [List.size_toArray]; exact h1, by simpa using vals_toV h2⟩
mutual
theorem dw_one {Pm : Params} (KX : K.In h) (ar : ∀ a ∈ A, ArgOb h A a) : ∀ (d : WData) (v : Value), Well Pm h v d → plW d = true → OkU A v → Dw K (argH K h A) (toV v) d
  | .none, _, x, _, _ => by
    cases x
    exact .non
  | .bool b, _, x, _, _ => by
    cases x
    exact .bl b
  | .int i, _, x, _, _ => by
    cases x
    exact .int i
  | .str s, _, x, _, _ => by
    cases x
    exact .str s
  | .bytes b, _, x, _, _ => by
    cases x
    have z := Dw.byt (K := K) (H := argH K h A) b.toArray
    exact z
  | .list ds, _, x, p, hu => by
    obtain ⟨a, vs, rfl, ho, hall⟩ := well_list x
    obtain ⟨h2, hs⟩ := argL KX ar hu ho
    exact .lst hs (dw_all KX ar ds _ hall p h2)
  | .tuple ds, _, x, p, hu => by
    obtain ⟨a, vs, rfl, ho, hall⟩ := well_tuple x
    obtain ⟨h2, hs⟩ := argT KX ar hu ho
    exact .tup hs (dw_all KX ar ds _ hall p h2)
  | .float _, _, _, p, _ => Bool.noConfusion (show false = true from p)
  | .dict _, _, _, p, _ => Bool.noConfusion (show false = true from p)
  | .bytearray _, _, _, p, _ => Bool.noConfusion (show false = true from p)
  | .set _, _, _, p, _ => Bool.noConfusion (show false = true from p)
  | .frozenset _, _, _, p, _ => Bool.noConfusion (show false = true from p)
  | .obj _ _, _, _, p, _ => Bool.noConfusion (show false = true from p)
theorem dw_all {Pm : Params} (KX : K.In h) (ar : ∀ a ∈ A, ArgOb h A a) : ∀ (ds : List WData) (vs : List Value), WellAll Pm h vs ds → plWs ds = true → (∀ u ∈ vs, OkU A u) → DwAll K (argH K h A) (vs.map toV) ds
  | [], _, x, _, _ => by
    cases x
    exact .nil
  | d :: ds, _, x, p, hu => by
    obtain ⟨v, vs, rfl, x1, x2⟩ := well_cons x
    have q : plW d = true ∧ plWs ds = true := Bool.and_eq_true_iff.mp p
    exact .cons (dw_one KX ar d v x1 q.1 (hu _ (List.mem_cons_self ..))) (dw_all KX ar ds vs x2 q.2 fun u m => hu u (List.mem_cons_of_mem _ m))
end
end
theorem layable_weight {ds : List WData} (h : WData.layableAll ds = true) : ∀ d ∈ ds, d.weight ≤ 1048576 := fun d hd =>
  (PySem.W.layableW_iff.mp (List.all_eq_true.mp h d hd)).2.2
theorem encAll_len : ∀ (cs : List Codec) (a : Codec.denoteAll cs), (Codec.encAll cs a).length = cs.length
  | [], _ => rfl
  | c :: cs, a => by
    show (Codec.encAll cs a.2).length + 1 = cs.length + 1
    rw [encAll_len cs a.2]
end L2
-- rests on (row put in by the clerk, for the bench that shows a file only what it spells): KE.SpHead KE.OsShapes
end
namespace Ow
structure Ord (α : Type) where
  le : α → α → Prop
  rank : α → Nat
  top : Nat
  refl : ∀ a, le a a
  trans : ∀ a b c, le a b → le b c → le a c
  mono : ∀ a b, le a b → rank a ≤ rank b
  anti : ∀ a b, le a b → rank b ≤ rank a → a = b
  bound : ∀ a, rank a ≤ top
section
variable {α : Type} (O : Ord α)
def LeL : List α → List α → Prop
  | [], [] => True
  | a :: l, b :: m => O.le a b ∧ LeL l m
  | _, _ => False
def rk : List α → Nat
  | [] => 0
  | a :: l => O.rank a + rk l
variable {O}
theorem LeL.refl : ∀ l : List α, LeL O l l
  | [] => True.intro
  | a :: l => ⟨O.refl a, LeL.refl l⟩
theorem LeL.trans : ∀ {l m k : List α}, LeL O l m → LeL O m k → LeL O l k
  | [], [], [], _, _ => True.intro
  | _ :: _, _ :: _, _ :: _, h, h' => ⟨O.trans _ _ _ h.1 h'.1, LeL.trans h.2 h'.2⟩
  | [], [], _ :: _, _, h' => h'.elim
  | [], _ :: _, _, h, _ => h.elim
  | _ :: _, [], _, h, _ => h.elim
  | _ :: _, _ :: _, [], _, h' => h'.elim
theorem LeL.length : ∀ {l m : List α}, LeL O l m → l.length = m.length
  | [], [], _ => rfl
  | _ :: _, _ :: _, h => by rw [List.length_cons, List.length_cons, LeL.length h.2]
  | [], _ :: _, h => h.elim
  | _ :: _, [], h => h.elim
theorem LeL.rk_le : ∀ {l m : List α}, LeL O l m → rk O l ≤ rk O m
  | [], [], _ => Nat.le_refl _
  | _ :: _, _ :: _, h => Nat.add_le_add (O.mono _ _ h.1) (LeL.rk_le h.2)
  | [], _ :: _, h => h.elim
  | _ :: _, [], h => h.elim
theorem LeL.anti : ∀ {l m : List α}, LeL O l m → rk O m ≤ rk O l → l = m
  | [], [], _, _ => rfl
  | a :: l, b :: m, h, r => by
    have h1 := O.mono _ _ h.1
    have h2 := LeL.rk_le h.2
    have r : O.rank b + rk O m ≤ O.rank a + rk O l := r
    rw [O.anti a b h.1 (by omega), LeL.anti h.2 (by omega)]
  | [], _ :: _, h, _ => h.elim
  | _ :: _, [], h, _ => h.elim
theorem rk_bound : ∀ l : List α, rk O l ≤ O.top * l.length
  | [] => Nat.zero_le _
  | a :: l => by
    have h1 := O.bound a
    have h2 := rk_bound l
    show O.rank a + rk O l ≤ O.top * (l.length + 1)
    rw [Nat.mul_add, Nat.mul_one]
    omega
theorem LeL.get : ∀ {l m : List α} {i : Nat} {a b : α}, LeL O l m → l[i]? = some a → m[i]? = some b → O.le a b
  | a :: l, b :: m, 0, x, y, h, e, e' => by
    cases e; cases e'; exact h.1
  | a :: l, b :: m, i + 1, x, y, h, e, e' => LeL.get (i := i) h.2 (by simpa using e) (by simpa using e')
  | [], [], _, _, _, _, e, _ => by simp at e
  | [], _ :: _, _, _, _, h, _, _ => h.elim
  | _ :: _, [], _, _, _, h, _, _ => h.elim
theorem LeL.getD : ∀ {l m : List α} (i : Nat) (d : α), LeL O l m → O.le (l.getD i d) (m.getD i d)
  | a :: l, b :: m, 0, d, h => h.1
  | a :: l, b :: m, i + 1, d, h => by
    have := LeL.getD i d h.2
    simpa using this
  | [], [], i, d, _ => by simpa using O.refl d
  | [], _ :: _, _, _, h => h.elim
  | _ :: _, [], _, _, h => h.elim
theorem LeL.of_get : ∀ {l m : List α}, l.length = m.length → (∀ (i : Nat) (a b : α), l[i]? = some a → m[i]? = some b → O.le a b) → LeL O l m
  | [], [], _, _ => True.intro
  | a :: l, b :: m, hl, h => ⟨h 0 a b rfl rfl, LeL.of_get (by simpa using hl) fun i x y e e' => h (i + 1) x y (by simpa using e) (by simpa using e')⟩
  | [], _ :: _, hl, _ => by simp at hl
  | _ :: _, [], hl, _ => by simp at hl
theorem LeL.map {β : Type} {f g : β → α} : ∀ {l : List β}, (∀ x ∈ l, O.le (f x) (g x)) → LeL O (l.map f) (l.map g)
  | [], _ => True.intro
  | x :: l, h => ⟨h x List.mem_cons_self, LeL.map fun y hy => h y (List.mem_cons_of_mem _ hy)⟩
theorem often_succ {β : Type} (f : β → β) : ∀ (k : Nat) (x : β), Rd02.often f (k + 1) x = f (Rd02.often f k x)
  | 0, _ => rfl
  | k + 1, x => by
    show Rd02.often f (k + 1) (f x) = _
    rw [often_succ f k (f x)]
    rfl
theorem often_add {β : Type} (f : β → β) (j : Nat) : ∀ (k : Nat) (x : β), Rd02.often f (j + k) x = Rd02.often f j (Rd02.often f k x)
  | 0, _ => rfl
  | k + 1, x => by
    show Rd02.often f (j + k) (f x) = _
    rw [often_add f j k (f x)]
    rfl
variable {F : List α → List α} {b : List α}
theorem rounds_up (hm : ∀ l m, LeL O l m → LeL O (F l) (F m)) (hb : LeL O b (F b)) : ∀ k, LeL O (Rd02.often F k b) (F (Rd02.often F k b))
  | 0 => hb
  | k + 1 => by
    rw [often_succ]
    exact hm _ _ (rounds_up hm hb k)
theorem rounds_le (hm : ∀ l m, LeL O l m → LeL O (F l) (F m)) (hb : LeL O b (F b)) (k : Nat) : ∀ j, LeL O (Rd02.often F k b) (Rd02.often F (j + k) b)
  | 0 => by rw [Nat.zero_add]; exact LeL.refl _
  | j + 1 => by
    rw [show j + 1 + k = (j + k) + 1 by omega, often_succ]
    exact (rounds_le hm hb k j).trans (rounds_up hm hb _)
theorem rounds_stay {k : Nat} (h : F (Rd02.often F k b) = Rd02.often F k b) : ∀ j, Rd02.often F (j + k) b = Rd02.often F k b
  | 0 => by rw [Nat.zero_add]
  | j + 1 => by rw [show j + 1 + k = (j + k) + 1 by omega, often_succ, rounds_stay h j, h]
theorem rounds_rank (hm : ∀ l m, LeL O l m → LeL O (F l) (F m)) (hb : LeL O b (F b)) : ∀ k, F (Rd02.often F k b) = Rd02.often F k b ∨ k < rk O (F (Rd02.often F k b))
  | 0 => by
    by_cases h : F b = b
    · exact .inl h
    · refine .inr ?_
      show 0 < rk O (F b)
      have h1 := hb.rk_le
      by_cases h2 : rk O (F b) ≤ rk O b
      · exact absurd (hb.anti h2).symm h
      · omega
  | k + 1 => by
    rw [often_succ]
    rcases rounds_rank hm hb k with h | h
    · exact .inl (congrArg F h)
    · have h1 := hm _ _ (rounds_up hm hb k)
      by_cases h2 : rk O (F (F (Rd02.often F k b))) ≤ rk O (F (Rd02.often F k b))
      · exact .inl (h1.anti h2).symm
      · exact .inr (by omega)
theorem rounds_fix (hm : ∀ l m, LeL O l m → LeL O (F l) (F m)) (hb : LeL O b (F b)) {k : Nat} (hk : O.top * b.length ≤ k) : F (Rd02.often F k b) = Rd02.often F k b := by
  rcases rounds_rank hm hb k with h | h
  · exact h
  · have hl : ∀ j, (Rd02.often F j b).length = b.length := fun j => by
      have := (rounds_le hm hb 0 j).length
      rw [Nat.add_zero] at this
      exact this.symm
    have h1 := rk_bound (O := O) (F (Rd02.often F k b))
    have h2 : (F (Rd02.often F k b)).length = b.length := by rw [← often_succ F k b]; exact hl (k + 1)
    rw [h2] at h1
    omega
theorem rounds_least (hm : ∀ l m, LeL O l m → LeL O (F l) (F m)) {l : List α} (hb : LeL O b l) (hl : LeL O (F l) l) : ∀ k, LeL O (Rd02.often F k b) l
  | 0 => hb
  | k + 1 => by
    rw [often_succ]
    exact (hm _ _ (rounds_least hm hb hl k)).trans hl
end
def mayOrd : Ord Rd02.May where
  le a b := (a.none_ = true → b.none_ = true) ∧ (a.some_ = true → b.some_ = true) ∧ (a.fails = true → b.fails = true)
  rank a := a.none_.toNat + a.some_.toNat + a.fails.toNat
  top := 3
  refl a := ⟨id, id, id⟩
  trans a b c h h' := ⟨fun x => h'.1 (h.1 x), fun x => h'.2.1 (h.2.1 x), fun x => h'.2.2 (h.2.2 x)⟩
  mono := by
    rintro ⟨a1, a2, a3⟩ ⟨b1, b2, b3⟩ h
    revert h
    cases a1 <;> cases a2 <;> cases a3 <;> cases b1 <;> cases b2 <;> cases b3 <;> simp
  anti := by
    rintro ⟨a1, a2, a3⟩ ⟨b1, b2, b3⟩ h
    revert h
    cases a1 <;> cases a2 <;> cases a3 <;> cases b1 <;> cases b2 <;> cases b3 <;> simp
  bound := by
    rintro ⟨a1, a2, a3⟩
    cases a1 <;> cases a2 <;> cases a3 <;> simp
def boolOrd : Ord Bool where
  le a b := a = true → b = true
  rank a := a.toNat
  top := 1
  refl a := id
  trans a b c h h' := fun x => h' (h x)
  mono := by decide
  anti := by decide
  bound := by decide
theorem may_mono (G : Rd02.Gram) {l m : List Rd02.May} (h : LeL mayOrd l m) (x : Rd02.Node) : mayOrd.le (Rd02.mayBy G l x) (Rd02.mayBy G m x) := by
  have ha := h.getD x.a Rd02.never
  have hb := h.getD x.b Rd02.never
  have hd : ∀ d, mayOrd.le (l.getD d Rd02.never) (m.getD d Rd02.never) := fun d => h.getD d Rd02.never
  unfold Rd02.mayBy
  generalize l.getD x.a Rd02.never = p at ha
  generalize m.getD x.a Rd02.never = p' at ha
  generalize l.getD x.b Rd02.never = q at hb
  generalize m.getD x.b Rd02.never = q' at hb
  simp only []
  split
  · exact mayOrd.refl _
  split
  · exact mayOrd.refl _
  obtain ⟨p1, p2, p3⟩ := p
  obtain ⟨r1, r2, r3⟩ := p'
  obtain ⟨q1, q2, q3⟩ := q
  obtain ⟨s1, s2, s3⟩ := q'
  obtain ⟨a1, a2, a3⟩ := ha
  obtain ⟨b1, b2, b3⟩ := hb
  simp only at a1 a2 a3 b1 b2 b3
  split
  · refine ⟨?_, ?_, ?_⟩ <;> simp only [Rd02.May.takes, Bool.and_eq_true, Bool.or_eq_true]
    · exact fun ⟨x, y⟩ => ⟨a1 x, b1 y⟩
    · rintro (⟨x, y⟩ | ⟨x, y⟩)
      · exact .inl ⟨a2 x, y.imp b1 b2⟩
      · exact .inr ⟨x.imp a1 a2, b2 y⟩
    · rintro (x | ⟨x, y⟩)
      · exact .inl (a3 x)
      · exact .inr ⟨x.imp a1 a2, b3 y⟩
  split
  · refine ⟨?_, ?_, ?_⟩ <;> simp only [Bool.and_eq_true, Bool.or_eq_true]
    · exact Or.imp a1 fun ⟨x, y⟩ => ⟨a3 x, b1 y⟩
    · exact Or.imp a2 fun ⟨x, y⟩ => ⟨a3 x, b2 y⟩
    · exact fun ⟨x, y⟩ => ⟨a3 x, b3 y⟩
  split
  · exact ⟨a3, a2, id⟩
  split
  · refine ⟨a3, id, ?_⟩
    simp only [Rd02.May.takes, Bool.or_eq_true]
    exact Or.imp a1 a2
  split
  · split
    · exact hd _
    · exact mayOrd.refl _
  · exact mayOrd.refl _
theorem good_mono (G : Rd02.Gram) (k : List Rd02.May) {l m : List Bool} (h : LeL boolOrd l m) (x : Rd02.Node) : boolOrd.le (Rd02.goodBy G k l x) (Rd02.goodBy G k m x) := by
  have ha : l.getD x.a false = true → m.getD x.a false = true := h.getD x.a false
  have hb : l.getD x.b false = true → m.getD x.b false = true := h.getD x.b false
  have hd : ∀ d, l.getD d false = true → m.getD d false = true := fun d => h.getD d false
  unfold Rd02.goodBy
  show _ = true → _ = true
  generalize l.getD x.a false = p at ha
  generalize m.getD x.a false = p' at ha
  generalize l.getD x.b false = q at hb
  generalize m.getD x.b false = q' at hb
  generalize (k.getD x.a Rd02.never).none_ = z
  simp only []
  split
  · exact id
  split
  · simp only [Bool.and_eq_true, Bool.or_eq_true]
    exact fun ⟨u, v⟩ => ⟨ha u, v.imp hb id⟩
  split
  · simp only [Bool.and_eq_true]
    exact fun ⟨u, v⟩ => ⟨ha u, hb v⟩
  split
  · simp only [Bool.and_eq_true]
    exact fun ⟨u, v⟩ => ⟨ha u, v⟩
  split
  · exact ha
  split
  · split
    · exact hd _
    · exact id
  · exact id
def mayRound (G : Rd02.Gram) (l : List Rd02.May) : List Rd02.May := G.nodes.map (Rd02.mayBy G l)
def goodRound (G : Rd02.Gram) (l : List Bool) : List Bool := G.nodes.map (Rd02.goodBy G (Rd02.mays G) l)
theorem mayRound_mono (G : Rd02.Gram) (l m : List Rd02.May) (h : LeL mayOrd l m) : LeL mayOrd (mayRound G l) (mayRound G m) := LeL.map fun x _ => may_mono G h x
theorem goodRound_mono (G : Rd02.Gram) (l m : List Bool) (h : LeL boolOrd l m) : LeL boolOrd (goodRound G l) (goodRound G m) := LeL.map fun x _ => good_mono G _ h x
theorem never_le (G : Rd02.Gram) {l : List Rd02.May} (hl : l.length = G.nodes.length) : LeL mayOrd (G.nodes.map fun _ => Rd02.never) l := by
  refine LeL.of_get (by rw [List.length_map, hl]) fun i a b e _ => ?_
  rw [List.getElem?_map] at e
  cases q : G.nodes[i]? with
  | none => rw [q] at e; cases e
  | some x =>
    rw [q] at e
    cases e
    exact ⟨fun z => Bool.noConfusion z, fun z => Bool.noConfusion z, fun z => Bool.noConfusion z⟩
theorem false_le (G : Rd02.Gram) {l : List Bool} (hl : l.length = G.nodes.length) : LeL boolOrd (G.nodes.map fun _ => false) l := by
  refine LeL.of_get (by rw [List.length_map, hl]) fun i a b e _ => ?_
  rw [List.getElem?_map] at e
  cases q : G.nodes[i]? with
  | none => rw [q] at e; cases e
  | some x =>
    rw [q] at e
    cases e
    exact fun z => Bool.noConfusion z
theorem mays_def (G : Rd02.Gram) : Rd02.mays G = Rd02.often (mayRound G) (3 * G.nodes.length + 1) (G.nodes.map fun _ => Rd02.never) := rfl
theorem goods_def (G : Rd02.Gram) : Rd02.goods G = Rd02.often (goodRound G) (G.nodes.length + 1) (G.nodes.map fun _ => false) := rfl
theorem mays_fix (G : Rd02.Gram) : mayRound G (Rd02.mays G) = Rd02.mays G :=
  rounds_fix (O := mayOrd) (mayRound_mono G) (never_le G (by unfold mayRound; rw [List.length_map])) (by rw [List.length_map]; show 3 * _ ≤ _; omega)
theorem goods_fix (G : Rd02.Gram) : goodRound G (Rd02.goods G) = Rd02.goods G :=
  rounds_fix (O := boolOrd) (goodRound_mono G) (false_le G (by unfold goodRound; rw [List.length_map])) (by rw [List.length_map]; show 1 * _ ≤ _; omega)
theorem mays_length (G : Rd02.Gram) : (Rd02.mays G).length = G.nodes.length := by rw [← mays_fix]; unfold mayRound; rw [List.length_map]
theorem goods_length (G : Rd02.Gram) : (Rd02.goods G).length = G.nodes.length := by rw [← goods_fix]; unfold goodRound; rw [List.length_map]
theorem mays_least (G : Rd02.Gram) {l : List Rd02.May} (hl : l.length = G.nodes.length) (h : mayRound G l = l) : LeL mayOrd (Rd02.mays G) l :=
  rounds_least (O := mayOrd) (mayRound_mono G) (never_le G hl) (by rw [h]; exact LeL.refl l) _
theorem goods_least (G : Rd02.Gram) {l : List Bool} (hl : l.length = G.nodes.length) (h : goodRound G l = l) : LeL boolOrd (Rd02.goods G) l :=
  rounds_least (O := boolOrd) (goodRound_mono G) (false_le G hl) (by rw [h]; exact LeL.refl l) _
theorem mays_unique (G : Rd02.Gram) {l : List Rd02.May} (h : mayRound G l = l) (hl : LeL mayOrd l (Rd02.mays G)) : l = Rd02.mays G :=
  hl.anti (mays_least G (by rw [hl.length, mays_length]) h).rk_le
theorem goods_unique (G : Rd02.Gram) {l : List Bool} (h : goodRound G l = l) (hl : LeL boolOrd l (Rd02.goods G)) : l = Rd02.goods G :=
  hl.anti (goods_least G (by rw [hl.length, goods_length]) h).rk_le
end Ow
set_option linter.unusedVariables false
namespace Ow
open Rd02 (Gram Node Use May Result Column)
structure Wf (G : Gram) : Prop where
  kind : ∀ (e : Nat) (x : Node), G.nodes[e]? = some x → x.kind ≤ 7
  two : ∀ (e : Nat) (x : Node), G.nodes[e]? = some x → x.kind = 3 ∨ x.kind = 4 → x.a < G.nodes.length ∧ x.b < G.nodes.length
  one : ∀ (e : Nat) (x : Node), G.nodes[e]? = some x → x.kind = 5 ∨ x.kind = 6 → x.a < G.nodes.length
theorem node_at {G : Gram} {e : Nat} (h : e < G.nodes.length) : G.nodes[e]? = some (Rd02.node G e) := by
  unfold Rd02.node
  rw [List.getD_eq_getElem?_getD, List.getElem?_eq_getElem h]
  rfl
def goodsAt (G : Gram) (k : Nat) : List Bool := Rd02.often (goodRound G) k (G.nodes.map fun _ => false)
def isGood (G : Gram) (k e : Nat) : Prop := (goodsAt G k).getD e false = true
theorem goodsAt_up (G : Gram) (k j : Nat) : LeL boolOrd (goodsAt G k) (goodsAt G (j + k)) :=
  rounds_le (O := boolOrd) (goodRound_mono G) (false_le G (by unfold goodRound; rw [List.length_map])) k j
theorem isGood_up {G : Gram} {k m e : Nat} (h : isGood G k e) (hk : k ≤ m) : isGood G m e := by
  have := (goodsAt_up G k (m - k)).getD e false
  rw [show m - k + k = m by omega] at this
  exact this h
theorem goodsAt_all (G : Gram) : goodsAt G G.nodes.length = Rd02.goods G := by
  have h : goodRound G (goodsAt G G.nodes.length) = goodsAt G G.nodes.length :=
    rounds_fix (O := boolOrd) (goodRound_mono G) (false_le G (by unfold goodRound; rw [List.length_map])) (by rw [List.length_map]; show 1 * _ ≤ _; omega)
  have h2 := rounds_stay (F := goodRound G) (b := G.nodes.map fun _ => false) (k := G.nodes.length) h 1
  rw [Nat.add_comm] at h2
  exact h2.symm
theorem isGood_zero {G : Gram} {e : Nat} : ¬ isGood G 0 e := by
  unfold isGood goodsAt
  show ¬ (G.nodes.map fun _ => false).getD e false = true
  rw [List.getD_eq_getElem?_getD, List.getElem?_map]
  cases G.nodes[e]? <;> simp
theorem isGood_succ {G : Gram} {k e : Nat} (h : e < G.nodes.length) : isGood G (k + 1) e ↔ Rd02.goodBy G (Rd02.mays G) (goodsAt G k) (Rd02.node G e) = true := by
  unfold isGood
  have e1 : goodsAt G (k + 1) = goodRound G (goodsAt G k) := often_succ _ _ _
  rw [e1]
  unfold goodRound
  rw [List.getD_eq_getElem?_getD, List.getElem?_map, node_at h]
  exact Iff.rfl
theorem sound_all {G : Gram} (h : Rd02.sound G = true) {e : Nat} (he : e < G.nodes.length) : isGood G G.nodes.length e := by
  unfold isGood
  rw [goodsAt_all]
  have hl : e < (Rd02.goods G).length := by rw [goods_length]; exact he
  rw [List.getD_eq_getElem?_getD, List.getElem?_eq_getElem hl]
  exact List.all_eq_true.mp h _ (List.getElem_mem hl)
def FLe (c d : Column) : Prop := ∀ (e : Nat) (r : Result), c.getD e none = some r → d.getD e none = some r
theorem known_mono {i : Nat} {c d : Column} {later : List Column} (h : FLe c d) {e j : Nat} {r : Result} (hr : Rd02.known i c later e j = some r) : Rd02.known i d later e j = some r := by
  unfold Rd02.known at hr ⊢
  split at hr
  · rename_i hj
    rw [if_pos hj]
    exact h e r hr
  · rename_i hj
    rw [if_neg hj]
    exact hr
theorem resultBy_mono {G : Gram} {s : List Nat} {i : Nat} {later : List Column} {c d : Column} (h : FLe c d) {e : Nat} {r : Result} (hr : Rd02.resultBy G s i later c e = some r) : Rd02.resultBy G s i later d e = some r := by
  have km : ∀ {e j : Nat} {r : Result}, Rd02.known i c later e j = some r → Rd02.known i d later e j = some r := fun q => known_mono h q
  unfold Rd02.resultBy at hr ⊢
  simp only [] at hr ⊢
  generalize Rd02.node G e = x at hr ⊢
  split
  · rename_i h0
    rw [if_pos h0] at hr
    exact hr
  rename_i h0
  rw [if_neg h0] at hr
  split
  · rename_i h1
    rw [if_pos h1] at hr
    exact hr
  rename_i h1
  rw [if_neg h1] at hr
  split
  · rename_i h2
    rw [if_pos h2] at hr
    exact hr
  rename_i h2
  rw [if_neg h2] at hr
  split
  · rename_i h3
    rw [if_pos h3] at hr
    cases q : Rd02.known i c later x.a i with
    | none => rw [q] at hr; cases hr
    | some y =>
      rw [km q]
      rw [q] at hr
      obtain ⟨y1, t⟩ := y
      cases y1 with
      | none => exact hr
      | some j =>
        simp only at hr ⊢
        cases q2 : Rd02.known i c later x.b j with
        | none => rw [q2] at hr; cases hr
        | some z =>
          rw [km q2]
          rw [q2] at hr
          exact hr
  rename_i h3
  rw [if_neg h3] at hr
  split
  · rename_i h4
    rw [if_pos h4] at hr
    cases q : Rd02.known i c later x.a i with
    | none => rw [q] at hr; cases hr
    | some y =>
      rw [km q]
      rw [q] at hr
      obtain ⟨y1, t⟩ := y
      cases y1 with
      | none => exact km hr
      | some j => exact hr
  rename_i h4
  rw [if_neg h4] at hr
  split
  · rename_i h5
    rw [if_pos h5] at hr
    cases q : Rd02.known i c later x.a i with
    | none => rw [q] at hr; cases hr
    | some y =>
      rw [km q]
      rw [q] at hr
      obtain ⟨y1, t⟩ := y
      cases y1 with
      | none => exact hr
      | some j =>
        simp only at hr ⊢
        split at hr
        · cases hr
        · rename_i hj
          rw [if_neg hj]
          cases q2 : Rd02.known i c later e j with
          | none => rw [q2] at hr; cases hr
          | some z =>
            rw [km q2]
            rw [q2] at hr
            exact hr
  rename_i h5
  rw [if_neg h5] at hr
  split
  · rename_i h6
    rw [if_pos h6] at hr
    cases q : Rd02.known i c later x.a i with
    | none => rw [q] at hr; cases hr
    | some y =>
      rw [km q]
      rw [q] at hr
      exact hr
  rename_i h6
  rw [if_neg h6] at hr
  cases hb : Rd02.bodyOf G x.a with
  | none => rw [hb] at hr; cases hr
  | some dd =>
    rw [hb] at hr
    simp only at hr ⊢
    cases q : Rd02.known i c later dd i with
    | none => rw [q] at hr; cases hr
    | some y =>
      rw [km q]
      rw [q] at hr
      exact hr
def colStep (G : Gram) (s : List Nat) (i : Nat) (later : List Column) (now : Column) : Column := (List.range G.nodes.length).map (Rd02.resultBy G s i later now)
def colAt (G : Gram) (s : List Nat) (i : Nat) (later : List Column) (k : Nat) : Column := Rd02.often (colStep G s i later) k (G.nodes.map fun _ => none)
theorem colAt_succ {G : Gram} {s : List Nat} {i : Nat} {later : List Column} {k e : Nat} (he : e < G.nodes.length) : (colAt G s i later (k + 1)).getD e none = Rd02.resultBy G s i later (colAt G s i later k) e := by
  have e1 : colAt G s i later (k + 1) = colStep G s i later (colAt G s i later k) := often_succ _ _ _
  rw [e1]
  unfold colStep
  rw [List.getD_eq_getElem?_getD, List.getElem?_map, List.getElem?_range he]
  rfl
theorem colAt_out {G : Gram} {s : List Nat} {i : Nat} {later : List Column} {k e : Nat} (he : ¬ e < G.nodes.length) : (colAt G s i later k).getD e none = none := by
  have hl : (colAt G s i later k).length = G.nodes.length := by
    cases k with
    | zero => show (G.nodes.map fun _ => none).length = _; rw [List.length_map]
    | succ k =>
      have e1 : colAt G s i later (k + 1) = colStep G s i later (colAt G s i later k) := often_succ _ _ _
      rw [e1]
      unfold colStep
      rw [List.length_map, List.length_range]
  rw [List.getD_eq_getElem?_getD, List.getElem?_eq_none_iff.mpr (by omega)]
  rfl
theorem colAt_zero {G : Gram} {s : List Nat} {i : Nat} {later : List Column} {e : Nat} : (colAt G s i later 0).getD e none = none := by
  show (G.nodes.map fun _ => none).getD e none = none
  rw [List.getD_eq_getElem?_getD, List.getElem?_map]
  cases G.nodes[e]? <;> rfl
theorem colAt_up {G : Gram} {s : List Nat} {i : Nat} {later : List Column} : ∀ k, FLe (colAt G s i later k) (colAt G s i later (k + 1))
  | 0 => fun e r h => by rw [colAt_zero] at h; cases h
  | k + 1 => fun e r h => by
    by_cases he : e < G.nodes.length
    · rw [colAt_succ he] at h ⊢
      exact resultBy_mono (colAt_up k) h
    · rw [colAt_out he] at h
      cases h
def Says (G : Gram) (n i e : Nat) (r : Result) : Prop :=
  (∀ j, r.1 = some j → i ≤ j ∧ j ≤ n ∧ (j = i → ((Rd02.mays G).getD e Rd02.never).none_ = true) ∧ (i < j → ((Rd02.mays G).getD e Rd02.never).some_ = true)) ∧
  (r.1 = none → ((Rd02.mays G).getD e Rd02.never).fails = true ∧ r.2 = [])
structure LaterOk (G : Gram) (n i : Nat) (later : List Column) : Prop where
  all : ∀ e j, e < G.nodes.length → i < j → j ≤ n → ∃ r, (later.getD (j - i - 1) []).getD e none = some r
  says : ∀ e j r, i < j → j ≤ n → (later.getD (j - i - 1) []).getD e none = some r → Says G n j e r
theorem mays_at {G : Gram} {e : Nat} (he : e < G.nodes.length) : (Rd02.mays G).getD e Rd02.never = Rd02.mayBy G (Rd02.mays G) (Rd02.node G e) := by
  rw (occs := .pos [1]) [← mays_fix]
  unfold mayRound
  rw [List.getD_eq_getElem?_getD, List.getElem?_map, node_at he]
  rfl
theorem takes_of {G : Gram} {n i e : Nat} {r : Result} {j : Nat} (h : Says G n i e r) (hj : r.1 = some j) : ((Rd02.mays G).getD e Rd02.never).takes = true := by
  obtain ⟨h1, h2, h3, h4⟩ := h.1 j hj
  unfold Rd02.May.takes
  by_cases q : j = i
  · rw [h3 q]
    rfl
  · rw [h4 (by omega), Bool.or_true]
theorem resultBy_says {G : Gram} {s : List Nat} {i : Nat} {later : List Column} {c : Column} (W : Wf G) (hi : i ≤ s.length) (L : LaterOk G s.length i later) (hc : ∀ e r, c.getD e none = some r → Says G s.length i e r)
    {e : Nat} (he : e < G.nodes.length) {r : Result} (hr : Rd02.resultBy G s i later c e = some r) : Says G s.length i e r := by
  have hk : ∀ {e j r}, i ≤ j → j ≤ s.length → Rd02.known i c later e j = some r → Says G s.length j e r := fun {e j r} h1 h2 q => by
    unfold Rd02.known at q
    split at q
    · rename_i hj
      subst hj
      exact hc e r q
    · exact L.says e j r (by omega) h2 q
  have hx := W.kind e _ (node_at he)
  have hm := mays_at he
  unfold Says
  rw [hm]
  unfold Rd02.mayBy
  unfold Rd02.resultBy at hr
  simp only [] at hr ⊢
  generalize hxx : Rd02.node G e = x at hr hx ⊢
  split
  · rename_i h0
    rw [if_pos h0] at hr
    cases hr
    exact ⟨fun j q => by cases q; exact ⟨Nat.le_refl _, hi, fun _ => rfl, fun z => absurd z (Nat.lt_irrefl _)⟩, fun q => by cases q⟩
  rename_i h0
  rw [if_neg h0] at hr
  split
  · rename_i h12
    have key : ∀ (b : Prop) [Decidable b], (b → i < s.length) → some ((if b then some (i + 1) else none), ([] : List Use)) = some r →
        (∀ j, r.1 = some j → i ≤ j ∧ j ≤ s.length ∧ (j = i → false = true) ∧ (i < j → true = true)) ∧ (r.1 = none → true = true ∧ r.2 = []) := fun b _ hb q => by
      cases q
      refine ⟨fun j q => ?_, fun _ => ⟨rfl, rfl⟩⟩
      by_cases hbb : b
      · rw [if_pos hbb] at q
        cases q
        exact ⟨by omega, by have := hb hbb; omega, fun z => absurd z (by omega), fun _ => rfl⟩
      · rw [if_neg hbb] at q
        cases q
    by_cases h1 : x.kind = 1
    · rw [if_pos h1] at hr
      exact key _ id hr
    · rw [if_neg h1, if_pos (h12.resolve_left h1)] at hr
      refine key _ (fun q => ?_) hr
      cases z : s[i]? with
      | none => rw [z] at q; cases q
      | some c => exact (List.getElem?_eq_some_iff.mp z).1
  rename_i h12
  rw [if_neg (fun q => h12 (.inl q)), if_neg (fun q => h12 (.inr q))] at hr
  split
  · rename_i h3
    rw [if_pos h3] at hr
    cases q : Rd02.known i c later x.a i with
    | none => rw [q] at hr; cases hr
    | some y =>
      rw [q] at hr
      have S1 := hk (Nat.le_refl _) hi q
      obtain ⟨y1, t⟩ := y
      cases y1 with
      | none =>
        cases hr
        refine ⟨fun j z => (by cases z), fun _ => ⟨?_, rfl⟩⟩
        simp only [Bool.or_eq_true]
        exact .inl (S1.2 rfl).1
      | some j =>
        simp only at hr
        obtain ⟨b1, b2, b3, b4⟩ := S1.1 j rfl
        have tk := takes_of S1 rfl
        cases q2 : Rd02.known i c later x.b j with
        | none => rw [q2] at hr; cases hr
        | some z =>
          rw [q2] at hr
          have S2 := hk b1 b2 q2
          obtain ⟨z1, u⟩ := z
          cases z1 with
          | none =>
            cases hr
            refine ⟨fun j z => (by cases z), fun _ => ⟨?_, rfl⟩⟩
            simp only [Bool.or_eq_true, Bool.and_eq_true]
            exact .inr ⟨tk, (S2.2 rfl).1⟩
          | some k =>
            cases hr
            have tk2 := takes_of S2 rfl
            obtain ⟨d1, d2, d3, d4⟩ := S2.1 k rfl
            refine ⟨fun l z => ?_, fun z => by cases z⟩
            cases z
            refine ⟨by omega, d2, fun z => ?_, fun z => ?_⟩
            · simp only [Bool.and_eq_true]
              exact ⟨b3 (by omega), d3 (by omega)⟩
            · simp only [Bool.or_eq_true, Bool.and_eq_true]
              by_cases w : j = i
              · exact .inr ⟨tk, d4 (by omega)⟩
              · exact .inl ⟨b4 (by omega), tk2⟩
  rename_i h3
  rw [if_neg h3] at hr
  split
  · rename_i h4
    rw [if_pos h4] at hr
    cases q : Rd02.known i c later x.a i with
    | none => rw [q] at hr; cases hr
    | some y =>
      rw [q] at hr
      have S1 := hk (Nat.le_refl _) hi q
      obtain ⟨y1, t⟩ := y
      cases y1 with
      | none =>
        have f1 := (S1.2 rfl).1
        have S2 := hk (Nat.le_refl _) hi (show Rd02.known i c later x.b i = some r from hr)
        refine ⟨fun j z => ?_, fun z => ?_⟩
        · obtain ⟨d1, d2, d3, d4⟩ := S2.1 j z
          simp only [Bool.or_eq_true, Bool.and_eq_true]
          exact ⟨d1, d2, fun w => .inr ⟨f1, d3 w⟩, fun w => .inr ⟨f1, d4 w⟩⟩
        · simp only [Bool.and_eq_true]
          exact ⟨⟨f1, (S2.2 z).1⟩, (S2.2 z).2⟩
      | some j =>
        cases hr
        obtain ⟨b1, b2, b3, b4⟩ := S1.1 j rfl
        refine ⟨fun l z => ?_, fun z => by cases z⟩
        cases z
        simp only [Bool.or_eq_true, Bool.and_eq_true]
        exact ⟨b1, b2, fun w => .inl (b3 w), fun w => .inl (b4 w)⟩
  rename_i h4
  rw [if_neg h4] at hr
  split
  · rename_i h5
    rw [if_pos h5] at hr
    cases q : Rd02.known i c later x.a i with
    | none => rw [q] at hr; cases hr
    | some y =>
      rw [q] at hr
      have S1 := hk (Nat.le_refl _) hi q
      obtain ⟨y1, t⟩ := y
      cases y1 with
      | none =>
        cases hr
        refine ⟨fun l z => ?_, fun z => by cases z⟩
        cases z
        exact ⟨Nat.le_refl _, hi, fun _ => (S1.2 rfl).1, fun z => absurd z (Nat.lt_irrefl _)⟩
      | some j =>
        simp only at hr
        obtain ⟨b1, b2, b3, b4⟩ := S1.1 j rfl
        split at hr
        · cases hr
        · rename_i hj
          cases q2 : Rd02.known i c later e j with
          | none => rw [q2] at hr; cases hr
          | some z =>
            rw [q2] at hr
            obtain ⟨z1, u⟩ := z
            cases hr
            have S2 := hk b1 b2 q2
            refine ⟨fun l z => ?_, fun z => ?_⟩
            · obtain ⟨d1, d2, d3, d4⟩ := S2.1 l z
              exact ⟨by omega, d2, fun w => absurd w (by omega), fun _ => b4 (by omega)⟩
            · have S3 := S2.2 z
              rw [hm, hxx] at S3
              have h5' : (Rd02.mayBy G (Rd02.mays G) x).fails = false := by
                unfold Rd02.mayBy
                simp only []
                rw [if_neg h0, if_neg h12, if_neg h3, if_neg h4, if_pos h5]
              rw [h5'] at S3
              exact absurd S3.1 (by decide)
  rename_i h5
  rw [if_neg h5] at hr
  split
  · rename_i h6
    rw [if_pos h6] at hr
    cases q : Rd02.known i c later x.a i with
    | none => rw [q] at hr; cases hr
    | some y =>
      rw [q] at hr
      have S1 := hk (Nat.le_refl _) hi q
      obtain ⟨y1, t⟩ := y
      cases y1 with
      | none =>
        cases hr
        refine ⟨fun l z => ?_, fun z => by cases z⟩
        cases z
        exact ⟨Nat.le_refl _, hi, fun _ => (S1.2 rfl).1, fun z => absurd z (Nat.lt_irrefl _)⟩
      | some j =>
        cases hr
        exact ⟨fun l z => (by cases z), fun _ => ⟨takes_of S1 rfl, rfl⟩⟩
  rename_i h6
  rw [if_neg h6] at hr
  split
  · cases hb : Rd02.bodyOf G x.a with
    | none => rw [hb] at hr; cases hr
    | some dd =>
      rw [hb] at hr
      simp only at hr ⊢
      cases q : Rd02.known i c later dd i with
      | none => rw [q] at hr; cases hr
      | some y =>
        rw [q] at hr
        have S1 := hk (Nat.le_refl _) hi q
        obtain ⟨y1, t⟩ := y
        cases y1 with
        | none =>
          cases hr
          exact ⟨fun l z => (by cases z), fun _ => S1.2 rfl⟩
        | some j =>
          cases hr
          exact ⟨fun l z => S1.1 l z, fun z => by cases z⟩
  · rename_i h7
    exact absurd hx (by omega)
theorem colAt_says {G : Gram} {s : List Nat} {i : Nat} {later : List Column} (W : Wf G) (hi : i ≤ s.length) (L : LaterOk G s.length i later) : ∀ (k : Nat) (e : Nat) (r : Result), (colAt G s i later k).getD e none = some r → Says G s.length i e r
  | 0, e, r, h => by rw [colAt_zero] at h; cases h
  | k + 1, e, r, h => by
    by_cases he : e < G.nodes.length
    · rw [colAt_succ he] at h
      exact resultBy_says W hi L (colAt_says W hi L k) he h
    · rw [colAt_out he] at h
      cases h
theorem known_now {i : Nat} {c : Column} {later : List Column} {e : Nat} : Rd02.known i c later e i = c.getD e none := by
  unfold Rd02.known
  rw [if_pos rfl]
theorem known_later {n i : Nat} {G : Gram} {c : Column} {later : List Column} (L : LaterOk G n i later) {e j : Nat} (he : e < G.nodes.length) (h1 : i < j) (h2 : j ≤ n) : ∃ r, Rd02.known i c later e j = some r := by
  unfold Rd02.known
  rw [if_neg (by omega)]
  exact L.all e j he h1 h2
theorem body_lt {G : Gram} {r d : Nat} (h : Rd02.bodyOf G r = some d) : d < G.nodes.length := by
  unfold Rd02.bodyOf at h
  cases q : G.rules[r]? with
  | none => rw [q] at h; cases h
  | some e =>
    rw [q] at h
    have h : (if e < G.nodes.length then some e else none) = some d := h
    split at h
    · cases h; assumption
    · cases h
theorem colAt_all {G : Gram} {s : List Nat} {i : Nat} {later : List Column} (W : Wf G) (hi : i ≤ s.length) (L : LaterOk G s.length i later) : ∀ (k : Nat) (e : Nat), e < G.nodes.length → isGood G k e → ∃ r, (colAt G s i later k).getD e none = some r
  | 0, e, he, h => absurd h isGood_zero
  | k + 1, e, he, h => by
    rw [colAt_succ he]
    rw [isGood_succ he] at h
    have hx := W.kind e _ (node_at he)
    have two := W.two e _ (node_at he)
    have one := W.one e _ (node_at he)
    have ih : ∀ d, d < G.nodes.length → (goodsAt G k).getD d false = true → ∃ r, Rd02.known i (colAt G s i later k) later d i = some r := fun d hd g => by
      rw [known_now]
      exact colAt_all W hi L k d hd g
    have sy : ∀ d r, Rd02.known i (colAt G s i later k) later d i = some r → Says G s.length i d r := fun d r q => by
      rw [known_now] at q
      exact colAt_says W hi L k d r q
    unfold Rd02.goodBy at h
    unfold Rd02.resultBy
    simp only [] at h ⊢
    generalize Rd02.node G e = x at h hx two one ⊢
    split
    · exact ⟨_, rfl⟩
    split
    · exact ⟨_, rfl⟩
    split
    · exact ⟨_, rfl⟩
    rename_i h0 h1 h2
    rw [if_neg (by omega)] at h
    split
    · rename_i h3
      obtain ⟨la, lb⟩ := two (.inl h3)
      rw [if_pos h3, Bool.and_eq_true, Bool.or_eq_true] at h
      obtain ⟨⟨y1, t⟩, q⟩ := ih _ la h.1
      rw [q]
      have S := sy _ _ q
      cases y1 with
      | none => exact ⟨_, rfl⟩
      | some j =>
        simp only
        obtain ⟨b1, b2, b3, b4⟩ := S.1 j rfl
        have : ∃ r, Rd02.known i (colAt G s i later k) later x.b j = some r := by
          by_cases w : j = i
          · rcases h.2 with g | g
            · rw [w]
              exact ih _ lb g
            · rw [b3 w] at g
              cases g
          · exact known_later L lb (by omega) b2
        obtain ⟨⟨z1, u⟩, q2⟩ := this
        rw [q2]
        cases z1 with
        | none => exact ⟨_, rfl⟩
        | some k => exact ⟨_, rfl⟩
    rename_i h3
    rw [if_neg h3] at h
    split
    · rename_i h4
      obtain ⟨la, lb⟩ := two (.inr h4)
      rw [if_pos h4, Bool.and_eq_true] at h
      obtain ⟨⟨y1, t⟩, q⟩ := ih _ la h.1
      rw [q]
      cases y1 with
      | none => exact ih _ lb h.2
      | some j => exact ⟨_, rfl⟩
    rename_i h4
    rw [if_neg h4] at h
    split
    · rename_i h5
      have la := one (.inl h5)
      rw [if_pos h5, Bool.and_eq_true] at h
      obtain ⟨⟨y1, t⟩, q⟩ := ih _ la h.1
      rw [q]
      have S := sy _ _ q
      cases y1 with
      | none => exact ⟨_, rfl⟩
      | some j =>
        simp only
        obtain ⟨b1, b2, b3, b4⟩ := S.1 j rfl
        have w : ¬ j = i := fun w => by
          rw [b3 w] at h
          exact absurd h.2 (by decide)
        rw [if_neg w]
        obtain ⟨⟨z1, u⟩, q2⟩ := known_later (c := colAt G s i later k) L he (show i < j by omega) b2
        rw [q2]
        exact ⟨_, rfl⟩
    rename_i h5
    rw [if_neg h5] at h
    split
    · rename_i h6
      have la := one (.inr h6)
      rw [if_pos h6] at h
      obtain ⟨⟨y1, t⟩, q⟩ := ih _ la h
      rw [q]
      cases y1 with
      | none => exact ⟨_, rfl⟩
      | some j => exact ⟨_, rfl⟩
    rename_i h6
    rw [if_neg h6, if_pos (by omega)] at h
    cases hb : Rd02.bodyOf G x.a with
    | none => rw [hb] at h; cases h
    | some dd =>
      rw [hb] at h
      simp only at h ⊢
      obtain ⟨⟨y1, t⟩, q⟩ := ih _ (body_lt hb) h
      rw [q]
      cases y1 with
      | none => exact ⟨_, rfl⟩
      | some j => exact ⟨_, rfl⟩
theorem column_def (G : Gram) (s : List Nat) (i : Nat) (later : List Column) : Rd02.column G s i later = colAt G s i later (G.nodes.length + 1) := rfl
structure ColOk (G : Gram) (s : List Nat) (i : Nat) (later : List Column) (c : Column) : Prop where
  all : ∀ e, e < G.nodes.length → ∃ r, c.getD e none = some r
  says : ∀ e r, c.getD e none = some r → Says G s.length i e r
  fix : ∀ e, e < G.nodes.length → c.getD e none = Rd02.resultBy G s i later c e
theorem column_ok {G : Gram} {s : List Nat} {i : Nat} {later : List Column} (W : Wf G) (S : Rd02.sound G = true) (hi : i ≤ s.length) (L : LaterOk G s.length i later) : ColOk G s i later (Rd02.column G s i later) := by
  rw [column_def]
  have al : ∀ e, e < G.nodes.length → ∃ r, (colAt G s i later G.nodes.length).getD e none = some r := fun e he => colAt_all W hi L _ e he (sound_all S he)
  refine ⟨fun e he => ?_, colAt_says W hi L _, fun e he => ?_⟩
  · obtain ⟨r, q⟩ := al e he
    exact ⟨r, colAt_up _ e r q⟩
  · obtain ⟨r, q⟩ := al e he
    have q1 := colAt_up _ e r q
    rw [q1]
    rw [colAt_succ he] at q1
    exact (resultBy_mono (colAt_up _) q1).symm
theorem columns_length (G : Gram) (s : List Nat) : ∀ k, (Rd02.columns G s k).length = k + 1
  | 0 => rfl
  | k + 1 => by
    show (Rd02.columns G s k).length + 1 = _
    rw [columns_length G s k]
theorem getD_drop {α : Type} (l : List α) (m j : Nat) (d : α) : (l.drop m).getD j d = l.getD (m + j) d := by
  rw [List.getD_eq_getElem?_getD, List.getD_eq_getElem?_getD, List.getElem?_drop]
theorem columns_ok {G : Gram} {s : List Nat} (W : Wf G) (S : Rd02.sound G = true) : ∀ k, k ≤ s.length → ∀ m, m ≤ k → ColOk G s (s.length - k + m) ((Rd02.columns G s k).drop (m + 1)) ((Rd02.columns G s k).getD m [])
  | 0, _, m, hm => by
    obtain rfl : m = 0 := by omega
    show ColOk G s (s.length - 0 + 0) [] (Rd02.column G s s.length [])
    rw [show s.length - 0 + 0 = s.length by omega]
    exact column_ok W S (Nat.le_refl _) ⟨fun e j _ h1 h2 => absurd h1 (by omega), fun e j r h1 h2 => absurd h1 (by omega)⟩
  | k + 1, hk, 0, _ => by
    show ColOk G s (s.length - (k + 1) + 0) (Rd02.columns G s k) (Rd02.column G s (s.length - (k + 1)) (Rd02.columns G s k))
    rw [Nat.add_zero]
    have ih := fun m hm => columns_ok (G := G) (s := s) W S k (by omega) m hm
    have pl : ∀ j, s.length - (k + 1) < j → j ≤ s.length → j - (s.length - (k + 1)) - 1 ≤ k ∧ s.length - k + (j - (s.length - (k + 1)) - 1) = j := fun j h1 h2 => by omega
    refine column_ok W S (by omega) ⟨fun e j he h1 h2 => ?_, fun e j r h1 h2 q => ?_⟩
    · exact (ih _ (pl j h1 h2).1).all e he
    · have := (ih _ (pl j h1 h2).1).says e r q
      rw [(pl j h1 h2).2] at this
      exact this
  | k + 1, hk, m + 1, hm => by
    have ih := columns_ok (G := G) (s := s) W S k (by omega) m (by omega)
    show ColOk G s (s.length - (k + 1) + (m + 1)) ((Rd02.columns G s k).drop (m + 1)) ((Rd02.columns G s k).getD m [])
    rw [show s.length - (k + 1) + (m + 1) = s.length - k + m by omega]
    exact ih
theorem table_ok {G : Gram} {s : List Nat} (W : Wf G) (S : Rd02.sound G = true) {i : Nat} (hi : i ≤ s.length) : ColOk G s i ((Rd02.table G s).drop (i + 1)) ((Rd02.table G s).getD i []) := by
  have := columns_ok (s := s) W S s.length (Nat.le_refl _) i hi
  rw [show s.length - s.length + i = i by omega] at this
  exact this
def R (G : Gram) (s : List Nat) (e i : Nat) : Result := (Rd02.resultOf (Rd02.table G s) e i).getD (none, [])
theorem known_table {G : Gram} {s : List Nat} {e i j : Nat} (h : i ≤ j) : Rd02.known i ((Rd02.table G s).getD i []) ((Rd02.table G s).drop (i + 1)) e j = Rd02.resultOf (Rd02.table G s) e j := by
  unfold Rd02.known Rd02.resultOf
  by_cases q : j = i
  · rw [if_pos q, q]
  · rw [if_neg q, getD_drop, show i + 1 + (j - i - 1) = j by omega]
theorem R_some {G : Gram} {s : List Nat} (W : Wf G) (S : Rd02.sound G = true) {e i : Nat} (he : e < G.nodes.length) (hi : i ≤ s.length) : Rd02.resultOf (Rd02.table G s) e i = some (R G s e i) := by
  obtain ⟨r, q⟩ := (table_ok W S hi).all e he
  have q : Rd02.resultOf (Rd02.table G s) e i = some r := q
  unfold R
  rw [q]
  rfl
theorem R_says {G : Gram} {s : List Nat} (W : Wf G) (S : Rd02.sound G = true) {e i : Nat} (he : e < G.nodes.length) (hi : i ≤ s.length) : Says G s.length i e (R G s e i) :=
  (table_ok W S hi).says e _ (R_some W S he hi)
def resF (G : Gram) (s : List Nat) (r : Nat → Nat → Result) (e i : Nat) : Result :=
  let x := Rd02.node G e
  if x.kind = 0 then (some i, [])
  else if x.kind = 1 then (if i < s.length then some (i + 1) else none, [])
  else if x.kind = 2 then (if (s[i]?).any (fun c => decide (x.a ≤ c) && decide (c ≤ x.b)) = true then some (i + 1) else none, [])
  else if x.kind = 3 then (match r x.a i with
    | (some j, t) => (match r x.b j with
      | (some k, u) => (some k, t ++ u)
      | (none, _) => (none, []))
    | (none, _) => (none, []))
  else if x.kind = 4 then (match r x.a i with
    | (none, _) => r x.b i
    | y => y)
  else if x.kind = 5 then (match r x.a i with
    | (some j, t) => ((r e j).1, t ++ (r e j).2)
    | (none, _) => (some i, []))
  else if x.kind = 6 then (match r x.a i with
    | (some _, _) => (none, [])
    | (none, _) => (some i, []))
  else (match Rd02.bodyOf G x.a with
    | some d => (match r d i with
      | (some j, t) => (some j, (if i < j then [(x.a, i, j)] else []) ++ t)
      | y => y)
    | none => (none, []))
theorem R_eq {G : Gram} {s : List Nat} (W : Wf G) (S : Rd02.sound G = true) {e i : Nat} (he : e < G.nodes.length) (hi : i ≤ s.length) : R G s e i = resF G s (R G s) e i := by
  have q := (table_ok W S hi).fix e he
  have hx := W.kind e _ (node_at he)
  have two := W.two e _ (node_at he)
  have one := W.one e _ (node_at he)
  have q : Rd02.resultOf (Rd02.table G s) e i = _ := q
  rw [R_some W S he hi] at q
  have kn : ∀ {d j}, d < G.nodes.length → i ≤ j → j ≤ s.length → Rd02.known i ((Rd02.table G s).getD i []) ((Rd02.table G s).drop (i + 1)) d j = some (R G s d j) := fun {d j} hd h1 h2 => by rw [known_table h1, R_some W S hd h2]
  have bd : ∀ {d j t}, d < G.nodes.length → R G s d i = (some j, t) → i ≤ j ∧ j ≤ s.length := fun {d j t} hd z => by
    have := (R_says W S hd hi).1 j (by rw [z])
    exact ⟨this.1, this.2.1⟩
  unfold Rd02.resultBy at q
  unfold resF
  simp only [] at q ⊢
  generalize Rd02.node G e = x at q hx two one ⊢
  split
  · rename_i h
    rw [if_pos h] at q
    exact Option.some.inj q
  rename_i h0
  rw [if_neg h0] at q
  split
  · rename_i h
    rw [if_pos h] at q
    exact Option.some.inj q
  rename_i h1
  rw [if_neg h1] at q
  split
  · rename_i h
    rw [if_pos h] at q
    exact Option.some.inj q
  rename_i h2
  rw [if_neg h2] at q
  split
  · rename_i h
    obtain ⟨la, lb⟩ := two (.inl h)
    rw [if_pos h, kn la (Nat.le_refl _) hi] at q
    cases z : R G s x.a i with
    | mk y t =>
      rw [z] at q
      cases y with
      | none => exact Option.some.inj q
      | some j =>
        simp only at q ⊢
        obtain ⟨b1, b2⟩ := bd la z
        rw [kn lb b1 b2] at q
        cases z2 : R G s x.b j with
        | mk y2 u =>
          rw [z2] at q
          cases y2 with
          | none => exact Option.some.inj q
          | some k => exact Option.some.inj q
  rename_i h3
  rw [if_neg h3] at q
  split
  · rename_i h
    obtain ⟨la, lb⟩ := two (.inr h)
    rw [if_pos h, kn la (Nat.le_refl _) hi] at q
    cases z : R G s x.a i with
    | mk y t =>
      rw [z] at q
      cases y with
      | none =>
        simp only at q ⊢
        rw [kn lb (Nat.le_refl _) hi] at q
        exact Option.some.inj q
      | some j => exact Option.some.inj q
  rename_i h4
  rw [if_neg h4] at q
  split
  · rename_i h
    have la := one (.inl h)
    rw [if_pos h, kn la (Nat.le_refl _) hi] at q
    cases z : R G s x.a i with
    | mk y t =>
      rw [z] at q
      cases y with
      | none => exact Option.some.inj q
      | some j =>
        simp only at q ⊢
        obtain ⟨b1, b2⟩ := bd la z
        split at q
        · cases q
        rw [kn he b1 b2] at q
        exact Option.some.inj q
  rename_i h5
  rw [if_neg h5] at q
  split
  · rename_i h
    have la := one (.inr h)
    rw [if_pos h, kn la (Nat.le_refl _) hi] at q
    cases z : R G s x.a i with
    | mk y t =>
      rw [z] at q
      cases y with
      | none => exact Option.some.inj q
      | some j => exact Option.some.inj q
  rename_i h6
  rw [if_neg h6] at q
  cases hb : Rd02.bodyOf G x.a with
  | none => rw [hb] at q; cases q
  | some dd =>
    rw [hb] at q
    simp only at q ⊢
    rw [kn (body_lt hb) (Nat.le_refl _) hi] at q
    cases z : R G s dd i with
    | mk y t =>
      rw [z] at q
      cases y with
      | none => exact Option.some.inj q
      | some j => exact Option.some.inj q
theorem taken_eq {G : Gram} {s : List Nat} {e : Nat} : Rd02.taken G s e = R G s e 0 := rfl
theorem least_of {p : Nat → Prop} : ∀ n, p n → ∃ k, k ≤ n ∧ p k ∧ ∀ j, j < k → ¬ p j := by
  intro n
  induction n using Nat.strongRecOn with
  | _ n ih =>
    intro h
    by_cases q : ∃ j, j < n ∧ p j
    · obtain ⟨j, hj, pj⟩ := q
      obtain ⟨k, h1, h2, h3⟩ := ih j hj pj
      exact ⟨k, by omega, h2, h3⟩
    · exact ⟨n, Nat.le_refl _, h, fun j hj pj => q ⟨j, hj, pj⟩⟩
structure RankOk (G : Gram) (rank : Nat → Nat) : Prop where
  le : ∀ e, e < G.nodes.length → 1 ≤ rank e ∧ rank e ≤ G.nodes.length
  three : ∀ e, e < G.nodes.length → (Rd02.node G e).kind = 3 → rank (Rd02.node G e).a < rank e ∧ (((Rd02.mays G).getD (Rd02.node G e).a Rd02.never).none_ = true → rank (Rd02.node G e).b < rank e)
  four : ∀ e, e < G.nodes.length → (Rd02.node G e).kind = 4 → rank (Rd02.node G e).a < rank e ∧ rank (Rd02.node G e).b < rank e
  five : ∀ e, e < G.nodes.length → (Rd02.node G e).kind = 5 → rank (Rd02.node G e).a < rank e ∧ ((Rd02.mays G).getD (Rd02.node G e).a Rd02.never).none_ = false
  six : ∀ e, e < G.nodes.length → (Rd02.node G e).kind = 6 → rank (Rd02.node G e).a < rank e
  seven : ∀ e, e < G.nodes.length → (Rd02.node G e).kind = 7 → ∃ d, Rd02.bodyOf G (Rd02.node G e).a = some d ∧ d < G.nodes.length ∧ rank d < rank e
theorem ranked {G : Gram} (W : Wf G) (S : Rd02.sound G = true) : ∃ rank, RankOk G rank := by
  have ex : ∀ e, ∃ k, e < G.nodes.length → k ≤ G.nodes.length ∧ isGood G k e ∧ ∀ j, j < k → ¬ isGood G j e := fun e => by
    by_cases he : e < G.nodes.length
    · obtain ⟨k, h⟩ := least_of (p := fun k => isGood G k e) _ (sound_all S he)
      exact ⟨k, fun _ => h⟩
    · exact ⟨0, fun z => absurd z he⟩
  have rank : ∃ rank : Nat → Nat, ∀ e, e < G.nodes.length → rank e ≤ G.nodes.length ∧ isGood G (rank e) e ∧ ∀ j, j < rank e → ¬ isGood G j e := ⟨fun e => Classical.choose (ex e), fun e => Classical.choose_spec (ex e)⟩
  obtain ⟨rank, hr⟩ := rank
  have pos : ∀ e, e < G.nodes.length → 1 ≤ rank e := fun e he => by
    obtain ⟨h1, h2, h3⟩ := hr e he
    cases q : rank e with
    | zero => rw [q] at h2; exact absurd h2 isGood_zero
    | succ k => omega
  have by_ : ∀ e, e < G.nodes.length → ∃ k, rank e = k + 1 ∧ Rd02.goodBy G (Rd02.mays G) (goodsAt G k) (Rd02.node G e) = true := fun e he => by
    have hp := pos e he
    obtain ⟨h1, h2, h3⟩ := hr e he
    refine ⟨rank e - 1, by omega, ?_⟩
    rw [← isGood_succ he, show rank e - 1 + 1 = rank e by omega]
    exact h2
  have low : ∀ {d k}, d < G.nodes.length → (goodsAt G k).getD d false = true → rank d < k + 1 := fun {d k} hd g => by
    obtain ⟨h1, h2, h3⟩ := hr d hd
    by_cases q : rank d < k + 1
    · exact q
    · exact absurd g (h3 k (by omega))
  refine ⟨rank, fun e he => ⟨pos e he, (hr e he).1⟩, fun e he hk => ?_, fun e he hk => ?_, fun e he hk => ?_, fun e he hk => ?_, fun e he hk => ?_⟩
  all_goals
    obtain ⟨k, ek, g⟩ := by_ e he
    have two := W.two e _ (node_at he)
    have one := W.one e _ (node_at he)
    unfold Rd02.goodBy at g
    simp only [] at g
    rw [if_neg (by omega)] at g
  · obtain ⟨la, lb⟩ := two (.inl hk)
    rw [if_pos hk, Bool.and_eq_true, Bool.or_eq_true] at g
    rw [ek]
    refine ⟨low la g.1, fun z => ?_⟩
    rcases g.2 with g | g
    · exact low lb g
    · rw [z] at g; cases g
  · obtain ⟨la, lb⟩ := two (.inr hk)
    rw [if_neg (by omega), if_pos hk, Bool.and_eq_true] at g
    rw [ek]
    exact ⟨low la g.1, low lb g.2⟩
  · have la := one (.inl hk)
    rw [if_neg (by omega), if_neg (by omega), if_pos hk, Bool.and_eq_true] at g
    rw [ek]
    exact ⟨low la g.1, by simpa using g.2⟩
  · have la := one (.inr hk)
    rw [if_neg (by omega), if_neg (by omega), if_neg (by omega), if_pos hk] at g
    rw [ek]
    exact low la g
  · rw [if_neg (by omega), if_neg (by omega), if_neg (by omega), if_neg (by omega), if_pos hk] at g
    cases hb : Rd02.bodyOf G (Rd02.node G e).a with
    | none => rw [hb] at g; cases g
    | some d =>
      rw [hb] at g
      rw [ek]
      exact ⟨d, rfl, body_lt hb, low (body_lt hb) g⟩
end Ow
set_option linter.unusedVariables false
namespace Ow
open Rd02 (Gram Node Use May Result Column)
theorem nodup_eraseDups {α : Type} [BEq α] [LawfulBEq α] : ∀ (n : Nat) (l : List α), l.length ≤ n → l.eraseDups.Nodup
  | _, [], _ => by simp
  | 0, _ :: _, h => by simp at h
  | n + 1, a :: l, h => by
    rw [List.eraseDups_cons]
    refine List.nodup_cons.mpr ⟨fun q => ?_, nodup_eraseDups n _ (Nat.le_trans (List.length_filter_le _ _) (by simpa using h))⟩
    rw [List.mem_eraseDups, List.mem_filter] at q
    simp at q
theorem length_sub {α : Type} [BEq α] [LawfulBEq α] : ∀ {l m : List α}, l.Nodup → (∀ x ∈ l, x ∈ m) → l.length ≤ m.length
  | [], _, _, _ => Nat.zero_le _
  | a :: l, m, hn, hs => by
    obtain ⟨h1, h2⟩ := List.nodup_cons.mp hn
    have ha := hs a List.mem_cons_self
    have : l.length ≤ (m.erase a).length := length_sub h2 fun x hx => (List.mem_erase_of_ne (a := x) (b := a) (fun q => h1 (by rw [← q]; exact hx))).mpr (hs x (List.mem_cons_of_mem _ hx))
    rw [List.length_erase_of_mem ha] at this
    have := List.length_pos_of_mem ha
    rw [List.length_cons]
    omega
theorem length_same {α : Type} [BEq α] [LawfulBEq α] {l m : List α} (hl : l.Nodup) (hm : m.Nodup) (h : ∀ x, x ∈ l ↔ x ∈ m) : l.length = m.length :=
  Nat.le_antisymm (length_sub hl fun x => (h x).mp) (length_sub hm fun x => (h x).mpr)
theorem length_pairs {n m : Nat} {l : List (Nat × Nat)} (hl : l.Nodup) (h : ∀ z ∈ l, z.1 < n ∧ z.2 < m) : l.length ≤ n * m := by
  have h1 : (l.map fun z => z.1 * m + z.2).Nodup := by
    refine List.pairwise_map.mpr (List.Pairwise.imp_of_mem (fun {a b} ha hb ne q => ne ?_) hl)
    obtain ⟨a1, a2⟩ := h a ha
    obtain ⟨b1, b2⟩ := h b hb
    have q : a.1 * m + a.2 = b.1 * m + b.2 := q
    have e1 : (a.1 * m + a.2) / m = a.1 := by
      rw [Nat.mul_comm, Nat.mul_add_div (by omega), Nat.div_eq_of_lt a2, Nat.add_zero]
    have e2 : (b.1 * m + b.2) / m = b.1 := by
      rw [Nat.mul_comm, Nat.mul_add_div (by omega), Nat.div_eq_of_lt b2, Nat.add_zero]
    have e3 : a.1 = b.1 := by rw [← e1, ← e2, q]
    have e4 : a.2 = b.2 := by rw [e3] at q; omega
    exact Prod.ext e3 e4
  have h2 := length_sub (m := List.range (n * m)) h1 fun x hx => by
    obtain ⟨z, hz, rfl⟩ := List.mem_map.mp hx
    obtain ⟨a1, a2⟩ := h z hz
    rw [List.mem_range]
    have : (z.1 + 1) * m ≤ n * m := Nat.mul_le_mul_right m a1
    rw [Nat.add_mul, Nat.one_mul] at this
    omega
  rw [List.length_map, List.length_range] at h2
  exact h2
def asksR (G : Gram) (s : List Nat) (z : Nat × Nat) : List (Nat × Nat) :=
  let x := Rd02.node G z.1
  if x.kind < 3 then []
  else if x.kind = 3 then (x.a, z.2) :: (match R G s x.a z.2 with
    | (some j, _) => [(x.b, j)]
    | _ => [])
  else if x.kind = 4 then (x.a, z.2) :: (match R G s x.a z.2 with
    | (none, _) => [(x.b, z.2)]
    | _ => [])
  else if x.kind = 5 then (x.a, z.2) :: (match R G s x.a z.2 with
    | (some j, _) => [(z.1, j)]
    | _ => [])
  else if x.kind = 6 then [(x.a, z.2)]
  else match Rd02.bodyOf G x.a with
    | some d => [(d, z.2)]
    | none => []
inductive Reach (G : Gram) (s : List Nat) (z : Nat × Nat) : Nat × Nat → Prop
  | refl : Reach G s z z
  | step (y w : Nat × Nat) : Reach G s z y → w ∈ asksR G s y → Reach G s z w
section
variable {G : Gram} {s : List Nat} (W : Wf G) (S : Rd02.sound G = true)
include W S
theorem asks_eq {z : Nat × Nat} (h1 : z.1 < G.nodes.length) (h2 : z.2 ≤ s.length) : Rd02.asksAt G (Rd02.table G s) z = asksR G s z := by
  have two := W.two z.1 _ (node_at h1)
  have one := W.one z.1 _ (node_at h1)
  unfold Rd02.asksAt asksR
  simp only []
  generalize Rd02.node G z.1 = x at two one ⊢
  split
  · rfl
  split
  · rename_i h
    rw [R_some W S (two (.inl h)).1 h2]
    cases R G s x.a z.2 with
    | mk y t => cases y <;> rfl
  split
  · rename_i h
    rw [R_some W S (two (.inr h)).1 h2]
    cases R G s x.a z.2 with
    | mk y t => cases y <;> rfl
  split
  · rename_i h
    rw [R_some W S (one (.inl h)) h2]
    cases R G s x.a z.2 with
    | mk y t => cases y <;> rfl
  rfl
theorem asks_in {z w : Nat × Nat} (h1 : z.1 < G.nodes.length) (h2 : z.2 ≤ s.length) (hw : w ∈ asksR G s z) : w.1 < G.nodes.length ∧ w.2 ≤ s.length := by
  have two := W.two z.1 _ (node_at h1)
  have one := W.one z.1 _ (node_at h1)
  unfold asksR at hw
  simp only [] at hw
  generalize Rd02.node G z.1 = x at two one hw
  have bd : ∀ {d j t}, d < G.nodes.length → R G s d z.2 = (some j, t) → j ≤ s.length := fun {d j t} hd q => ((R_says W S hd h2).1 j (by rw [q])).2.1
  split at hw
  · cases hw
  split at hw
  · rename_i h
    obtain ⟨la, lb⟩ := two (.inl h)
    rcases List.mem_cons.mp hw with rfl | hw
    · exact ⟨la, h2⟩
    · cases q : R G s x.a z.2 with
      | mk y t =>
        rw [q] at hw
        cases y with
        | none => cases hw
        | some j =>
          obtain rfl := List.mem_singleton.mp hw
          exact ⟨lb, bd la q⟩
  split at hw
  · rename_i h
    obtain ⟨la, lb⟩ := two (.inr h)
    rcases List.mem_cons.mp hw with rfl | hw
    · exact ⟨la, h2⟩
    · cases q : R G s x.a z.2 with
      | mk y t =>
        rw [q] at hw
        cases y with
        | none =>
          obtain rfl := List.mem_singleton.mp hw
          exact ⟨lb, h2⟩
        | some j => cases hw
  split at hw
  · rename_i h
    have la := one (.inl h)
    rcases List.mem_cons.mp hw with rfl | hw
    · exact ⟨la, h2⟩
    · cases q : R G s x.a z.2 with
      | mk y t =>
        rw [q] at hw
        cases y with
        | none => cases hw
        | some j =>
          obtain rfl := List.mem_singleton.mp hw
          exact ⟨h1, bd la q⟩
  split at hw
  · rename_i h
    obtain rfl := List.mem_singleton.mp hw
    exact ⟨one (.inr h), h2⟩
  · cases hb : Rd02.bodyOf G x.a with
    | none => rw [hb] at hw; cases hw
    | some d =>
      rw [hb] at hw
      obtain rfl := List.mem_singleton.mp hw
      exact ⟨body_lt hb, h2⟩
theorem Reach.in_ {z w : Nat × Nat} (h1 : z.1 < G.nodes.length) (h2 : z.2 ≤ s.length) (h : Reach G s z w) : w.1 < G.nodes.length ∧ w.2 ≤ s.length := by
  induction h with
  | refl => exact ⟨h1, h2⟩
  | step y w _ hw ih => exact asks_in W S ih.1 ih.2 hw
theorem asksFrom_ok {z : Nat × Nat} (h1 : z.1 < G.nodes.length) (h2 : z.2 ≤ s.length) : ∀ (f : Nat) (seen now : List (Nat × Nat)), seen.Nodup → (∀ y ∈ now, y ∈ seen) → (∀ y ∈ seen, Reach G s z y) → z ∈ seen →
    (∀ y ∈ seen, y ∉ now → ∀ w ∈ asksR G s y, w ∈ seen) → G.nodes.length * (s.length + 1) < f + seen.length →
    (Rd02.asksFrom G (Rd02.table G s) f seen now).Nodup ∧ ∀ y, y ∈ Rd02.asksFrom G (Rd02.table G s) f seen now ↔ Reach G s z y
  | 0, seen, now, hn, _, hr, _, _, hf => by
    have : seen.length ≤ G.nodes.length * (s.length + 1) := length_pairs hn fun y hy => by
      have := (hr y hy).in_ W S h1 h2
      exact ⟨this.1, by omega⟩
    omega
  | f + 1, seen, now, hn, hs, hr, hz, hc, hf => by
    unfold Rd02.asksFrom
    simp only []
    have mem : ∀ w, w ∈ (((now.flatMap (Rd02.asksAt G (Rd02.table G s))).eraseDups).filter fun z => !seen.contains z) ↔ (∃ y ∈ now, w ∈ asksR G s y) ∧ w ∉ seen := fun w => by
      rw [List.mem_filter, List.mem_eraseDups, List.mem_flatMap]
      constructor
      · rintro ⟨⟨y, hy, hw⟩, q⟩
        have i := (hr y (hs y hy)).in_ W S h1 h2
        rw [asks_eq W S i.1 i.2] at hw
        exact ⟨⟨y, hy, hw⟩, fun z => by simp [z] at q⟩
      · rintro ⟨⟨y, hy, hw⟩, q⟩
        have i := (hr y (hs y hy)).in_ W S h1 h2
        exact ⟨⟨y, hy, by rw [asks_eq W S i.1 i.2]; exact hw⟩, by simpa using q⟩
    have nd : (((now.flatMap (Rd02.asksAt G (Rd02.table G s))).eraseDups).filter fun z => !seen.contains z).Nodup := List.Pairwise.filter _ (nodup_eraseDups _ _ (Nat.le_refl _))
    generalize ((now.flatMap (Rd02.asksAt G (Rd02.table G s))).eraseDups).filter (fun z => !seen.contains z) = next at mem nd
    split
    · rename_i he
      have hne : next = [] := List.isEmpty_iff.mp he
      have cl : ∀ y ∈ seen, ∀ w ∈ asksR G s y, w ∈ seen := fun y hy w hw => by
        by_cases q : y ∈ now
        · by_cases q2 : w ∈ seen
          · exact q2
          · have := (mem w).mpr ⟨⟨y, q, hw⟩, q2⟩
            rw [hne] at this
            cases this
        · exact hc y hy q w hw
      refine ⟨hn, fun y => ⟨hr y, fun h => ?_⟩⟩
      induction h with
      | refl => exact hz
      | step y w _ hw ih => exact cl y ih w hw
    · rename_i he
      have hl : 0 < next.length := by
        cases next with
        | nil => exact absurd rfl he
        | cons _ _ => exact Nat.succ_pos _
      refine asksFrom_ok h1 h2 f (seen ++ next) next ?_ (fun y hy => List.mem_append_right _ hy) (fun y hy => ?_) (List.mem_append_left _ hz) (fun y hy hyn w hw => ?_) (by rw [List.length_append]; omega)
      · exact List.nodup_append.mpr ⟨hn, nd, fun a ha b hb q => by
          rw [q] at ha
          exact ((mem b).mp hb).2 ha⟩
      · rcases List.mem_append.mp hy with hy | hy
        · exact hr y hy
        · obtain ⟨⟨u, hu, hw⟩, _⟩ := (mem y).mp hy
          exact .step u y (hr u (hs u hu)) hw
      · rcases List.mem_append.mp hy with hy | hy
        · by_cases q : y ∈ now
          · by_cases q2 : w ∈ seen
            · exact List.mem_append_left _ q2
            · exact List.mem_append_right _ ((mem w).mpr ⟨⟨y, q, hw⟩, q2⟩)
          · exact List.mem_append_left _ (hc y hy q w hw)
        · exact absurd hy hyn
theorem askedOf_eq {e : Nat} (he : e < G.nodes.length) {p : List (Nat × Nat)} (hp : p.Nodup)
    (h : ∀ q, q ∈ p ↔ ∃ z, Reach G s (e, 0) z ∧ (Rd02.node G z.1).kind = 7 ∧ q = ((Rd02.node G z.1).a, z.2)) : Rd02.askedOf G s e = p.length := by
  have A := asksFrom_ok (s := s) W S (z := (e, 0)) he (Nat.zero_le _) (G.nodes.length * (s.length + 1) + 1) [(e, 0)] [(e, 0)] (by simp) (fun y hy => hy) (fun y hy => by rw [List.mem_singleton.mp hy]; exact .refl) List.mem_cons_self
    (fun y hy hn => absurd hy hn) (by rw [List.length_singleton]; omega)
  unfold Rd02.askedOf
  refine length_same (nodup_eraseDups _ _ (Nat.le_refl _)) hp fun q => ?_
  rw [List.mem_eraseDups, List.mem_filterMap, h]
  constructor
  · rintro ⟨z, hz, q2⟩
    split at q2
    · rename_i hk
      cases q2
      exact ⟨z, (A.2 z).mp hz, hk, rfl⟩
    · cases q2
  · rintro ⟨z, hz, hk, rfl⟩
    exact ⟨z, (A.2 z).mpr hz, by rw [if_pos hk]⟩
end
end Ow
set_option linter.all false
namespace Ow
open PySem PySem.SetTable
def it5 : Nat → Nat → Nat
  | 0, x => x
  | n + 1, x => it5 n (5 * x + 1)
theorem it5_add (m : Nat) : ∀ (n x : Nat), it5 (n + m) x = it5 m (it5 n x)
  | 0, x => by rw [Nat.zero_add]; rfl
  | n + 1, x => by
    rw [Nat.add_right_comm]
    exact it5_add m n _
theorem it5_pow : ∀ k : Nat, ∃ u v : Nat, ∀ z, it5 (2 ^ k) z = z + 2 ^ (k + 2) * u * z + (2 ^ k + 2 ^ (k + 1) * v)
  | 0 => ⟨1, 0, fun z => by show 5 * z + 1 = _; omega⟩
  | k + 1 => by
    obtain ⟨u, v, h⟩ := it5_pow k
    refine ⟨u + 2 ^ (k + 1) * (u * u), v + 2 ^ k * u * (1 + 2 * v), fun z => ?_⟩
    rw [Nat.pow_succ, Nat.mul_two, it5_add, h, h]
    generalize hp : 2 ^ k = p
    have e1 : 2 ^ (k + 1) = 2 * p := by rw [Nat.pow_succ, hp]; omega
    have e2 : 2 ^ (k + 2) = 4 * p := by rw [Nat.pow_succ, e1]; omega
    have e3 : 2 ^ (k + 1 + 2) = 8 * p := by rw [show k + 1 + 2 = (k + 2) + 1 by omega, Nat.pow_succ, e2]; omega
    have e4 : 2 ^ (k + 1 + 1) = 4 * p := by rw [show k + 1 + 1 = (k + 2) by omega, e2]
    rw [e3, e4, e1]
    grind
theorem it5_all : ∀ (k x y : Nat), ∃ n, n < 2 ^ k ∧ it5 n x % 2 ^ k = y % 2 ^ k
  | 0, x, y => ⟨0, by decide, by rw [Nat.pow_zero, Nat.mod_one, Nat.mod_one]⟩
  | k + 1, x, y => by
    obtain ⟨n, hn, e⟩ := it5_all k x y
    obtain ⟨u, v, h⟩ := it5_pow k
    have hp : 0 < 2 ^ k := Nat.pow_pos (by decide)
    have e1 : 2 ^ (k + 1) = 2 * 2 ^ k := by rw [Nat.pow_succ]; omega
    have e2 : 2 ^ (k + 2) = 2 * 2 ^ (k + 1) := by rw [Nat.pow_succ 2 (k + 1)]; omega
    by_cases q : it5 n x % 2 ^ (k + 1) = y % 2 ^ (k + 1)
    · exact ⟨n, by omega, q⟩
    · refine ⟨n + 2 ^ k, by omega, ?_⟩
      rw [it5_add, h]
      generalize it5 n x = z at e q ⊢
      have e3 : z + 2 ^ (k + 2) * u * z + (2 ^ k + 2 ^ (k + 1) * v) = (z + 2 ^ k) + 2 ^ (k + 1) * (2 * (u * z) + v) := by
        rw [e2]
        grind
      rw [e3, Nat.add_mul_mod_self_left]
      rw [e1] at q ⊢
      generalize 2 ^ k = p at *
      have a1 := Nat.div_add_mod z (2 * p)
      have a2 := Nat.div_add_mod y (2 * p)
      have b1 := Nat.mod_lt z (y := 2 * p) (by omega)
      have b2 := Nat.mod_lt y (y := 2 * p) (by omega)
      have c1 : z % (2 * p) % p = z % p := Nat.mod_mul_left_mod ..
      have c2 : y % (2 * p) % p = y % p := Nat.mod_mul_left_mod ..
      rw [Nat.add_mod, Nat.mod_eq_of_lt (a := p) (by omega)]
      generalize z % (2 * p) = r at *
      generalize y % (2 * p) = t at *
      rw [← c1, ← c2] at e
      have d1 : r % p = if r < p then r else r - p := by
        split
        · exact Nat.mod_eq_of_lt ‹_›
        · rw [Nat.mod_eq_sub_mod (by omega), Nat.mod_eq_of_lt (by omega)]
      have d2 : t % p = if t < p then t else t - p := by
        split
        · exact Nat.mod_eq_of_lt ‹_›
        · rw [Nat.mod_eq_sub_mod (by omega), Nat.mod_eq_of_lt (by omega)]
      rw [d1, d2] at e
      by_cases g : r + p < 2 * p
      · rw [Nat.mod_eq_of_lt g]
        split at e <;> split at e <;> omega
      · rw [Nat.mod_eq_sub_mod (by omega), Nat.mod_eq_of_lt (by omega)]
        split at e <;> split at e <;> omega
theorem it5_mod (m : Nat) : ∀ (n x : Nat), it5 n (x % m) % m = it5 n x % m
  | 0, x => Nat.mod_mod _ _
  | n + 1, x => by
    show it5 n (5 * (x % m) + 1) % m = it5 n (5 * x + 1) % m
    rw [← it5_mod m n, ← it5_mod m n (5 * x + 1)]
    congr 2
    rw [Nat.add_mod, Nat.mul_mod, Nat.mod_mod, ← Nat.mul_mod, ← Nat.add_mod]
def lp (mask : Nat) : Nat → Nat × Nat → Nat × Nat
  | 0, x => x
  | q + 1, x => lp mask q (leap mask x.1 x.2)
theorem lp_add (mask m : Nat) : ∀ (n : Nat) (x : Nat × Nat), lp mask (n + m) x = lp mask m (lp mask n x)
  | 0, x => by rw [Nat.zero_add]; rfl
  | n + 1, x => by
    rw [Nat.add_right_comm]
    exact lp_add mask m n _
theorem lp_zero (mask : Nat) : ∀ (q i : Nat), i ≤ mask → lp mask q (i, 0) = (it5 q i % (mask + 1), 0)
  | 0, i, h => by
    show (i, 0) = (i % (mask + 1), 0)
    rw [Nat.mod_eq_of_lt (by omega)]
  | q + 1, i, h => by
    show lp mask q ((i * 5 + 1 + 0 / 32) % (mask + 1), 0 / 32) = _
    rw [Nat.zero_div, lp_zero mask q _ (Nat.le_of_lt_succ (Nat.mod_lt _ (Nat.succ_pos _))), it5_mod, Nat.add_zero, Nat.mul_comm i 5]
    rfl
theorem lp_snd (mask : Nat) : ∀ (q : Nat) (x : Nat × Nat), (lp mask q x).2 = x.2 / 32 ^ q
  | 0, x => by show x.2 = _; rw [Nat.pow_zero, Nat.div_one]
  | q + 1, x => by
    show (lp mask q (leap mask x.1 x.2)).2 = _
    rw [lp_snd mask q]
    show x.2 / 32 / 32 ^ q = _
    rw [Nat.div_div_eq_div_mul, Nat.pow_succ, Nat.mul_comm]
theorem lp_le (mask : Nat) : ∀ (q : Nat) (x : Nat × Nat), x.1 ≤ mask → (lp mask q x).1 ≤ mask
  | 0, x, h => h
  | q + 1, x, h => lp_le mask q _ (Nat.le_of_lt_succ (Nat.mod_lt _ (Nat.succ_pos _)))
theorem lp_all {mask k : Nat} (hm : mask + 1 = 2 ^ k) {i p s : Nat} (hi : i ≤ mask) (hp : p < 2 ^ 64) (hs : s ≤ mask) : ∃ q, q < turns mask ∧ (lp mask q (i, p)).1 = s := by
  have e13 : lp mask 13 (i, p) = ((lp mask 13 (i, p)).1, 0) := by
    refine Prod.ext rfl ?_
    rw [lp_snd]
    exact Nat.div_eq_of_lt (Nat.lt_of_lt_of_le hp (by decide))
  have h13 := lp_le mask 13 (i, p) hi
  obtain ⟨n, hn, e⟩ := it5_all k (lp mask 13 (i, p)).1 s
  refine ⟨13 + n, by show 13 + n < mask + 15; omega, ?_⟩
  rw [lp_add, e13, lp_zero mask n _ h13]
  show it5 n _ % (mask + 1) = s
  rw [hm, e, ← hm, Nat.mod_eq_of_lt (by omega)]
def stP (mask i p : Nat) : Probe := ⟨i, runEnd mask i - i, i, p, none⟩
def adv (mask : Nat) (p : Probe) : Probe := if p.more > 0 then { p with j := p.j + 1, more := p.more - 1 } else
  { p with j := (leap mask p.i p.perturb).1, more := runEnd mask (leap mask p.i p.perturb).1 - (leap mask p.i p.perturb).1, i := (leap mask p.i p.perturb).1, perturb := (leap mask p.i p.perturb).2 }
theorem advance_eq (t : SetTable) (p : Probe) : t.advance p = adv t.mask p := rfl
theorem probeStart_eq (t : SetTable) (h : Int) : t.probeStart h = stP t.mask (SetTable.bits h % (t.mask + 1)) (SetTable.bits h) := rfl
def chn (mask : Nat) : Nat → Probe → Probe
  | 0, p => p
  | n + 1, p => chn mask n (adv mask p)
theorem chn_add (mask m : Nat) : ∀ (n : Nat) (p : Probe), chn mask (n + m) p = chn mask m (chn mask n p)
  | 0, p => by rw [Nat.zero_add]; rfl
  | n + 1, p => by
    rw [Nat.add_right_comm]
    exact chn_add mask m n _
theorem chn_succ (mask n : Nat) (p : Probe) : chn mask (n + 1) p = adv mask (chn mask n p) := chn_add mask 1 n p
theorem chn_dummy (mask : Nat) : ∀ (n : Nat) (p : Probe), p.dummy = none → (chn mask n p).dummy = none
  | 0, p, h => h
  | n + 1, p, h => chn_dummy mask n _ (by unfold adv; split <;> exact h)
theorem chn_run (mask : Nat) : ∀ (k : Nat) (p : Probe), k ≤ p.more → chn mask k p = { p with j := p.j + k, more := p.more - k }
  | 0, p, _ => rfl
  | k + 1, p, h => by
    show chn mask k (adv mask p) = _
    have e : adv mask p = { p with j := p.j + 1, more := p.more - 1 } := if_pos (by omega)
    rw [e, chn_run mask k _ (by show k ≤ p.more - 1; omega)]
    show ({ p with j := p.j + 1 + k, more := p.more - 1 - k } : Probe) = { p with j := p.j + (k + 1), more := p.more - (k + 1) }
    congr 1 <;> omega
theorem run_le (mask i : Nat) : runEnd mask i - i ≤ 9 := by
  unfold runEnd
  split <;> omega
theorem chn_next (mask i p : Nat) : chn mask (runEnd mask i - i + 1) (stP mask i p) = stP mask (leap mask i p).1 (leap mask i p).2 := by
  rw [chn_succ, chn_run mask (runEnd mask i - i) (stP mask i p) (Nat.le_refl _)]
  show adv mask ⟨i + (runEnd mask i - i), runEnd mask i - i - (runEnd mask i - i), i, p, none⟩ = _
  rw [Nat.sub_self]
  exact if_neg (by show ¬ (0 > 0); omega)
theorem chn_lp (mask : Nat) : ∀ (q : Nat) (x : Nat × Nat), ∃ n, n ≤ 10 * q ∧ chn mask n (stP mask x.1 x.2) = stP mask (lp mask q x).1 (lp mask q x).2
  | 0, x => ⟨0, Nat.zero_le _, rfl⟩
  | q + 1, x => by
    obtain ⟨n, hn, e⟩ := chn_lp mask q (leap mask x.1 x.2)
    refine ⟨runEnd mask x.1 - x.1 + 1 + n, by have := run_le mask x.1; omega, ?_⟩
    rw [chn_add, chn_next, e]
    rfl
def pj (mask : Nat) (h : Int) (n : Nat) : Nat := (chn mask n (stP mask (SetTable.bits h % (mask + 1)) (SetTable.bits h))).j
theorem bits_lt (h : Int) : SetTable.bits h < 2 ^ 64 := by
  unfold SetTable.bits
  have := Int.emod_lt_of_pos h (b := 2 ^ 64) (by decide)
  have := Int.emod_nonneg h (b := 2 ^ 64) (by decide)
  omega
theorem pj_all {mask k : Nat} (hm : mask + 1 = 2 ^ k) (h : Int) {s : Nat} (hs : s ≤ mask) : ∃ n, n < 10 * turns mask ∧ pj mask h n = s := by
  obtain ⟨q, hq, e⟩ := lp_all hm (i := SetTable.bits h % (mask + 1)) (p := SetTable.bits h) (Nat.le_of_lt_succ (Nat.mod_lt _ (Nat.succ_pos _))) (bits_lt h) hs
  obtain ⟨n, hn, e2⟩ := chn_lp mask q (SetTable.bits h % (mask + 1), SetTable.bits h)
  refine ⟨n, by omega, ?_⟩
  unfold pj
  rw [e2]
  exact e
theorem adv_le {mask : Nat} {p : Probe} (h1 : p.j + p.more ≤ mask) : (adv mask p).j + (adv mask p).more ≤ mask := by
  unfold adv
  split
  · show p.j + 1 + (p.more - 1) ≤ mask
    omega
  · have : (leap mask p.i p.perturb).1 ≤ mask := Nat.le_of_lt_succ (Nat.mod_lt _ (Nat.succ_pos _))
    show (leap mask p.i p.perturb).1 + (runEnd mask (leap mask p.i p.perturb).1 - (leap mask p.i p.perturb).1) ≤ mask
    unfold runEnd
    split <;> omega
theorem chn_le {mask : Nat} : ∀ (n : Nat) {p : Probe}, p.j + p.more ≤ mask → (chn mask n p).j + (chn mask n p).more ≤ mask
  | 0, p, h => h
  | n + 1, p, h => chn_le n (adv_le h)
theorem pj_le (mask : Nat) (h : Int) (n : Nat) : pj mask h n ≤ mask := by
  have : SetTable.bits h % (mask + 1) ≤ mask := Nat.le_of_lt_succ (Nat.mod_lt _ (Nat.succ_pos _))
  have := chn_le (mask := mask) n (p := stP mask (SetTable.bits h % (mask + 1)) (SetTable.bits h)) (by
    show SetTable.bits h % (mask + 1) + (runEnd mask (SetTable.bits h % (mask + 1)) - SetTable.bits h % (mask + 1)) ≤ mask
    unfold runEnd
    split <;> omega)
  unfold pj
  omega
end Ow
set_option linter.all false
namespace Ow
open PySem PySem.SetTable
theorem getD_toList (xs : Array Nat) (i j : Nat) : xs.getD i j = (xs.toList[i]?).getD j := by
  rw [Array.getD_eq_getD_getElem?, Array.getElem?_toList]
theorem srt_get {l : List Nat} (h : l.Pairwise (· < ·)) {a b x y : Nat} (ha : l[a]? = some x) (hb : l[b]? = some y) (hab : a < b) : x < y := by
  obtain ⟨h1, e1⟩ := List.getElem?_eq_some_iff.mp ha
  obtain ⟨h2, e2⟩ := List.getElem?_eq_some_iff.mp hb
  rw [← e1, ← e2]
  exact List.pairwise_iff_getElem.mp h a b h1 h2 hab
theorem go_spec {xs : Array Nat} {j : Nat} (hs : xs.toList.Pairwise (· < ·)) : ∀ (f lo hi : Nat), hi - lo ≤ f → lo ≤ hi → hi ≤ xs.size → (∀ i x, i < lo → xs.toList[i]? = some x → x < j) → (∀ i x, hi ≤ i → xs.toList[i]? = some x → ¬ x < j) →
    below.go xs j f lo hi ≤ xs.size ∧ (∀ i x, i < below.go xs j f lo hi → xs.toList[i]? = some x → x < j) ∧ ∀ i x, below.go xs j f lo hi ≤ i → xs.toList[i]? = some x → ¬ x < j
  | 0, lo, hi, hf, hl, hh, h1, h2 => by
    have : lo = hi := by omega
    subst this
    exact ⟨hh, h1, h2⟩
  | f + 1, lo, hi, hf, hl, hh, h1, h2 => by
    unfold below.go
    by_cases q : lo < hi
    · rw [if_pos q]
      have hm : (lo + hi) / 2 < xs.toList.length := by rw [Array.length_toList]; omega
      have hg : xs.toList[(lo + hi) / 2]? = some (xs.toList[(lo + hi) / 2]) := List.getElem?_eq_getElem hm
      show (if xs.getD ((lo + hi) / 2) j < j then below.go xs j f ((lo + hi) / 2 + 1) hi else below.go xs j f lo ((lo + hi) / 2)) ≤ xs.size ∧ _
      rw [getD_toList, hg]
      by_cases r : xs.toList[(lo + hi) / 2] < j
      · have r' : (some (xs.toList[(lo + hi) / 2])).getD j < j := r
        rw [if_pos r']
        simp only [getD_toList, hg, if_pos r']
        refine go_spec hs f _ hi (by omega) (by omega) hh (fun i x hi' hx => ?_) h2
        by_cases e : i = (lo + hi) / 2
        · subst e
          rw [hg] at hx
          cases hx
          exact r
        · exact Nat.lt_trans (srt_get hs hx hg (by omega)) r
      · have r' : ¬ (some (xs.toList[(lo + hi) / 2])).getD j < j := r
        rw [if_neg r']
        simp only [getD_toList, hg, if_neg r']
        refine go_spec hs f lo _ (by omega) (by omega) (by omega) h1 fun i x hi' hx => ?_
        by_cases e : i = (lo + hi) / 2
        · subst e
          rw [hg] at hx
          cases hx
          exact r
        · have := srt_get hs hg hx (by omega)
          omega
    · rw [if_neg q]
      have : lo = hi := by omega
      subst this
      exact ⟨hh, h1, h2⟩
theorem below_spec {xs : Array Nat} (j : Nat) (hs : xs.toList.Pairwise (· < ·)) : below xs j ≤ xs.size ∧ (∀ i x, i < below xs j → xs.toList[i]? = some x → x < j) ∧ ∀ i x, below xs j ≤ i → xs.toList[i]? = some x → ¬ x < j :=
  go_spec hs xs.size 0 xs.size (Nat.le_refl _) (Nat.zero_le _) (Nat.le_refl _) (fun i x h => absurd h (Nat.not_lt_zero _)) fun i x h hx => by
    have := (List.getElem?_eq_some_iff.mp hx).1
    rw [Array.length_toList] at this
    omega
theorem below_at {xs : Array Nat} {i j : Nat} (hs : xs.toList.Pairwise (· < ·)) (h : xs.toList[i]? = some j) : below xs j = i := by
  obtain ⟨h0, h1, h2⟩ := below_spec j hs
  rcases Nat.lt_trichotomy (below xs j) i with q | q | q
  · have hl : below xs j < xs.toList.length := Nat.lt_trans q (List.getElem?_eq_some_iff.mp h).1
    have hg : xs.toList[below xs j]? = some (xs.toList[below xs j]) := List.getElem?_eq_getElem hl
    exact absurd (srt_get hs hg h q) (h2 _ _ (Nat.le_refl _) hg)
  · exact q
  · exact absurd (h1 i j q h) (Nat.lt_irrefl _)
structure TOk (t : SetTable) (hs : List Int) : Prop where
  dm : t.dummies = #[]
  len : t.place.size = hs.length
  srt : t.place.toList.Pairwise (· < ·)
  le : ∀ j ∈ t.place.toList, j ≤ t.mask
  reach : ∀ (i j : Nat) (h : Int), t.place.toList[i]? = some j → hs[i]? = some h → ∃ n, pj t.mask h n = j ∧ ∀ m, m < n → pj t.mask h m ∈ t.place.toList
theorem slot_live {t : SetTable} {hs : List Int} (T : TOk t hs) {i j : Nat} (h : t.place.toList[i]? = some j) : t.slot j = .live i := by
  unfold slot
  simp only [below_at T.srt h]
  have e : (t.place[i]? == some j) = true := by rw [← Array.getElem?_toList, h]; exact beq_self_eq_true _
  rw [if_pos e]
theorem slot_empty {t : SetTable} {hs : List Int} (T : TOk t hs) {j : Nat} (h : j ∉ t.place.toList) : t.slot j = .empty := by
  unfold slot
  simp only []
  have e : ¬ (t.place[below t.place j]? == some j) = true := fun q => by
    have q := eq_of_beq q
    rw [← Array.getElem?_toList] at q
    exact h (List.mem_of_getElem? q)
  rw [if_neg e, T.dm]
  rw [if_neg (by unfold has; simp)]
theorem first_free {t : SetTable} {hs : List Int} (T : TOk t hs) {k : Nat} (hm : t.mask + 1 = 2 ^ k) (hf : hs.length ≤ t.mask) (h : Int) : ∃ N, N < 10 * turns t.mask ∧ pj t.mask h N ∉ t.place.toList ∧ ∀ m, m < N → pj t.mask h m ∈ t.place.toList := by
  have ex : ∃ s, s ≤ t.mask ∧ s ∉ t.place.toList := by
    refine Classical.byContradiction fun q => ?_
    have : (List.range (t.mask + 1)).length ≤ t.place.toList.length := length_sub List.nodup_range fun s hs => Classical.byContradiction fun z => q ⟨s, Nat.le_of_lt_succ (List.mem_range.mp hs), z⟩
    rw [List.length_range, Array.length_toList, T.len] at this
    omega
  obtain ⟨s, h1, h2⟩ := ex
  obtain ⟨n, hn, e⟩ := pj_all hm h h1
  obtain ⟨N, a, b, c⟩ := least_of (p := fun n => pj t.mask h n ∉ t.place.toList) n (by rw [e]; exact h2)
  exact ⟨N, by omega, b, fun m hm => Classical.byContradiction fun z => c m hm z⟩
abbrev ch (mask : Nat) (h : Int) (n : Nat) : Probe := chn mask n (stP mask (SetTable.bits h % (mask + 1)) (SetTable.bits h))
theorem ch_succ (mask : Nat) (h : Int) (n : Nat) : adv mask (ch mask h n) = ch mask h (n + 1) := (chn_succ mask n _).symm
theorem ch_dummy (mask : Nat) (h : Int) (n : Nat) : (ch mask h n).dummy = none := chn_dummy mask n _ rfl
theorem go_probe {t : SetTable} {hs : List Int} (T : TOk t hs) {h : Int} {N : Nat} (hN : pj t.mask h N ∉ t.place.toList) (hB : ∀ m, m < N → pj t.mask h m ∈ t.place.toList) (hashAt : Nat → Int) : ∀ (f n : Nat), n ≤ N → N - n < f →
    ∃ e, n ≤ e ∧ e ≤ N ∧ (∀ m i, n ≤ m → m < e → t.place.toList[i]? = some (pj t.mask h m) → hashAt i ≠ h) ∧
      ((e = N ∧ probe.go t hashAt h f (ch t.mask h n) = some (.empty (pj t.mask h N) none)) ∨
       (e < N ∧ ∃ i, t.place.toList[i]? = some (pj t.mask h e) ∧ hashAt i = h ∧ probe.go t hashAt h f (ch t.mask h n) = some (.candidate (pj t.mask h e) i (ch t.mask h (e + 1)))))
  | 0, n, h1, h2 => absurd h2 (Nat.not_lt_zero _)
  | f + 1, n, h1, h2 => by
    unfold probe.go
    by_cases q : n = N
    · subst q
      refine ⟨n, Nat.le_refl _, Nat.le_refl _, fun m i a b => by omega, .inl ⟨rfl, ?_⟩⟩
      show (match t.slot (pj t.mask h n) with | .empty => _ | .dummy => _ | .live i => _) = _
      rw [slot_empty T hN]
      show some (Met.empty (ch t.mask h n).j (ch t.mask h n).dummy) = _
      rw [ch_dummy]
      rfl
    · obtain ⟨i, hi⟩ := List.mem_iff_getElem?.mp (hB n (by omega))
      have hsl : t.slot (ch t.mask h n).j = .live i := slot_live T hi
      rw [hsl]
      simp only []
      by_cases r : hashAt i = h
      · rw [if_pos (by rw [r]; exact beq_self_eq_true _)]
        refine ⟨n, Nat.le_refl _, h1, fun m i a b => by omega, .inr ⟨by omega, i, hi, r, ?_⟩⟩
        rw [advance_eq, ch_succ]
        rfl
      · rw [if_neg (fun z => r (eq_of_beq z)), advance_eq, ch_succ]
        obtain ⟨e, a, b, c, d⟩ := go_probe T hN hB hashAt f (n + 1) (by omega) (by omega)
        refine ⟨e, by omega, b, fun m i' hm1 hm2 hi' => ?_, d⟩
        by_cases z : m = n
        · subst z
          rw [← below_at T.srt hi', below_at T.srt hi]
          exact r
        · exact c m i' (by omega) hm2 hi'
theorem ins_get {α : Type} {l : List α} {p : Nat} {x : α} (hp : p ≤ l.length) (i : Nat) : (l.take p ++ x :: l.drop p)[i]? = if i < p then l[i]? else if i = p then some x else l[i - 1]? := by
  have hl : (l.take p).length = p := by rw [List.length_take]; omega
  by_cases h : i < p
  · rw [if_pos h, List.getElem?_append_left (by omega), List.getElem?_take, if_pos h]
  · rw [if_neg h, List.getElem?_append_right (by omega), hl]
    by_cases e : i = p
    · rw [if_pos e, e, Nat.sub_self]
      rfl
    · rw [if_neg e, show i - p = (i - p - 1) + 1 by omega, List.getElem?_cons_succ, List.getElem?_drop]
      congr 1
      omega
theorem toList_ins {α : Type} (xs : Array α) (p : Nat) (x : α) (hp : p ≤ xs.size) : (insertAt xs p x).toList = xs.toList.take p ++ x :: xs.toList.drop p := by
  rw [SetTable.toList_insertAt]
theorem mem_ins {α : Type} {l : List α} {p : Nat} {x y : α} : y ∈ l.take p ++ x :: l.drop p ↔ y = x ∨ y ∈ l := by
  rw [List.mem_append, List.mem_cons]
  have := List.take_append_drop p l
  constructor
  · rintro (h | h | h)
    · exact .inr (List.mem_of_mem_take h)
    · exact .inl h
    · exact .inr (List.mem_of_mem_drop h)
  · rintro (h | h)
    · exact .inr (.inl h)
    · rw [← this] at h
      rcases List.mem_append.mp h with h | h
      · exact .inl h
      · exact .inr (.inr h)
theorem put_ok {t : SetTable} {hs : List Int} (T : TOk t hs) {h : Int} {N : Nat} (hN : pj t.mask h N ∉ t.place.toList) (hB : ∀ m, m < N → pj t.mask h m ∈ t.place.toList) :
    below t.place (pj t.mask h N) ≤ hs.length ∧ (t.put (pj t.mask h N)).2 = below t.place (pj t.mask h N) ∧ TOk (t.put (pj t.mask h N)).1 (hs.take (below t.place (pj t.mask h N)) ++ h :: hs.drop (below t.place (pj t.mask h N))) := by
  obtain ⟨b0, b1, b2⟩ := below_spec (pj t.mask h N) T.srt
  have bl : below t.place (pj t.mask h N) ≤ t.place.toList.length := by rw [Array.length_toList]; exact b0
  have bh : below t.place (pj t.mask h N) ≤ hs.length := by rw [← T.len]; exact b0
  have hle := pj_le t.mask h N
  have ed : (t.put (pj t.mask h N)).1.dummies = #[] := by
    show (if has t.dummies _ = true then _ else t.dummies) = _
    rw [T.dm, if_neg (by unfold has; simp)]
  have ep : (t.put (pj t.mask h N)).1.place.toList = t.place.toList.take (below t.place (pj t.mask h N)) ++ pj t.mask h N :: t.place.toList.drop (below t.place (pj t.mask h N)) := toList_ins _ _ _ b0
  generalize hjn : pj t.mask h N = jn at *
  refine ⟨bh, rfl, ed, ?_, ?_, fun j hj => ?_, fun i j h' hi hh => ?_⟩
  · rw [← Array.length_toList, ep, List.length_append, List.length_append, List.length_cons, List.length_cons, List.length_take, List.length_take, List.length_drop, List.length_drop, Array.length_toList, T.len]
  · rw [ep]
    refine List.pairwise_append.mpr ⟨T.srt.sublist (List.take_sublist _ _), List.pairwise_cons.mpr ⟨fun y hy => ?_, T.srt.sublist (List.drop_sublist _ _)⟩, fun x hx y hy => ?_⟩
    · obtain ⟨i, hi⟩ := List.mem_iff_getElem?.mp hy
      rw [List.getElem?_drop] at hi
      have := b2 _ y (by omega) hi
      have hne : y ≠ jn := fun e => hN (e ▸ List.mem_of_getElem? hi)
      omega
    · have hx1 : x < jn := by
        obtain ⟨i, hi⟩ := List.mem_iff_getElem?.mp hx
        rw [List.getElem?_take] at hi
        split at hi
        · exact b1 i x ‹_› hi
        · cases hi
      rcases List.mem_cons.mp hy with rfl | hy
      · exact hx1
      · obtain ⟨i, hi⟩ := List.mem_iff_getElem?.mp hy
        rw [List.getElem?_drop] at hi
        have := b2 _ y (by omega) hi
        omega
  · rw [ep] at hj
    rcases mem_ins.mp hj with rfl | hj
    · exact hle
    · exact T.le j hj
  · show ∃ n, pj t.mask h' n = j ∧ ∀ m, m < n → pj t.mask h' m ∈ (t.put jn).1.place.toList
    rw [ep] at hi ⊢
    rw [ins_get bl] at hi
    rw [ins_get bh] at hh
    have old : ∀ i', t.place.toList[i']? = some j → hs[i']? = some h' → ∃ n, pj t.mask h' n = j ∧ ∀ m, m < n → pj t.mask h' m ∈ t.place.toList.take (below t.place jn) ++ jn :: t.place.toList.drop (below t.place jn) := fun i' q1 q2 => by
      obtain ⟨n, a, b⟩ := T.reach i' j h' q1 q2
      exact ⟨n, a, fun m hm => mem_ins.mpr (.inr (b m hm))⟩
    split at hi
    · rename_i q
      rw [if_pos q] at hh
      exact old i hi hh
    · rename_i q
      rw [if_neg q] at hh
      split at hi
      · rename_i q2
        rw [if_pos q2] at hh
        cases hi
        cases hh
        exact ⟨N, hjn, fun m hm => mem_ins.mpr (.inr (hB m hm))⟩
      · rename_i q2
        rw [if_neg q2] at hh
        exact old _ hi hh
end Ow
set_option linter.all false
namespace Ow
open PySem PySem.SetTable
def occ (owner : Array (Option Nat)) (j : Nat) : Prop := ∃ i, owner[j]? = some (some i)
structure OI (mask : Nat) (H : List Int) (owner : Array (Option Nat)) (c : Nat) : Prop where
  size : owner.size = mask + 1
  at_ : ∀ (j i : Nat), owner[j]? = some (some i) → i < c ∧ ∃ h, H[i]? = some h ∧ ∃ n, pj mask h n = j ∧ ∀ m, m < n → occ owner (pj mask h m)
  all : ∀ i, i < c → ∃ j : Nat, owner[j]? = some (some i)
  one : ∀ (j j' i : Nat), owner[j]? = some (some i) → owner[j']? = some (some i) → j = j'
theorem none_iff {owner : Array (Option Nat)} {j : Nat} : (owner.getD j (some 0)).isNone = true ↔ owner[j]? = some none := by
  rw [Array.getD_eq_getD_getElem?]
  cases h : owner[j]? with
  | none => simp
  | some x => cases x <;> simp
theorem occ_iff {owner : Array (Option Nat)} {j : Nat} (hj : j < owner.size) : occ owner j ↔ ¬ owner[j]? = some none := by
  unfold occ
  rw [Array.getElem?_eq_getElem hj]
  cases owner[j] with
  | none => simp
  | some x => simp
theorem runEnd_le {mask i : Nat} (h : i ≤ mask) : runEnd mask i ≤ mask := by
  unfold runEnd
  split <;> omega
theorem le_runEnd (mask i : Nat) : i ≤ runEnd mask i := by
  unfold runEnd
  split <;> omega
theorem free_ok {mask : Nat} {owner : Array (Option Nat)} (hz : owner.size = mask + 1) : ∀ (f i p : Nat), i ≤ mask → (∃ q, q < f ∧ owner[(lp mask q (i, p)).1]? = some none) →
    ∃ j n, layClean.free mask owner f i p = some j ∧ owner[j]? = some none ∧ (chn mask n (stP mask i p)).j = j ∧ ∀ m, m < n → occ owner (chn mask m (stP mask i p)).j
  | 0, i, p, _, ⟨q, hq, _⟩ => absurd hq (Nat.not_lt_zero _)
  | f + 1, i, p, hi, ⟨q, hq, ho⟩ => by
    unfold layClean.free
    have r1 := runEnd_le hi
    have r2 := le_runEnd mask i
    have at_ : ∀ k, k ≤ runEnd mask i - i → (chn mask k (stP mask i p)).j = i + k := fun k hk => by
      rw [chn_run mask k (stP mask i p) hk]
      rfl
    cases hf : (List.range (runEnd mask i + 1 - i)).find? (fun k => (owner.getD (i + k) (some 0)).isNone) with
    | some k =>
      obtain ⟨h1, h2, h3⟩ := List.find?_range_eq_some.mp hf
      have hk : k ≤ runEnd mask i - i := by have := List.mem_range.mp h2; omega
      refine ⟨i + k, k, rfl, none_iff.mp h1, at_ k hk, fun m hm => ?_⟩
      rw [at_ m (by omega), occ_iff (by omega)]
      intro z
      have := h3 m hm
      rw [none_iff.mpr z] at this
      cases this
    | none =>
      have h1 := List.find?_range_eq_none.mp hf
      have run : ∀ m, m ≤ runEnd mask i - i → occ owner (chn mask m (stP mask i p)).j := fun m hm => by
        rw [at_ m hm, occ_iff (by omega)]
        intro z
        have := h1 m (by omega)
        rw [none_iff.mpr z] at this
        cases this
      cases q with
      | zero =>
        have h0 := run 0 (Nat.zero_le _)
        rw [occ_iff (by show i < owner.size; omega)] at h0
        exact absurd ho h0
      | succ q =>
        obtain ⟨j, n, a, b, c, d⟩ := free_ok hz f (leap mask i p).1 (leap mask i p).2 (Nat.le_of_lt_succ (Nat.mod_lt _ (Nat.succ_pos _))) ⟨q, by omega, ho⟩
        refine ⟨j, runEnd mask i - i + 1 + n, a, b, ?_, fun m hm => ?_⟩
        · rw [chn_add, chn_next]
          exact c
        · by_cases z : m ≤ runEnd mask i - i
          · exact run m z
          · rw [show m = runEnd mask i - i + 1 + (m - (runEnd mask i - i + 1)) by omega, chn_add, chn_next]
            exact d _ (by omega)
def stepL (mask : Nat) (acc : Option (Array (Option Nat) × Nat)) (h : Int) : Option (Array (Option Nat) × Nat) :=
  acc.bind fun x => (layClean.free mask x.1 (turns mask) (SetTable.bits h % (mask + 1)) (SetTable.bits h)).bind fun j => some (x.1.setIfInBounds j (some x.2), x.2 + 1)
theorem layClean_eq (mask : Nat) (hashes : Array Int) : layClean mask hashes = (hashes.toList.foldl (stepL mask) (some (Array.replicate (mask + 1) none, 0))).map (·.1) := by
  unfold layClean
  rw [← Array.foldl_toList]
  rfl
theorem set_get {owner : Array (Option Nat)} {j : Nat} {v : Option Nat} (hj : j < owner.size) (j' : Nat) : (owner.setIfInBounds j v)[j']? = if j' = j then some v else owner[j']? := by
  rw [Array.getElem?_setIfInBounds]
  by_cases h : j = j'
  · subst h
    simp [hj]
  · rw [if_neg h, if_neg (fun z => h z.symm)]
theorem lay_fold {mask k : Nat} (hm : mask + 1 = 2 ^ k) {H : List Int} (hl : H.length ≤ mask) : ∀ (rest done : List Int) (owner : Array (Option Nat)), H = done ++ rest → OI mask H owner done.length →
    ∃ owner', rest.foldl (stepL mask) (some (owner, done.length)) = some (owner', H.length) ∧ OI mask H owner' H.length
  | [], done, owner, e, O => by
    rw [List.append_nil] at e
    subst e
    exact ⟨owner, rfl, O⟩
  | h :: rest, done, owner, e, O => by
    have hc : done.length < H.length := by rw [e, List.length_append, List.length_cons]; omega
    have hH : H[done.length]? = some h := by rw [e, List.getElem?_append_right (Nat.le_refl _), Nat.sub_self]; rfl
    have ex : ∃ s : Nat, s ≤ mask ∧ owner[s]? = some none := by
      refine Classical.byContradiction fun q => ?_
      have oc : ∀ s, s < mask + 1 → ∃ i : Nat, owner[s]? = some (some i) := fun s hs => (occ_iff (by rw [O.size]; exact hs)).mpr fun z => q ⟨s, by omega, z⟩
      have nd : ((List.range (mask + 1)).map fun s => ((owner[s]?).getD none).getD 0).Nodup := by
        refine List.pairwise_map.mpr (List.Pairwise.imp_of_mem (fun {a b} ha hb ne z => ne ?_) List.nodup_range)
        obtain ⟨x, hx⟩ := oc a (List.mem_range.mp ha)
        obtain ⟨y, hy⟩ := oc b (List.mem_range.mp hb)
        rw [hx, hy] at z
        have z : x = y := z
        subst z
        exact O.one a b x hx hy
      have := length_sub (m := List.range done.length) nd fun x hx => by
        obtain ⟨s, hs, rfl⟩ := List.mem_map.mp hx
        obtain ⟨i, hi⟩ := oc s (List.mem_range.mp hs)
        rw [hi]
        exact List.mem_range.mpr (O.at_ s i hi).1
      rw [List.length_map, List.length_range, List.length_range] at this
      omega
    obtain ⟨s, hs1, hs2⟩ := ex
    obtain ⟨q, hq, eq⟩ := lp_all hm (i := SetTable.bits h % (mask + 1)) (p := SetTable.bits h) (Nat.le_of_lt_succ (Nat.mod_lt _ (Nat.succ_pos _))) (bits_lt h) hs1
    obtain ⟨j, n, a, b, c, d⟩ := free_ok O.size (turns mask) (SetTable.bits h % (mask + 1)) (SetTable.bits h) (Nat.le_of_lt_succ (Nat.mod_lt _ (Nat.succ_pos _))) ⟨q, hq, by rw [eq]; exact hs2⟩
    have hj : j < owner.size := (Array.getElem?_eq_some_iff.mp b).1
    have mono : ∀ y, occ owner y → occ (owner.setIfInBounds j (some done.length)) y := fun y ⟨i, hi⟩ => by
      unfold occ
      rw [set_get hj]
      by_cases z : y = j
      · exact ⟨_, if_pos z⟩
      · exact ⟨i, by rw [if_neg z]; exact hi⟩
    have O' : OI mask H (owner.setIfInBounds j (some done.length)) (done ++ [h]).length := by
      rw [List.length_append, List.length_singleton]
      refine ⟨by rw [Array.size_setIfInBounds]; exact O.size, fun y i hy => ?_, fun i hi => ?_, fun y y' i hy hy' => ?_⟩
      · rw [set_get hj] at hy
        split at hy
        · rename_i z
          cases hy
          exact ⟨Nat.lt_succ_self _, h, hH, n, by rw [z]; exact c, fun m hm => mono _ (d m hm)⟩
        · obtain ⟨h1, x, h2, n', h3, h4⟩ := O.at_ y i hy
          exact ⟨by omega, x, h2, n', h3, fun m hm => mono _ (h4 m hm)⟩
      · by_cases z : i = done.length
        · exact ⟨j, by rw [set_get hj, if_pos rfl, z]⟩
        · obtain ⟨y, hy⟩ := O.all i (by omega)
          refine ⟨y, ?_⟩
          rw [set_get hj, if_neg (fun w => ?_)]
          · exact hy
          · rw [w, b] at hy
            cases hy
      · rw [set_get hj] at hy hy'
        split at hy
        · rename_i z
          cases hy
          split at hy'
          · rename_i z'
            rw [z, z']
          · exact absurd (O.at_ y' _ hy').1 (Nat.lt_irrefl _)
        · split at hy'
          · cases hy'
            exact absurd (O.at_ y _ hy).1 (Nat.lt_irrefl _)
          · exact O.one y y' i hy hy'
    obtain ⟨owner', x, y⟩ := lay_fold hm hl rest (done ++ [h]) _ (by rw [e, List.append_assoc]; rfl) O'
    refine ⟨owner', ?_, y⟩
    rw [List.foldl_cons]
    have : stepL mask (some (owner, done.length)) h = some (owner.setIfInBounds j (some done.length), (done ++ [h]).length) := by
      unfold stepL
      rw [List.length_append, List.length_singleton]
      show (layClean.free mask owner (turns mask) (SetTable.bits h % (mask + 1)) (SetTable.bits h)).bind _ = _
      rw [a]
      rfl
    rw [this]
    exact x
theorem pick_get {α : Type} {l : List α} : ∀ {os : List Nat}, (∀ i ∈ os, i < l.length) → (os.filterMap (l[·]?)).length = os.length ∧ ∀ p : Nat, (os.filterMap (l[·]?))[p]? = (os[p]?).bind (l[·]?)
  | [], _ => ⟨rfl, fun p => by simp⟩
  | i :: os, h => by
    have hi := h i List.mem_cons_self
    obtain ⟨h1, h2⟩ := pick_get (l := l) (os := os) fun i hi => h i (List.mem_cons_of_mem _ hi)
    have e : l[i]? = some l[i] := List.getElem?_eq_getElem hi
    rw [List.filterMap_cons, e]
    refine ⟨by simp [h1], fun p => ?_⟩
    cases p with
    | zero => simp [e]
    | succ p => simpa using h2 p
theorem laid_ok {mask k : Nat} (hm : mask + 1 = 2 ^ k) (H : Array Int) (hl : H.size ≤ mask) (finger moves : Nat) (led plain : Bool) :
    ∃ t order, laid mask finger moves led plain H = some (t, order) ∧ t.mask = mask ∧ order.toList.Nodup ∧ (∀ i, i ∈ order.toList ↔ i < H.size) ∧ TOk t (order.toList.filterMap (H.toList[·]?)) := by
  have st : OI mask H.toList (Array.replicate (mask + 1) none) ([] : List Int).length := by
    refine ⟨Array.size_replicate, fun j i h => ?_, fun i h => absurd h (Nat.not_lt_zero _), fun j j' i h => ?_⟩ <;>
    · rw [Array.getElem?_replicate] at h
      split at h <;> cases h
  obtain ⟨owner, e, O⟩ := lay_fold hm (H := H.toList) (by rw [Array.length_toList]; exact hl) H.toList [] _ rfl st
  have el : layClean mask H = some owner := by
    rw [layClean_eq]
    have e : H.toList.foldl (stepL mask) (some (Array.replicate (mask + 1) none, 0)) = _ := e
    rw [e]
    rfl
  have gd : ∀ j, owner.getD j none = (owner[j]?).getD none := fun j => Array.getD_eq_getD_getElem? ..
  have lv : ∀ z : Nat × Nat, z ∈ ((List.range (mask + 1)).filterMap fun j => (owner.getD j none).map (j, ·)) ↔ owner[z.1]? = some (some z.2) := fun z => by
    rw [List.mem_filterMap]
    constructor
    · rintro ⟨j, hj, h⟩
      rw [gd] at h
      cases q : owner[j]? with
      | none => rw [q] at h; cases h
      | some x =>
        rw [q] at h
        cases x with
        | none => cases h
        | some i =>
          cases h
          exact q
    · intro h
      have := (Array.getElem?_eq_some_iff.mp h).1
      rw [O.size] at this
      exact ⟨z.1, List.mem_range.mpr this, by rw [gd, h]; rfl⟩
  have pw : ((List.range (mask + 1)).filterMap fun j => (owner.getD j none).map (j, ·)).Pairwise (fun a b => a.1 < b.1) := by
    refine List.pairwise_filterMap.mpr (List.Pairwise.imp_of_mem (fun {a b} ha hb hlt x hx y hy => ?_) List.pairwise_lt_range)
    cases q : owner.getD a none with
    | none => rw [q] at hx; cases hx
    | some i =>
      rw [q] at hx
      cases hx
      cases q2 : owner.getD b none with
      | none => rw [q2] at hy; cases hy
      | some i' =>
        rw [q2] at hy
        cases hy
        exact hlt
  have ed : laid mask finger moves led plain H = some ({ mask, place := (((List.range (mask + 1)).filterMap fun j => (owner.getD j none).map (j, ·)).map (·.1)).toArray, dummies := #[], finger, led, moves, plain }, (((List.range (mask + 1)).filterMap fun j => (owner.getD j none).map (j, ·)).map (·.2)).toArray) := by
    unfold laid
    rw [el]
    rfl
  generalize (List.range (mask + 1)).filterMap (fun j => (owner.getD j none).map (j, ·)) = live at lv pw ed
  have om : ∀ i, i ∈ live.map (·.2) ↔ i < H.size := fun i => by
    rw [List.mem_map]
    constructor
    · rintro ⟨z, hz, rfl⟩
      have := (O.at_ _ _ ((lv z).mp hz)).1
      rw [Array.length_toList] at this
      exact this
    · intro h
      obtain ⟨j, hj⟩ := O.all i (by rw [Array.length_toList]; exact h)
      exact ⟨(j, i), (lv (j, i)).mpr hj, rfl⟩
  obtain ⟨k1, k2⟩ := pick_get (l := H.toList) (os := live.map (·.2)) fun i hi => by rw [Array.length_toList]; exact (om i).mp hi
  refine ⟨_, _, ed, rfl, ?_, om, rfl, ?_, ?_, fun j hj => ?_, fun p j h hp hh => ?_⟩
  · refine List.pairwise_map.mpr (List.Pairwise.imp_of_mem (fun {a b} ha hb hlt z => ?_) pw)
    have h1 := (lv a).mp ha
    have h2 := (lv b).mp hb
    rw [← z] at h2
    have := O.one _ _ _ h1 h2
    omega
  · rw [k1]
    simp
  · exact List.pairwise_map.mpr pw
  · obtain ⟨z, hz, rfl⟩ := List.mem_map.mp hj
    have := (Array.getElem?_eq_some_iff.mp ((lv z).mp hz)).1
    rw [O.size] at this
    exact Nat.le_of_lt_succ this
  · have hp : (live.map (·.1))[p]? = some j := hp
    have hh : ((live.map (·.2)).filterMap (H.toList[·]?))[p]? = some h := hh
    rw [List.getElem?_map] at hp
    rw [k2, List.getElem?_map] at hh
    cases q : live[p]? with
    | none => rw [q] at hp; cases hp
    | some z =>
      rw [q] at hp hh
      have hp : z.1 = j := Option.some.inj hp
      have hh : H.toList[z.2]? = some h := hh
      obtain ⟨h1, x, h2, n, h3, h4⟩ := O.at_ z.1 z.2 ((lv z).mp (List.mem_of_getElem? q))
      rw [hh] at h2
      cases h2
      refine ⟨n, by rw [← hp]; exact h3, fun m hm => ?_⟩
      obtain ⟨i, hi⟩ := h4 m hm
      exact List.mem_map.mpr ⟨(_, i), (lv (_, i)).mpr hi, rfl⟩
end Ow
set_option linter.unusedVariables false
namespace Ow
open Rd02 (Gram Node Use May Result Column)
section
variable {α : Type} {O : Ord α}
structure Sys (O : Ord α) (n : Nat) (step : Nat → List α → α) (lfp : List α) : Prop where
  len : lfp.length = n
  mono : ∀ j l m, j < n → LeL O l m → O.le (step j l) (step j m)
  fix : ∀ j x, lfp[j]? = some x → step j lfp = x
  uniq : ∀ l, l.length = n → (∀ j x, l[j]? = some x → step j l = x) → LeL O l lfp → l = lfp
structure Rising (O : Ord α) (n : Nat) (step : Nat → List α → α) (lfp l : List α) : Prop where
  len : l.length = n
  up : ∀ j x, l[j]? = some x → O.le x (step j l)
  low : LeL O l lfp
theorem LeL.set {l : List α} : ∀ {i : Nat} {x y : α}, l[i]? = some x → O.le x y → LeL O l (l.set i y) := by
  induction l with
  | nil => intro i x y h; simp at h
  | cons a l ih =>
    intro i x y h hle
    cases i with
    | zero => cases h; exact ⟨hle, LeL.refl l⟩
    | succ i => exact ⟨O.refl a, ih (by simpa using h) hle⟩
variable {n : Nat} {step : Nat → List α → α} {lfp l : List α}
theorem Rising.le (R : Rising O n step lfp l) {i : Nat} {x : α} (h : l[i]? = some x) : LeL O l (l.set i (step i l)) := LeL.set h (R.up i x h)
theorem Rising.next (S : Sys O n step lfp) (R : Rising O n step lfp l) {i : Nat} {x : α} (h : l[i]? = some x) : Rising O n step lfp (l.set i (step i l)) := by
  have hi : i < l.length := (List.getElem?_eq_some_iff.mp h).1
  have hin : i < n := by rw [← R.len]; exact hi
  have up := R.le h
  refine ⟨by rw [List.length_set]; exact R.len, fun j y hj => ?_, LeL.of_get (by rw [List.length_set, R.len, S.len]) fun j a b ha hb => ?_⟩
  · have hjn : j < n := by
      have := (List.getElem?_eq_some_iff.mp hj).1
      rw [List.length_set, R.len] at this
      exact this
    by_cases q : j = i
    · subst q
      rw [List.getElem?_set_self hi] at hj
      cases hj
      exact S.mono j _ _ hjn up
    · rw [List.getElem?_set_ne (fun z => q z.symm)] at hj
      exact O.trans _ _ _ (R.up j y hj) (S.mono j _ _ hjn up)
  · by_cases q : j = i
    · subst q
      rw [List.getElem?_set_self hi] at ha
      cases ha
      have := S.mono j _ _ hin R.low
      rw [S.fix j b hb] at this
      exact this
    · rw [List.getElem?_set_ne (fun z => q z.symm)] at ha
      exact R.low.get ha hb
theorem Rising.rk_lt (R : Rising O n step lfp l) {i : Nat} {x : α} (h : l[i]? = some x) (ne : step i l ≠ x) : rk O l < rk O (l.set i (step i l)) := by
  have hi : i < l.length := (List.getElem?_eq_some_iff.mp h).1
  have up := R.le h
  by_cases q : rk O (l.set i (step i l)) ≤ rk O l
  · have e := up.anti q
    have : (l.set i (step i l))[i]? = some x := by rw [← e]; exact h
    rw [List.getElem?_set_self hi] at this
    exact absurd (Option.some.inj this) ne
  · omega
theorem set_same {l : List α} {i : Nat} {x : α} (h : l[i]? = some x) : l.set i x = l := by
  obtain ⟨hi, e⟩ := List.getElem?_eq_some_iff.mp h
  rw [← e]
  exact List.set_getElem_self hi
theorem Rising.done (S : Sys O n step lfp) (R : Rising O n step lfp l) (h : ∀ j x, l[j]? = some x → step j l = x) : l = lfp := S.uniq l R.len h R.low
theorem Rising.room (R : Rising O n step lfp l) : rk O l ≤ O.top * n := by
  have := rk_bound (O := O) l
  rw [R.len] at this
  exact this
end
def mayStep (G : Gram) (j : Nat) (l : List May) : May := Rd02.mayBy G l (Rd02.node G j)
def goodStep (G : Gram) (j : Nat) (l : List Bool) : Bool := Rd02.goodBy G (Rd02.mays G) l (Rd02.node G j)
theorem round_of {α : Type} {G : Gram} {g : Node → α} {l : List α} (hl : l.length = G.nodes.length) (h : ∀ j x, l[j]? = some x → g (Rd02.node G j) = x) : G.nodes.map g = l := by
  refine List.ext_getElem? fun j => ?_
  rw [List.getElem?_map]
  by_cases q : j < G.nodes.length
  · rw [node_at q]
    have : l[j]? = some l[j] := List.getElem?_eq_getElem (by omega)
    rw [this]
    exact congrArg some (h j _ this)
  · rw [List.getElem?_eq_none_iff.mpr (by omega), List.getElem?_eq_none_iff.mpr (by omega)]
    rfl
theorem at_round {α : Type} {G : Gram} {g : Node → α} {l : List α} (h : G.nodes.map g = l) {j : Nat} {x : α} (hx : l[j]? = some x) : g (Rd02.node G j) = x := by
  rw [← h, List.getElem?_map] at hx
  by_cases q : j < G.nodes.length
  · rw [node_at q] at hx
    exact Option.some.inj hx
  · rw [List.getElem?_eq_none_iff.mpr (by omega)] at hx
    cases hx
theorem may_sys (G : Gram) : Sys mayOrd G.nodes.length (mayStep G) (Rd02.mays G) :=
  ⟨mays_length G, fun j l m _ h => may_mono G h _, fun j x h => at_round (g := Rd02.mayBy G (Rd02.mays G)) (mays_fix G) h, fun l hl h hle => mays_unique G (round_of (g := Rd02.mayBy G l) hl h) hle⟩
theorem good_sys (G : Gram) : Sys boolOrd G.nodes.length (goodStep G) (Rd02.goods G) :=
  ⟨goods_length G, fun j l m _ h => good_mono G _ h _, fun j x h => at_round (g := Rd02.goodBy G (Rd02.mays G) (Rd02.goods G)) (goods_fix G) h, fun l hl h hle => goods_unique G (round_of (g := Rd02.goodBy G (Rd02.mays G) l) hl h) hle⟩
theorem rep_map {α β : Type} (l : List α) (x : β) : List.replicate l.length x = l.map fun _ => x := by
  induction l with
  | nil => rfl
  | cons a l ih => rw [List.length_cons, List.replicate_succ, ih]; rfl
theorem may_start (G : Gram) : Rising mayOrd G.nodes.length (mayStep G) (Rd02.mays G) (List.replicate G.nodes.length Rd02.never) := by
  refine ⟨List.length_replicate, fun j x h => ?_, ?_⟩
  · rw [List.getElem?_replicate] at h
    split at h
    · cases h
      exact ⟨fun z => Bool.noConfusion z, fun z => Bool.noConfusion z, fun z => Bool.noConfusion z⟩
    · cases h
  · rw [rep_map]
    exact never_le G (mays_length G)
theorem good_start (G : Gram) : Rising boolOrd G.nodes.length (goodStep G) (Rd02.goods G) (List.replicate G.nodes.length false) := by
  refine ⟨List.length_replicate, fun j x h => ?_, ?_⟩
  · rw [List.getElem?_replicate] at h
    split at h
    · cases h
      exact fun z => Bool.noConfusion z
    · cases h
  · rw [rep_map]
    exact false_le G (goods_length G)
def bits (m : May) : Nat := m.none_.toNat + 2 * m.some_.toNat + 4 * m.fails.toNat
theorem bits_inj : ∀ {a b : May}, bits a = bits b → a = b := by
  rintro ⟨a1, a2, a3⟩ ⟨b1, b2, b3⟩
  cases a1 <;> cases a2 <;> cases a3 <;> cases b1 <;> cases b2 <;> cases b3 <;> simp [bits]
end Ow
set_option linter.unusedVariables false
namespace Ow
open Rd02 (Gram Node Use May Result Column)
def isRuleI (r : Int) : Bool := decide (0 ≤ r) && decide (r < 16)
def hasI (n : Nat) (z : Int) : Bool := decide (0 ≤ z) && decide (z < (n : Int))
def fitsI (n : Nat) (k a b : Int) : Bool :=
  if k = 0 ∨ k = 1 then true
  else if k = 2 then decide (0 ≤ a) && (decide (a ≤ b) && decide (b ≤ 255))
  else if k = 3 ∨ k = 4 then hasI n a && hasI n b
  else if k = 5 ∨ k = 6 then hasI n a
  else decide (k = 7) && isRuleI a
structure NodeRel (x : Node) (k a b : Int) : Prop where
  kind : k = (x.kind : Int)
  two : x.kind = 2 ∨ x.kind = 3 ∨ x.kind = 4 → a = (x.a : Int) ∧ b = (x.b : Int)
  one : x.kind = 5 ∨ x.kind = 6 ∨ x.kind = 7 → a = (x.a : Int)
structure GOk (G : Gram) : Prop extends Wf G where
  seven : ∀ (e : Nat) (x : Node), G.nodes[e]? = some x → x.kind = 7 → x.a < 16
  small : G.nodes.length ≤ 64
  rlen : G.rules.length = 16
  rok : ∀ (r e : Nat), G.rules[r]? = some e → e = 64 ∨ e < G.nodes.length
theorem gok_start : GOk ({} : Gram) where
  kind := fun e x h => by simp at h
  two := fun e x h => by simp at h
  one := fun e x h => by simp at h
  seven := fun e x h => by simp at h
  small := by simp
  rlen := by simp
  rok := fun r e h => by
    left
    have h : (List.replicate 16 64)[r]? = some e := h
    rw [List.getElem?_replicate] at h
    split at h
    · cases h; rfl
    · cases h
theorem fits_none {G : Gram} {k a b : Int} (h : fitsI G.nodes.length k a b = false) : Rd02.nodeOf G k a b = none := by
  unfold fitsI at h
  unfold Rd02.nodeOf
  split at h
  · cases h
  rename_i h0
  rw [if_neg h0]
  split at h
  · rename_i h2
    rw [if_neg, if_neg (by omega), if_neg (by omega), if_neg (by omega)]
    intro z
    simp at h
    omega
  rename_i h2
  rw [if_neg (by omega)]
  split at h
  · rename_i h34
    rw [if_neg, if_neg (by omega), if_neg (by omega)]
    rintro ⟨_, z1, z2⟩
    have : hasI G.nodes.length a = true := z1
    rw [this] at h
    have : hasI G.nodes.length b = true := z2
    rw [this] at h
    cases h
  rename_i h34
  rw [if_neg (by omega)]
  split at h
  · rename_i h56
    rw [if_neg, if_neg (by omega)]
    rintro ⟨_, z1⟩
    have : hasI G.nodes.length a = true := z1
    rw [this] at h
    cases h
  rename_i h56
  rw [if_neg (by omega), if_neg]
  rintro ⟨z1, z2⟩
  have : isRuleI a = true := z2
  rw [this, z1] at h
  cases h
theorem fits_some {G : Gram} {k a b : Int} (h : fitsI G.nodes.length k a b = true) : ∃ x, Rd02.nodeOf G k a b = some x ∧ NodeRel x k a b ∧ x.kind ≤ 7 ∧ (x.kind = 3 ∨ x.kind = 4 → x.a < G.nodes.length ∧ x.b < G.nodes.length) ∧
    (x.kind = 5 ∨ x.kind = 6 → x.a < G.nodes.length) ∧ (x.kind = 7 → x.a < 16) := by
  unfold fitsI at h
  unfold Rd02.nodeOf
  have hb : ∀ {z : Int}, hasI G.nodes.length z = true → 0 ≤ z ∧ z.toNat < G.nodes.length := fun {z} q => by
    unfold hasI at q
    simp at q
    omega
  split at h
  · rename_i h0
    rw [if_pos h0]
    have hk : k.toNat = 0 ∨ k.toNat = 1 := by omega
    refine ⟨_, rfl, ⟨by show k = ((k.toNat : Nat) : Int); omega, ?_, ?_⟩, ?_, ?_, ?_, ?_⟩ <;> simp only <;> intros <;> omega
  rename_i h0
  rw [if_neg h0]
  split at h
  · rename_i h2
    simp at h
    rw [if_pos (by omega)]
    refine ⟨_, rfl, ⟨h2, fun _ => ⟨?_, ?_⟩, ?_⟩, ?_, ?_, ?_, ?_⟩ <;> simp only <;> intros <;> omega
  rename_i h2
  rw [if_neg (by omega)]
  split at h
  · rename_i h34
    rw [Bool.and_eq_true] at h
    have h1 := hb h.1
    have h2 := hb h.2
    rw [if_pos ⟨h34, h.1, h.2⟩]
    refine ⟨_, rfl, ⟨?_, fun _ => ⟨?_, ?_⟩, ?_⟩, ?_, ?_, ?_, ?_⟩ <;> simp only <;> intros <;> omega
  rename_i h34
  rw [if_neg (by omega)]
  split at h
  · rename_i h56
    have h1 := hb h
    rw [if_pos ⟨h56, h⟩]
    refine ⟨_, rfl, ⟨?_, ?_, ?_⟩, ?_, ?_, ?_, ?_⟩ <;> simp only <;> intros <;> omega
  rename_i h56
  rw [Bool.and_eq_true] at h
  have hk : k = 7 := of_decide_eq_true h.1
  have ha : isRuleI a = true := h.2
  have ha2 := ha
  unfold isRuleI at ha2
  simp at ha2
  rw [if_neg (by omega), if_pos ⟨hk, ha⟩]
  refine ⟨_, rfl, ⟨?_, ?_, ?_⟩, ?_, ?_, ?_, ?_⟩ <;> simp only <;> intros <;> omega
def addN (G : Gram) (x : Node) : Gram := { G with nodes := G.nodes ++ [x] }
theorem gok_add {G : Gram} (g : GOk G) {x : Node} (hl : G.nodes.length < 64) (h7 : x.kind ≤ 7) (h34 : x.kind = 3 ∨ x.kind = 4 → x.a < G.nodes.length ∧ x.b < G.nodes.length) (h56 : x.kind = 5 ∨ x.kind = 6 → x.a < G.nodes.length) (hr : x.kind = 7 → x.a < 16) : GOk (addN G x) := by
  have at_ : ∀ {e : Nat} {y : Node}, (addN G x).nodes[e]? = some y → G.nodes[e]? = some y ∨ y = x := fun {e y} h => by
    have h : (G.nodes ++ [x])[e]? = some y := h
    by_cases q : e < G.nodes.length
    · rw [List.getElem?_append_left q] at h
      exact .inl h
    · rw [List.getElem?_append_right (by omega)] at h
      cases z : e - G.nodes.length with
      | zero => rw [z] at h; exact .inr (Option.some.inj h).symm
      | succ n => rw [z] at h; simp at h
  have len : (addN G x).nodes.length = G.nodes.length + 1 := by show (G.nodes ++ [x]).length = _; simp
  refine ⟨⟨fun e y h => ?_, fun e y h => ?_, fun e y h => ?_⟩, fun e y h => ?_, by omega, g.rlen, fun r e h => ?_⟩
  · rcases at_ h with h | rfl
    · exact g.kind e y h
    · exact h7
  · rw [len]
    intro k
    rcases at_ h with h | rfl
    · have := g.two e y h k; omega
    · have := h34 k; omega
  · rw [len]
    intro k
    rcases at_ h with h | rfl
    · have := g.one e y h k; omega
    · have := h56 k; omega
  · intro k
    rcases at_ h with h | rfl
    · exact g.seven e y h k
    · exact hr k
  · rw [len]
    have := g.rok r e h
    omega
def setR (G : Gram) (r e : Nat) : Gram := { G with rules := G.rules.set r e }
theorem gok_set {G : Gram} (g : GOk G) {r e : Nat} (he : e < G.nodes.length) : GOk (setR G r e) := by
  refine ⟨⟨g.kind, g.two, g.one⟩, g.seven, g.small, by show (G.rules.set r e).length = 16; rw [List.length_set]; exact g.rlen, fun r' e' h => ?_⟩
  have h : (G.rules.set r e)[r']? = some e' := h
  by_cases q : r' = r
  · subst q
    by_cases q2 : r' < G.rules.length
    · rw [List.getElem?_set_self q2] at h
      cases h
      exact .inr he
    · rw [List.getElem?_eq_none_iff.mpr (by rw [List.length_set]; omega)] at h
      cases h
  · rw [List.getElem?_set_ne (fun z => q z.symm)] at h
    exact g.rok r' e' h
def ruleO (G : Gram) (e : Nat) : Option Nat := if e < G.nodes.length then some e else none
theorem bodyOf_eq {G : Gram} {r e : Nat} (h : G.rules[r]? = some e) : Rd02.bodyOf G r = ruleO G e := by
  unfold Rd02.bodyOf
  rw [h]
  rfl
end Ow
set_option linter.unusedVariables false
namespace Ow
open Rd02 (Gram Node Use May Result Column)
inductive Cl where
  | node (k a b : Int)
  | rule (r e : Int)
  | sound
  | take (r : Int) (t : List Int)
  | uses (r m : Int) (t : List Int)
  | asked (r : Int) (t : List Int)
def Cl.flat : Cl → List Int
  | .node k a b => [1, k, a, b]
  | .rule r e => [2, r, e]
  | .sound => [3]
  | .take r t => 4 :: r :: (t.length : Int) :: t
  | .uses r m t => 5 :: r :: m :: (t.length : Int) :: t
  | .asked r t => 6 :: r :: (t.length : Int) :: t
def Cl.spec : Cl → Rd02.Call
  | .node k a b => .node k a b
  | .rule r e => .rule r e
  | .sound => .sound
  | .take r t => .take r (Rd02Neutral.nats t) (t.length : Int)
  | .uses r m t => .uses r (Rd02Neutral.nats t) (t.length : Int) m
  | .asked r t => .asked r (Rd02Neutral.nats t) (t.length : Int)
def Cl.ans (s : Rd02.Abs) (d : Cl) : List Int := (Rd02.does s d.spec).2.value :: Rd02Neutral.ints (Rd02.does s d.spec).2.numbers
def Cl.next (s : Rd02.Abs) (d : Cl) : Rd02.Abs := (Rd02.does s d.spec).1
def Cl.ok : Cl → Prop
  | .take _ t => t.length ≤ 40 ∧ ∀ z ∈ t, 0 ≤ z ∧ z < 256
  | .uses _ _ t => t.length ≤ 40 ∧ ∀ z ∈ t, 0 ≤ z ∧ z < 256
  | .asked _ t => t.length ≤ 40 ∧ ∀ z ∈ t, 0 ≤ z ∧ z < 256
  | _ => True
def flats : List Cl → List Int
  | [] => []
  | d :: r => d.flat ++ flats r
def toldC : Rd02.Abs → List Cl → List Int
  | _, [] => []
  | s, d :: r => ((d.ans s).length : Int) :: (d.ans s ++ toldC (d.next s) r)
def lensC : Rd02.Abs → List Cl → Nat
  | _, [] => 0
  | s, d :: r => (d.ans s).length + lensC (d.next s) r
theorem flat_pos (d : Cl) : 1 ≤ d.flat.length := by cases d <;> simp [Cl.flat]
theorem call_of {c : List (List Int)} (h : PyFlat.okCall PyRd02.shape c) : ∃ d : Cl, PyFlat.put1 c = d.flat ∧ Rd02Neutral.callOf (PyRd02.whole c) = some d.spec ∧ (Rd02Neutral.asked1 (PyRd02.whole c) = true → d.ok) := by
  obtain ⟨p, a, xs, rfl, hs⟩ := h
  have tx : ∀ {t : List Int}, Rd02Neutral.text (t.length : Int) t = true → t.length ≤ 40 ∧ ∀ z ∈ t, 0 ≤ z ∧ z < 256 := fun {t} q => by
    unfold Rd02Neutral.text Rd02Neutral.natural at q
    simp only [Bool.and_eq_true, List.all_eq_true, decide_eq_true_eq] at q
    obtain ⟨_, q1, _, q3⟩ := q
    exact ⟨q3, fun z hz => ⟨(q1 z hz).1, by have := (q1 z hz).2; omega⟩⟩
  unfold PyRd02.shape at hs
  split at hs
  · rename_i hp
    subst hp
    have h1 : a.length = 3 ∧ xs.length = 0 := by
      obtain ⟨e1, e2⟩ := Prod.mk.inj (Option.some.inj hs)
      omega
    match a, xs, h1 with
    | [x0, x1, x2], [], _ => exact ⟨.node x0 x1 x2, rfl, rfl, fun _ => trivial⟩
  split at hs
  · rename_i hp
    subst hp
    have h1 : a.length = 2 ∧ xs.length = 0 := by
      obtain ⟨e1, e2⟩ := Prod.mk.inj (Option.some.inj hs)
      omega
    match a, xs, h1 with
    | [x0, x1], [], _ => exact ⟨.rule x0 x1, rfl, rfl, fun _ => trivial⟩
  split at hs
  · rename_i hp
    subst hp
    have h1 : a.length = 0 ∧ xs.length = 0 := by
      obtain ⟨e1, e2⟩ := Prod.mk.inj (Option.some.inj hs)
      omega
    match a, xs, h1 with
    | [], [], _ => exact ⟨.sound, rfl, rfl, fun _ => trivial⟩
  split at hs
  · rename_i hp
    subst hp
    have h1 : a.length = 1 ∧ xs.length = 1 := by
      obtain ⟨e1, e2⟩ := Prod.mk.inj (Option.some.inj hs)
      omega
    match a, xs, h1 with
    | [x0], [t], _ =>
      refine ⟨.take x0 t, ?_, rfl, fun q => ?_⟩
      · simp [PyFlat.put1, PyFlat.putRows, PyFlat.putRow, Cl.flat]
      · have q : (Rd02Neutral.whole32 x0 && Rd02Neutral.text (t.length : Int) t) = true := q
        rw [Bool.and_eq_true] at q
        exact tx q.2
  split at hs
  · rename_i hp
    subst hp
    have h1 : a.length = 2 ∧ xs.length = 1 := by
      obtain ⟨e1, e2⟩ := Prod.mk.inj (Option.some.inj hs)
      omega
    match a, xs, h1 with
    | [x0, x1], [t], _ =>
      refine ⟨.uses x0 x1 t, ?_, rfl, fun q => ?_⟩
      · simp [PyFlat.put1, PyFlat.putRows, PyFlat.putRow, Cl.flat]
      · have q : (Rd02Neutral.whole32 x0 && (Rd02Neutral.whole32 x1 && Rd02Neutral.text (t.length : Int) t)) = true := q
        rw [Bool.and_eq_true, Bool.and_eq_true] at q
        exact tx q.2.2
  split at hs
  · rename_i hp
    subst hp
    have h1 : a.length = 1 ∧ xs.length = 1 := by
      obtain ⟨e1, e2⟩ := Prod.mk.inj (Option.some.inj hs)
      omega
    match a, xs, h1 with
    | [x0], [t], _ =>
      refine ⟨.asked x0 t, ?_, rfl, fun q => ?_⟩
      · simp [PyFlat.put1, PyFlat.putRows, PyFlat.putRow, Cl.flat]
      · have q : (Rd02Neutral.whole32 x0 && Rd02Neutral.text (t.length : Int) t) = true := q
        rw [Bool.and_eq_true] at q
        exact tx q.2
  · cases hs
theorem step_of {c : List (List Int)} {d : Cl} (h : Rd02Neutral.callOf c = some d.spec) (s : Rd02.Abs) : Rd02Neutral.step s c = (d.next s, d.ans s) := by
  unfold Rd02Neutral.step
  rw [h]
  rfl
theorem calls_of : ∀ (cs : List (List (List Int))), (∀ c ∈ cs, PyFlat.okCall PyRd02.shape c) → ∃ ds : List Cl, PyFlat.put cs = flats ds ∧ ds.length = cs.length ∧ ((cs.map PyRd02.whole).all Rd02Neutral.asked1 = true → ∀ d ∈ ds, d.ok) ∧
    ∀ s, PyFlat.told (PyFlat.played Rd02Neutral.step s (cs.map PyRd02.whole)) = toldC s ds ∧ Rd02Neutral.told s (cs.map PyRd02.whole) = lensC s ds
  | [], _ => ⟨[], rfl, rfl, fun _ d hd => by simp at hd, fun s => ⟨rfl, rfl⟩⟩
  | c :: cs, h => by
    obtain ⟨d, h1, h2, h3⟩ := call_of (h c List.mem_cons_self)
    obtain ⟨ds, g1, g2, g3, g4⟩ := calls_of cs fun c hc => h c (List.mem_cons_of_mem _ hc)
    refine ⟨d :: ds, ?_, by rw [List.length_cons, List.length_cons, g2], fun q => ?_, fun s => ⟨?_, ?_⟩⟩
    · show PyFlat.put1 c ++ PyFlat.put cs = d.flat ++ flats ds
      rw [h1, g1]
    · rw [List.map_cons, List.all_cons, Bool.and_eq_true] at q
      intro e he
      rcases List.mem_cons.mp he with rfl | he
      · exact h3 q.1
      · exact g3 q.2 e he
    · have st := step_of h2 s
      show PyFlat.told ((Rd02Neutral.step s (PyRd02.whole c)).2 :: PyFlat.played Rd02Neutral.step (Rd02Neutral.step s (PyRd02.whole c)).1 (cs.map PyRd02.whole)) = _
      rw [st]
      show ((d.ans s).length : Int) :: (d.ans s ++ PyFlat.told (PyFlat.played Rd02Neutral.step (d.next s) (cs.map PyRd02.whole))) = _
      rw [(g4 (d.next s)).1]
      rfl
    · have st := step_of h2 s
      show (Rd02Neutral.step s (PyRd02.whole c)).2.length + Rd02Neutral.told (Rd02Neutral.step s (PyRd02.whole c)).1 (cs.map PyRd02.whole) = _
      rw [st]
      show (d.ans s).length + Rd02Neutral.told (d.next s) (cs.map PyRd02.whole) = _
      rw [(g4 (d.next s)).2]
      rfl
theorem asked_of {l : List Int} (h : PyRd02.answers_asked l = true) : ∃ ds : List Cl, l = flats ds ∧ ds.length ≤ 120 ∧ (∀ d ∈ ds, d.ok) ∧ lensC {} ds < 1000000 ∧ PyRd02.answers l = toldC {} ds := by
  unfold PyRd02.answers_asked at h
  unfold PyRd02.answers
  unfold PyRd02.calls at h ⊢
  cases e : PyFlat.calls PyRd02.shape l.length l with
  | none => rw [e] at h; cases h
  | some cs =>
    rw [e] at h
    obtain ⟨e1, ok⟩ := PyFlat.put_calls _ _ _ e
    obtain ⟨ds, g1, g2, g3, g4⟩ := calls_of cs ok
    have h : (PyFlat.atMost 120 (cs.map PyRd02.whole) && Rd02Neutral.asked (cs.map PyRd02.whole)) = true := h
    unfold Rd02Neutral.asked PyFlat.atMost at h
    simp only [Bool.and_eq_true, decide_eq_true_eq] at h
    obtain ⟨h1, h2, h3, h4, h5⟩ := h
    refine ⟨ds, by rw [e1, g1], by rw [g2]; simpa using h1, g3 h2, ?_, (g4 _).1⟩
    have := (g4 Rd02Neutral.start).2
    rw [this] at h5
    exact h5
end Ow
set_option linter.all false
namespace Ow
open Rd02 (Gram Node Use May Result Column)
def codeR : Option Nat → Int
  | some j => (j : Int)
  | none => -2
theorem codeR_fail {x : Option Nat} : codeR x = -2 ↔ x = none := by
  cases x with
  | none => exact ⟨fun _ => rfl, fun _ => rfl⟩
  | some j => exact ⟨fun h => by have : (j : Int) = -2 := h; omega, fun h => nomatch h⟩
theorem codeR_inj {x y : Option Nat} (h : codeR x = codeR y) : x = y := by
  cases x with
  | none => exact (codeR_fail.mp h.symm).symm
  | some j =>
    cases y with
    | none => exact codeR_fail.mp h
    | some k =>
      have : (j : Int) = (k : Int) := h
      rw [show j = k by omega]
abbrev R1 (G : Gram) (s : List Nat) (e i : Nat) : Option Nat := (R G s e i).1
abbrev U (G : Gram) (s : List Nat) (z : Nat × Nat) : List Use := (R G s z.1 z.2).2
def valR (G : Gram) (s : List Nat) (z : Nat × Nat) : Int := codeR (R1 G s z.1 z.2)
section
variable {G : Gram} {s : List Nat} (W : Wf G) (S : Rd02.sound G = true)
include W S
theorem r1_le {e i j : Nat} (he : e < G.nodes.length) (hi : i ≤ s.length) (h : R1 G s e i = some j) : i ≤ j ∧ j ≤ s.length := by
  have := (R_says W S he hi).1 j h
  exact ⟨this.1, this.2.1⟩
theorem r_zero {e i : Nat} (he : e < G.nodes.length) (hi : i ≤ s.length) (hk : (Rd02.node G e).kind = 0) : R G s e i = (some i, []) := by
  rw [R_eq W S he hi]
  unfold resF
  simp only []
  rw [if_pos hk]
theorem r_one {e i : Nat} (he : e < G.nodes.length) (hi : i ≤ s.length) (hk : (Rd02.node G e).kind = 1) : R G s e i = (if i < s.length then some (i + 1) else none, []) := by
  rw [R_eq W S he hi]
  unfold resF
  simp only []
  rw [if_neg (by omega), if_pos hk]
theorem r_two {e i : Nat} (he : e < G.nodes.length) (hi : i ≤ s.length) (hk : (Rd02.node G e).kind = 2) : R G s e i = (if (s[i]?).any (fun c => decide ((Rd02.node G e).a ≤ c) && decide (c ≤ (Rd02.node G e).b)) = true then some (i + 1) else none, []) := by
  rw [R_eq W S he hi]
  unfold resF
  simp only []
  rw [if_neg (by omega), if_neg (by omega), if_pos hk]
theorem r_three {e i : Nat} (he : e < G.nodes.length) (hi : i ≤ s.length) (hk : (Rd02.node G e).kind = 3) :
    (R1 G s (Rd02.node G e).a i = none → R G s e i = (none, [])) ∧ ∀ j, R1 G s (Rd02.node G e).a i = some j → (R1 G s (Rd02.node G e).b j = none → R G s e i = (none, [])) ∧ ∀ k, R1 G s (Rd02.node G e).b j = some k → R G s e i = (some k, U G s ((Rd02.node G e).a, i) ++ U G s ((Rd02.node G e).b, j)) := by
  rw [R_eq W S he hi]
  unfold resF R1 U
  simp only []
  rw [if_neg (by omega), if_neg (by omega), if_neg (by omega), if_pos hk]
  refine ⟨fun h => ?_, fun j h => ?_⟩
  · cases q : R G s (Rd02.node G e).a i with
    | mk y t =>
      rw [q] at h
      cases (show y = none from h)
      rfl
  · cases q : R G s (Rd02.node G e).a i with
    | mk y t =>
      rw [q] at h
      cases (show y = some j from h)
      refine ⟨fun h2 => ?_, fun k h2 => ?_⟩
      · cases q2 : R G s (Rd02.node G e).b j with
        | mk y2 t2 =>
          rw [q2] at h2
          cases (show y2 = none from h2)
          simp only [q2]
      · cases q2 : R G s (Rd02.node G e).b j with
        | mk y2 t2 =>
          rw [q2] at h2
          cases (show y2 = some k from h2)
          simp only [q2]
theorem r_four {e i : Nat} (he : e < G.nodes.length) (hi : i ≤ s.length) (hk : (Rd02.node G e).kind = 4) :
    (R1 G s (Rd02.node G e).a i = none → R G s e i = R G s (Rd02.node G e).b i) ∧ ∀ j, R1 G s (Rd02.node G e).a i = some j → R G s e i = R G s (Rd02.node G e).a i := by
  rw [R_eq W S he hi]
  unfold resF R1
  simp only []
  rw [if_neg (by omega), if_neg (by omega), if_neg (by omega), if_neg (by omega), if_pos hk]
  cases q : R G s (Rd02.node G e).a i with
  | mk y t =>
    refine ⟨fun h => ?_, fun j h => ?_⟩
    · cases (show y = none from h)
      rfl
    · cases (show y = some j from h)
      rfl
theorem r_five {e i : Nat} (he : e < G.nodes.length) (hi : i ≤ s.length) (hk : (Rd02.node G e).kind = 5) :
    (R1 G s (Rd02.node G e).a i = none → R G s e i = (some i, [])) ∧ ∀ j, R1 G s (Rd02.node G e).a i = some j → R G s e i = (R1 G s e j, U G s ((Rd02.node G e).a, i) ++ U G s (e, j)) := by
  rw [R_eq W S he hi]
  unfold resF R1 U
  simp only []
  rw [if_neg (by omega), if_neg (by omega), if_neg (by omega), if_neg (by omega), if_neg (by omega), if_pos hk]
  cases q : R G s (Rd02.node G e).a i with
  | mk y t =>
    refine ⟨fun h => ?_, fun j h => ?_⟩
    · cases (show y = none from h)
      rfl
    · cases (show y = some j from h)
      rfl
theorem r_six {e i : Nat} (he : e < G.nodes.length) (hi : i ≤ s.length) (hk : (Rd02.node G e).kind = 6) :
    (R1 G s (Rd02.node G e).a i = none → R G s e i = (some i, [])) ∧ ∀ j, R1 G s (Rd02.node G e).a i = some j → R G s e i = (none, []) := by
  rw [R_eq W S he hi]
  unfold resF R1
  simp only []
  rw [if_neg (by omega), if_neg (by omega), if_neg (by omega), if_neg (by omega), if_neg (by omega), if_neg (by omega), if_pos hk]
  cases q : R G s (Rd02.node G e).a i with
  | mk y t =>
    refine ⟨fun h => ?_, fun j h => ?_⟩
    · cases (show y = none from h)
      rfl
    · cases (show y = some j from h)
      rfl
theorem r_seven {e i d : Nat} (he : e < G.nodes.length) (hi : i ≤ s.length) (hk : (Rd02.node G e).kind = 7) (hd : Rd02.bodyOf G (Rd02.node G e).a = some d) :
    R1 G s e i = R1 G s d i ∧ ∀ j, R1 G s d i = some j → U G s (e, i) = (if i < j then [((Rd02.node G e).a, i, j)] else []) ++ U G s (d, i) := by
  unfold R1 U
  show (R G s e i).1 = _ ∧ ∀ j, _ → (R G s e i).2 = _
  rw [R_eq W S he hi]
  unfold resF
  simp only []
  rw [if_neg (by omega), if_neg (by omega), if_neg (by omega), if_neg (by omega), if_neg (by omega), if_neg (by omega), if_neg (by omega), hd]
  simp only []
  cases q : R G s d i with
  | mk y t =>
    cases y with
    | none => exact ⟨rfl, fun j h => nomatch h⟩
    | some k =>
      refine ⟨rfl, fun j h => ?_⟩
      cases (show k = j from Option.some.inj h)
      rfl
end
def Lt (rank : Nat → Nat) (w z : Nat × Nat) : Prop := z.2 < w.2 ∨ (w.2 = z.2 ∧ rank w.1 < rank z.1)
theorem Lt.trans {rank : Nat → Nat} {x y z : Nat × Nat} (a : Lt rank x y) (b : Lt rank y z) : Lt rank x z := by
  unfold Lt at *
  omega
theorem Lt.irrefl {rank : Nat → Nat} {x : Nat × Nat} (a : Lt rank x x) : False := by
  unfold Lt at a
  omega
theorem Reach.trans {G : Gram} {s : List Nat} {x y z : Nat × Nat} (a : Reach G s x y) (b : Reach G s y z) : Reach G s x z := by
  induction b with
  | refl => exact a
  | step y' w _ hw ih => exact .step y' w ih hw
inductive Chain (G : Gram) (s : List Nat) (a : Nat) : Nat → Nat → Prop
  | refl (i : Nat) : Chain G s a i i
  | step (i j k : Nat) : R1 G s a i = some j → Chain G s a j k → Chain G s a i k
def Cov (G : Gram) (s : List Nat) (z : Nat × Nat) (K : List (Nat × Nat)) : Prop :=
  ((Rd02.node G z.1).kind ≠ 5 → ∀ w ∈ asksR G s z, w ∈ K) ∧ ((Rd02.node G z.1).kind = 5 → ∀ q, Chain G s (Rd02.node G z.1).a z.2 q → ((Rd02.node G z.1).a, q) ∈ K)
theorem Cov.mono {G : Gram} {s : List Nat} {z : Nat × Nat} {K K' : List (Nat × Nat)} (c : Cov G s z K) (h : ∀ w ∈ K, w ∈ K') : Cov G s z K' :=
  ⟨fun hk w hw => h w (c.1 hk w hw), fun hk q hq => h _ (c.2 hk q hq)⟩
structure Rn (G : Gram) (s : List Nat) (rank : Nat → Nat) (e : Nat) (K P : List (Nat × Nat)) : Prop where
  nd : (K ++ P).Nodup
  reach : ∀ z ∈ K ++ P, Reach G s (e, 0) z
  cov : ∀ z ∈ K, Cov G s z K
  srt : P.Pairwise fun x y => Lt rank y x
  start : (e, 0) ∈ K ++ P
theorem Rn.first {G : Gram} {s : List Nat} {rank : Nat → Nat} {e : Nat} : Rn G s rank e [] [(e, 0)] where
  nd := by simp
  reach := fun z hz => by
    rw [List.nil_append, List.mem_singleton] at hz
    rw [hz]
    exact .refl
  cov := fun z hz => nomatch hz
  srt := List.pairwise_singleton _ _
  start := List.mem_cons_self
theorem Rn.push {G : Gram} {s : List Nat} {rank : Nat → Nat} {e : Nat} {K P : List (Nat × Nat)} {z w : Nat × Nat} (r : Rn G s rank e K (P ++ [z])) (hw : w ∉ K) (lt : Lt rank w z) (rw_ : Reach G s z w) : Rn G s rank e K ((P ++ [z]) ++ [w]) where
  nd := by
    rw [← List.append_assoc]
    refine List.nodup_append.mpr ⟨r.nd, by simp, fun a ha b hb q => ?_⟩
    rw [List.mem_singleton.mp hb] at q
    subst q
    rcases List.mem_append.mp ha with h | h
    · exact hw h
    · rcases List.mem_append.mp h with h | h
      · exact (lt.trans ((List.pairwise_append.mp r.srt).2.2 a h z (List.mem_singleton.mpr rfl))).irrefl
      · rw [List.mem_singleton.mp h] at lt
        exact lt.irrefl
  reach := fun x hx => by
    rw [← List.append_assoc] at hx
    rcases List.mem_append.mp hx with h | h
    · exact r.reach x h
    · rw [List.mem_singleton.mp h]
      exact (r.reach z (List.mem_append_right _ (List.mem_append_right _ (List.mem_singleton.mpr rfl)))).trans rw_
  cov := r.cov
  srt := by
    refine List.pairwise_append.mpr ⟨r.srt, List.pairwise_singleton _ _, fun x hx y hy => ?_⟩
    rw [List.mem_singleton.mp hy]
    rcases List.mem_append.mp hx with h | h
    · exact lt.trans ((List.pairwise_append.mp r.srt).2.2 x h z (List.mem_singleton.mpr rfl))
    · rw [List.mem_singleton.mp h]
      exact lt
  start := by
    rw [← List.append_assoc]
    exact List.mem_append_left _ r.start
theorem Rn.done {G : Gram} {s : List Nat} {rank : Nat → Nat} {e : Nat} {K P : List (Nat × Nat)} {z : Nat × Nat} (r : Rn G s rank e K (P ++ [z])) (c : Cov G s z K) : Rn G s rank e (K ++ [z]) P := by
  have mem : ∀ x, x ∈ (K ++ [z]) ++ P ↔ x ∈ K ++ (P ++ [z]) := fun x => by
    simp only [List.mem_append, List.mem_singleton]
    constructor
    · rintro ((h | h) | h)
      · exact .inl h
      · exact .inr (.inr h)
      · exact .inr (.inl h)
    · rintro (h | h | h)
      · exact .inl (.inl h)
      · exact .inr h
      · exact .inl (.inr h)
  refine ⟨?_, fun x hx => r.reach x ((mem x).mp hx), fun x hx => ?_, (List.pairwise_append.mp r.srt).1, (mem _).mpr r.start⟩
  · have : List.Perm ((K ++ [z]) ++ P) (K ++ (P ++ [z])) := by
      rw [List.append_assoc]
      exact List.Perm.append_left K List.perm_append_comm
    exact this.nodup_iff.mpr r.nd
  · rcases List.mem_append.mp hx with h | h
    · exact (r.cov x h).mono fun w hw => List.mem_append_left _ hw
    · rw [List.mem_singleton.mp h]
      exact c.mono fun w hw => List.mem_append_left _ hw
theorem Rn.new {G : Gram} {s : List Nat} {rank : Nat → Nat} {e : Nat} {K P : List (Nat × Nat)} {z : Nat × Nat} (r : Rn G s rank e K (P ++ [z])) : z ∉ K := fun h =>
  (List.nodup_append.mp r.nd).2.2 z h z (List.mem_append_right _ (List.mem_singleton.mpr rfl)) rfl
section
variable {G : Gram} {s : List Nat} (W : Wf G) (S : Rd02.sound G = true)
include W S
theorem Rn.bound {rank : Nat → Nat} {e : Nat} {K P : List (Nat × Nat)} (he : e < G.nodes.length) (r : Rn G s rank e K P) : K.length + P.length ≤ G.nodes.length * (s.length + 1) := by
  rw [← List.length_append]
  exact length_pairs r.nd fun z hz => by
    have := (r.reach z hz).in_ W S he (Nat.zero_le _)
    exact ⟨this.1, by omega⟩
theorem Rn.all {rank : Nat → Nat} {e : Nat} {K : List (Nat × Nat)} (r : Rn G s rank e K []) {z : Nat × Nat} (h : Reach G s (e, 0) z) :
    z ∈ K ∨ ((Rd02.node G z.1).kind = 5 ∧ ∀ q, Chain G s (Rd02.node G z.1).a z.2 q → ((Rd02.node G z.1).a, q) ∈ K) := by
  have st := r.start
  rw [List.append_nil] at st
  have five : ∀ {y w : Nat × Nat}, (Rd02.node G y.1).kind = 5 → (∀ q, Chain G s (Rd02.node G y.1).a y.2 q → ((Rd02.node G y.1).a, q) ∈ K) → w ∈ asksR G s y → w ∈ K ∨ ((Rd02.node G w.1).kind = 5 ∧ ∀ q, Chain G s (Rd02.node G w.1).a w.2 q → ((Rd02.node G w.1).a, q) ∈ K) := fun {y w} hk hc hw => by
    unfold asksR at hw
    simp only [] at hw
    rw [if_neg (by omega), if_neg (by omega), if_neg (by omega), if_pos hk] at hw
    rcases List.mem_cons.mp hw with rfl | hw
    · exact .inl (hc _ (.refl _))
    · cases q : R G s (Rd02.node G y.1).a y.2 with
      | mk x t =>
        rw [q] at hw
        cases x with
        | none => cases hw
        | some j =>
          obtain rfl := List.mem_singleton.mp hw
          exact .inr ⟨hk, fun q2 hq2 => hc q2 (.step _ j _ (by show (R G s _ _).1 = _; rw [q]) hq2)⟩
  induction h with
  | refl => exact .inl st
  | step y w _ hw ih =>
    rcases ih with h | ⟨hk, hc⟩
    · by_cases hk : (Rd02.node G y.1).kind = 5
      · exact five hk ((r.cov y h).2 hk) hw
      · exact .inl ((r.cov y h).1 hk w hw)
    · exact five hk hc hw
theorem Rn.asked {rank : Nat → Nat} {e : Nat} {K : List (Nat × Nat)} (he : e < G.nodes.length) (r : Rn G s rank e K []) {p : List (Nat × Nat)} (hp : p.Nodup)
    (h : ∀ q, q ∈ p ↔ ∃ z ∈ K, (Rd02.node G z.1).kind = 7 ∧ q = ((Rd02.node G z.1).a, z.2)) : Rd02.askedOf G s e = p.length := by
  refine askedOf_eq W S he hp fun q => (h q).trans ⟨?_, ?_⟩
  · rintro ⟨z, hz, hk, e⟩
    exact ⟨z, r.reach z (List.mem_append_left _ hz), hk, e⟩
  · rintro ⟨z, hz, hk, e⟩
    rcases r.all W S hz with h | ⟨h, _⟩
    · exact ⟨z, h, hk, e⟩
    · omega
end
end Ow
set_option linter.all false
namespace Ow
open Rd02 (Gram Node Use May Result Column)
inductive Times (G : Gram) (s : List Nat) (a : Nat) : Nat → List (Nat × Nat) → Prop
  | nil (i : Nat) : R1 G s a i = none → Times G s a i []
  | cons (i j : Nat) (l : List (Nat × Nat)) : R1 G s a i = some j → Times G s a j l → Times G s a i ((a, i) :: l)
structure MkOk (G : Gram) (s : List Nat) (z : Nat × Nat) (l : List (Nat × Nat)) : Prop where
  three : (Rd02.node G z.1).kind = 3 → ∃ j, R1 G s (Rd02.node G z.1).a z.2 = some j ∧ l = [((Rd02.node G z.1).a, z.2), ((Rd02.node G z.1).b, j)]
  four : (Rd02.node G z.1).kind = 4 → l = [(if R1 G s (Rd02.node G z.1).a z.2 = none then (Rd02.node G z.1).b else (Rd02.node G z.1).a, z.2)]
  five : (Rd02.node G z.1).kind = 5 → Times G s (Rd02.node G z.1).a z.2 l
  seven : (Rd02.node G z.1).kind = 7 → ∃ d, Rd02.bodyOf G (Rd02.node G z.1).a = some d ∧ l = [(d, z.2)]
  else_ : (Rd02.node G z.1).kind < 3 ∨ (Rd02.node G z.1).kind = 6 → l = []
inductive Todo (G : Gram) (s : List Nat) : List (Nat × Nat) → Nat → Prop
  | nil : Todo G s [] 0
  | skip (z : Nat × Nat) (l : List (Nat × Nat)) (n : Nat) : R1 G s z.1 z.2 = some z.2 → Todo G s l n → Todo G s (z :: l) (n + 1)
  | node (z : Nat × Nat) (j : Nat) (mk l : List (Nat × Nat)) (n : Nat) : R1 G s z.1 z.2 = some j → z.2 < j → MkOk G s z mk → Todo G s (mk ++ l) n → Todo G s (z :: l) (n + 1)
theorem Todo.len {G : Gram} {s : List Nat} {l : List (Nat × Nat)} {n : Nat} (h : Todo G s l n) : l.length ≤ n := by
  induction h with
  | nil => exact Nat.le_refl _
  | skip z l n _ _ ih => rw [List.length_cons]; omega
  | node z j mk l n _ _ _ _ ih => rw [List.length_append] at ih; rw [List.length_cons]; omega
def own (G : Gram) (s : List Nat) (z : Nat × Nat) : List Use := match R1 G s z.1 z.2 with
  | some j => if (Rd02.node G z.1).kind = 7 ∧ z.2 < j then [((Rd02.node G z.1).a, z.2, j)] else []
  | none => []
section
variable {G : Gram} {s : List Nat} {rank : Nat → Nat} (W : Wf G) (S : Rd02.sound G = true) (RK : RankOk G rank)
include W S RK
theorem five_pos {e i j : Nat} (he : e < G.nodes.length) (hi : i ≤ s.length) (hk : (Rd02.node G e).kind = 5) (h : R1 G s (Rd02.node G e).a i = some j) : i < j := by
  have la := W.one e _ (node_at he) (.inl hk)
  obtain ⟨h1, h2, h3, _⟩ := (R_says W S la hi).1 j h
  have := (RK.five e he hk).2
  by_cases q : j = i
  · rw [h3 q] at this
    cases this
  · omega
theorem three_low {e i : Nat} (he : e < G.nodes.length) (hi : i ≤ s.length) (hk : (Rd02.node G e).kind = 3) (h : R1 G s (Rd02.node G e).a i = some i) : rank (Rd02.node G e).b < rank e := by
  have la := (W.two e _ (node_at he) (.inl hk)).1
  exact (RK.three e he hk).2 (((R_says W S la hi).1 i h).2.2.1 rfl)
theorem no_use : ∀ (m : Nat) (e i : Nat), rank e ≤ m → e < G.nodes.length → i ≤ s.length → R1 G s e i = some i → U G s (e, i) = []
  | 0, e, i, hm, he, hi, h => by
    have := (RK.le e he).1
    omega
  | m + 1, e, i, hm, he, hi, h => by
    have hx := W.kind e _ (node_at he)
    have two := W.two e _ (node_at he)
    have one := W.one e _ (node_at he)
    rcases Nat.lt_or_ge (Rd02.node G e).kind 3 with k3 | k3
    · show (R G s e i).2 = []
      rcases Nat.lt_or_ge (Rd02.node G e).kind 1 with k1 | k1
      · rw [r_zero W S he hi (by omega)]
      · rcases Nat.lt_or_ge (Rd02.node G e).kind 2 with k2 | k2
        · rw [r_one W S he hi (by omega)]
        · rw [r_two W S he hi (by omega)]
    · by_cases k : (Rd02.node G e).kind = 3
      · obtain ⟨la, lb⟩ := two (.inl k)
        obtain ⟨t1, t2⟩ := r_three W S he hi k
        cases qa : R1 G s (Rd02.node G e).a i with
        | none => rw [show R1 G s e i = none by show (R G s e i).1 = none; rw [t1 qa]] at h; cases h
        | some j =>
          have hj := r1_le W S la hi qa
          obtain ⟨u1, u2⟩ := t2 j qa
          cases qb : R1 G s (Rd02.node G e).b j with
          | none => rw [show R1 G s e i = none by show (R G s e i).1 = none; rw [u1 qb]] at h; cases h
          | some k' =>
            have hk' := r1_le W S lb hj.2 qb
            have e1 := u2 k' qb
            have h : (R G s e i).1 = some i := h
            rw [e1] at h
            cases (show k' = i from Option.some.inj h)
            have : j = i := by omega
            subst this
            show (R G s e j).2 = []
            rw [e1]
            show U G s _ ++ U G s _ = []
            rw [no_use m _ j (by have := (RK.three e he k).1; omega) la hi qa, no_use m _ j (by have := three_low W S RK he hi k qa; omega) lb hi qb]
            rfl
      by_cases k4 : (Rd02.node G e).kind = 4
      · obtain ⟨la, lb⟩ := two (.inr k4)
        obtain ⟨t1, t2⟩ := r_four W S he hi k4
        obtain ⟨ra, rb⟩ := RK.four e he k4
        have h : (R G s e i).1 = some i := h
        show (R G s e i).2 = []
        cases qa : R1 G s (Rd02.node G e).a i with
        | none =>
          rw [t1 qa] at h ⊢
          exact no_use m (Rd02.node G e).b i (by omega) lb hi h
        | some j =>
          rw [t2 j qa] at h ⊢
          exact no_use m (Rd02.node G e).a i (by omega) la hi h
      by_cases k5 : (Rd02.node G e).kind = 5
      · have la := one (.inl k5)
        obtain ⟨t1, t2⟩ := r_five W S he hi k5
        have h : (R G s e i).1 = some i := h
        show (R G s e i).2 = []
        cases qa : R1 G s (Rd02.node G e).a i with
        | none => rw [t1 qa]
        | some j =>
          have hp := five_pos W S RK he hi k5 qa
          have hj := r1_le W S la hi qa
          rw [t2 j qa] at h
          have := r1_le W S he hj.2 h
          omega
      by_cases k6 : (Rd02.node G e).kind = 6
      · obtain ⟨t1, t2⟩ := r_six W S he hi k6
        show (R G s e i).2 = []
        cases qa : R1 G s (Rd02.node G e).a i with
        | none => rw [t1 qa]
        | some j => rw [t2 j qa]
      · have k7 : (Rd02.node G e).kind = 7 := by omega
        obtain ⟨d, hd, ld, rd⟩ := RK.seven e he k7
        obtain ⟨t1, t2⟩ := r_seven W S he hi k7 hd
        rw [t1] at h
        rw [t2 i h, if_neg (Nat.lt_irrefl _), List.nil_append]
        exact no_use m d i (by omega) ld hi h
theorem times_uses {e : Nat} (he : e < G.nodes.length) (hk : (Rd02.node G e).kind = 5) {i : Nat} {l : List (Nat × Nat)} (h : Times G s (Rd02.node G e).a i l) (hi : i ≤ s.length) : U G s (e, i) = l.flatMap (U G s) := by
  have la := W.one e _ (node_at he) (.inl hk)
  induction h with
  | nil i q =>
    show (R G s e i).2 = []
    rw [(r_five W S he hi hk).1 q]
  | cons i j l q _ ih =>
    show (R G s e i).2 = _
    rw [(r_five W S he hi hk).2 j q, List.flatMap_cons, ← ih (r1_le W S la hi q).2]
theorem uses_of {z : Nat × Nat} {j : Nat} {l : List (Nat × Nat)} (he : z.1 < G.nodes.length) (hi : z.2 ≤ s.length) (h : R1 G s z.1 z.2 = some j) (M : MkOk G s z l) : U G s z = own G s z ++ l.flatMap (U G s) := by
  have hx := W.kind z.1 _ (node_at he)
  obtain ⟨e, i⟩ := z
  have hx : (Rd02.node G e).kind ≤ 7 := hx
  have he : e < G.nodes.length := he
  have hi : i ≤ s.length := hi
  have h : R1 G s e i = some j := h
  have no7 : (Rd02.node G e).kind ≠ 7 → own G s (e, i) = [] := fun k => by
    unfold own
    show (match R1 G s e i with | some j => _ | none => _) = _
    rw [h]
    exact if_neg fun z => k z.1
  rcases Nat.lt_or_ge (Rd02.node G e).kind 3 with k3 | k3
  · rw [no7 (by omega), M.else_ (.inl k3)]
    show (R G s e i).2 = []
    rcases Nat.lt_or_ge (Rd02.node G e).kind 1 with k1 | k1
    · rw [r_zero W S he hi (by omega)]
    · rcases Nat.lt_or_ge (Rd02.node G e).kind 2 with k2 | k2
      · rw [r_one W S he hi (by omega)]
      · rw [r_two W S he hi (by omega)]
  · by_cases k : (Rd02.node G e).kind = 3
    · obtain ⟨j', q, rfl⟩ := M.three k
      obtain ⟨u1, u2⟩ := (r_three W S he hi k).2 j' q
      rw [no7 (by omega)]
      show (R G s e i).2 = _
      cases qb : R1 G s (Rd02.node G e).b j' with
      | none => rw [show R1 G s e i = none by show (R G s e i).1 = none; rw [u1 qb]] at h; cases h
      | some k' =>
        rw [u2 k' qb]
        simp
    by_cases k4 : (Rd02.node G e).kind = 4
    · obtain rfl := M.four k4
      rw [no7 (by omega)]
      obtain ⟨t1, t2⟩ := r_four W S he hi k4
      show (R G s e i).2 = _
      cases qa : R1 G s (Rd02.node G e).a i with
      | none => rw [t1 qa]; simp [qa]
      | some j' => rw [t2 j' qa]; simp [qa]
    by_cases k5 : (Rd02.node G e).kind = 5
    · rw [no7 (by omega), times_uses W S RK he k5 (M.five k5) hi]
      rfl
    by_cases k6 : (Rd02.node G e).kind = 6
    · rw [no7 (by omega), M.else_ (.inr k6)]
      obtain ⟨t1, t2⟩ := r_six W S he hi k6
      show (R G s e i).2 = []
      cases qa : R1 G s (Rd02.node G e).a i with
      | none => rw [t1 qa]
      | some j => rw [t2 j qa]
    · have k7 : (Rd02.node G e).kind = 7 := by omega
      obtain ⟨d, hd, rfl⟩ := M.seven k7
      obtain ⟨t1, t2⟩ := r_seven W S he hi k7 hd
      have hd' : R1 G s d i = some j := by rw [← t1]; exact h
      rw [t2 j hd']
      unfold own
      show _ = (match R1 G s e i with | some j => _ | none => _) ++ _
      rw [h]
      simp [k7]
theorem own_le (z : Nat × Nat) : (own G s z).length ≤ 1 := by
  unfold own
  split
  · split <;> simp
  · simp
theorem mk_in {z : Nat × Nat} {j : Nat} {l : List (Nat × Nat)} (he : z.1 < G.nodes.length) (hi : z.2 ≤ s.length) (h : R1 G s z.1 z.2 = some j) (M : MkOk G s z l) : ∀ w ∈ l, w.1 < G.nodes.length ∧ w.2 ≤ s.length ∧ R1 G s w.1 w.2 ≠ none := by
  have hx := W.kind z.1 _ (node_at he)
  have two := W.two z.1 _ (node_at he)
  have one := W.one z.1 _ (node_at he)
  intro w hw
  rcases Nat.lt_or_ge (Rd02.node G z.1).kind 3 with k3 | k3
  · rw [M.else_ (.inl k3)] at hw
    cases hw
  · by_cases k : (Rd02.node G z.1).kind = 3
    · obtain ⟨la, lb⟩ := two (.inl k)
      obtain ⟨j', q, rfl⟩ := M.three k
      have hj := r1_le W S la hi q
      rcases List.mem_cons.mp hw with rfl | hw
      · exact ⟨la, hi, fun z => by rw [z] at q; cases q⟩
      · obtain rfl := List.mem_singleton.mp hw
        refine ⟨lb, hj.2, fun qb => ?_⟩
        rw [show R1 G s z.1 z.2 = none by show (R G s z.1 z.2).1 = none; rw [((r_three W S he hi k).2 j' q).1 qb]] at h
        cases h
    by_cases k4 : (Rd02.node G z.1).kind = 4
    · obtain ⟨la, lb⟩ := two (.inr k4)
      rw [M.four k4] at hw
      obtain rfl := List.mem_singleton.mp hw
      by_cases qa : R1 G s (Rd02.node G z.1).a z.2 = none
      · simp only [if_pos qa]
        refine ⟨lb, hi, fun q => ?_⟩
        have h : (R G s z.1 z.2).1 = some j := h
        rw [(r_four W S he hi k4).1 qa] at h
        have q : (R G s _ _).1 = none := q
        rw [q] at h
        cases h
      · simp only [if_neg qa]
        exact ⟨la, hi, qa⟩
    by_cases k5 : (Rd02.node G z.1).kind = 5
    · have la := one (.inl k5)
      have T := M.five k5
      have : ∀ {i l}, Times G s (Rd02.node G z.1).a i l → i ≤ s.length → ∀ w ∈ l, w.1 < G.nodes.length ∧ w.2 ≤ s.length ∧ R1 G s w.1 w.2 ≠ none := fun {i l} T => by
        induction T with
        | nil i q => exact fun _ w hw => nomatch hw
        | cons i j l q _ ih =>
          intro hi w hw
          rcases List.mem_cons.mp hw with rfl | hw
          · exact ⟨la, hi, fun z => by rw [z] at q; cases q⟩
          · exact ih (r1_le W S la hi q).2 w hw
      exact this T hi w hw
    by_cases k6 : (Rd02.node G z.1).kind = 6
    · rw [M.else_ (.inr k6)] at hw
      cases hw
    · have k7 : (Rd02.node G z.1).kind = 7 := by omega
      obtain ⟨d, hd, rfl⟩ := M.seven k7
      obtain rfl := List.mem_singleton.mp hw
      refine ⟨body_lt hd, hi, fun q => ?_⟩
      rw [(r_seven W S he hi k7 hd).1, q] at h
      cases h
theorem Todo.uses {l : List (Nat × Nat)} {n : Nat} (h : Todo G s l n) (hl : ∀ z ∈ l, z.1 < G.nodes.length ∧ z.2 ≤ s.length) : (l.flatMap (U G s)).length ≤ n := by
  induction h with
  | nil => exact Nat.le_refl _
  | skip z l n q _ ih =>
    obtain ⟨h1, h2⟩ := hl z List.mem_cons_self
    have := ih fun w hw => hl w (List.mem_cons_of_mem _ hw)
    rw [List.flatMap_cons, show U G s z = [] from no_use W S RK _ z.1 z.2 (Nat.le_refl _) h1 h2 q, List.nil_append]
    omega
  | node z j mk l n q lt M _ ih =>
    obtain ⟨h1, h2⟩ := hl z List.mem_cons_self
    have := ih fun w hw => by
      rcases List.mem_append.mp hw with hw | hw
      · have := mk_in W S RK h1 h2 q M w hw
        exact ⟨this.1, this.2.1⟩
      · exact hl w (List.mem_cons_of_mem _ hw)
    rw [List.flatMap_cons, uses_of W S RK h1 h2 q M, List.append_assoc, ← List.flatMap_append, List.length_append]
    have := own_le (G := G) (s := s) W S RK z
    omega
theorem five_cost {e i : Nat} (he : e < G.nodes.length) (hk : (Rd02.node G e).kind = 5)
    (IH : ∀ q j, i ≤ q → q ≤ s.length → R1 G s (Rd02.node G e).a q = some j → ∃ c, c ≤ (if q < j then (2 * G.nodes.length + 1) * (j - q - 1) + 2 * rank (Rd02.node G e).a + 1 else 1) ∧ ∀ l n, Todo G s l n → Todo G s (((Rd02.node G e).a, q) :: l) (n + c)) :
    ∀ (x q : Nat), s.length - q ≤ x → i ≤ q → q ≤ s.length → ∃ l c j, Times G s (Rd02.node G e).a q l ∧ R1 G s e q = some j ∧ q ≤ j ∧ c ≤ (if q < j then (2 * G.nodes.length + 1) * (j - q - 1) + 2 * rank (Rd02.node G e).a + 1 else 0) ∧ ∀ l' n, Todo G s l' n → Todo G s (l ++ l') (n + c) := by
  have la := W.one e _ (node_at he) (.inl hk)
  intro x
  induction x with
  | zero =>
    intro q hx hi hq
    cases qa : R1 G s (Rd02.node G e).a q with
    | none =>
      refine ⟨[], 0, q, .nil q qa, ?_, Nat.le_refl _, Nat.zero_le _, fun l' n h => h⟩
      show (R G s e q).1 = _
      rw [(r_five W S he hq hk).1 qa]
    | some j =>
      have h1 := five_pos W S RK he hq hk qa
      have h2 := r1_le W S la hq qa
      omega
  | succ x ih =>
    intro q hx hi hq
    cases qa : R1 G s (Rd02.node G e).a q with
    | none =>
      refine ⟨[], 0, q, .nil q qa, ?_, Nat.le_refl _, Nat.zero_le _, fun l' n h => h⟩
      show (R G s e q).1 = _
      rw [(r_five W S he hq hk).1 qa]
    | some j =>
      have h1 := five_pos W S RK he hq hk qa
      have h2 := r1_le W S la hq qa
      obtain ⟨l, c, je, T, e1, e2, hc, td⟩ := ih j (by omega) (by omega) h2.2
      obtain ⟨ca, hca, tda⟩ := IH q j hi hq qa
      rw [if_pos h1] at hca
      refine ⟨((Rd02.node G e).a, q) :: l, c + ca, je, .cons q j l qa T, ?_, by omega, ?_, fun l' n h => ?_⟩
      · show (R G s e q).1 = _
        rw [(r_five W S he hq hk).2 j qa]
        exact e1
      · rw [if_pos (by omega)]
        have hr := (RK.le _ la).2
        by_cases q2 : j < je
        · rw [if_pos q2] at hc
          have : je - q - 1 = (j - q - 1) + (je - j - 1) + 1 := by omega
          rw [this, Nat.mul_add, Nat.mul_add, Nat.mul_one]
          omega
        · rw [if_neg q2] at hc
          have : je = j := by omega
          subst this
          omega
      · have := tda _ _ (td l' n h)
        rw [Nat.add_assoc] at this
        exact this
theorem todo_ex (k m e i j : Nat) (hk : s.length - i ≤ k) (hm : rank e ≤ m) (he : e < G.nodes.length) (hi : i ≤ s.length) (h : R1 G s e i = some j) :
    ∃ c, c ≤ (if i < j then (2 * G.nodes.length + 1) * (j - i - 1) + 2 * rank e + 1 else 1) ∧ ∀ l n, Todo G s l n → Todo G s ((e, i) :: l) (n + c) := by
  have hj := r1_le W S he hi h
  by_cases hz : i < j
  · rw [if_pos hz]
    have k0 : 0 < k := by omega
    have m0 : 0 < m := by have := (RK.le e he).1; omega
    have rN := (RK.le e he).2
    have hx := W.kind e _ (node_at he)
    have two := W.two e _ (node_at he)
    have one := W.one e _ (node_at he)
    -- a maker at this place, which stands lower; one at a later place
    have here : ∀ d j', rank d < rank e → d < G.nodes.length → R1 G s d i = some j' → ∃ c, c ≤ (if i < j' then (2 * G.nodes.length + 1) * (j' - i - 1) + 2 * rank d + 1 else 1) ∧ ∀ l n, Todo G s l n → Todo G s ((d, i) :: l) (n + c) :=
      fun d j' hr hd h' => todo_ex k (m - 1) d i j' hk (by omega) hd hi h'
    have later : ∀ d q j', i < q → q ≤ s.length → d < G.nodes.length → R1 G s d q = some j' → ∃ c, c ≤ (if q < j' then (2 * G.nodes.length + 1) * (j' - q - 1) + 2 * rank d + 1 else 1) ∧ ∀ l n, Todo G s l n → Todo G s ((d, q) :: l) (n + c) :=
      fun d q j' hq1 hq2 hd h' => todo_ex (k - 1) G.nodes.length d q j' (by omega) (RK.le d hd).2 hd hq2 h'
    rcases Nat.lt_or_ge (Rd02.node G e).kind 3 with k3 | k3
    · refine ⟨1, by omega, fun l n td => .node (e, i) j [] l n h hz ⟨fun z => ?_, fun z => ?_, fun z => ?_, fun z => ?_, fun _ => rfl⟩ td⟩ <;>
      · have z : (Rd02.node G e).kind = _ := z
        omega
    · by_cases k3' : (Rd02.node G e).kind = 3
      · obtain ⟨la, lb⟩ := two (.inl k3')
        obtain ⟨t1, t2⟩ := r_three W S he hi k3'
        have ra := (RK.three e he k3').1
        cases qa : R1 G s (Rd02.node G e).a i with
        | none => rw [show R1 G s e i = none by show (R G s e i).1 = none; rw [t1 qa]] at h; cases h
        | some x =>
          have hxx := r1_le W S la hi qa
          obtain ⟨u1, u2⟩ := t2 x qa
          cases qb : R1 G s (Rd02.node G e).b x with
          | none => rw [show R1 G s e i = none by show (R G s e i).1 = none; rw [u1 qb]] at h; cases h
          | some y =>
            have hy := r1_le W S lb hxx.2 qb
            have hyj : y = j := by
              have h : (R G s e i).1 = some j := h
              rw [u2 y qb] at h
              exact Option.some.inj h
            subst hyj
            have M : MkOk G s (e, i) [((Rd02.node G e).a, i), ((Rd02.node G e).b, x)] := ⟨fun _ => ⟨x, qa, rfl⟩, fun z => absurd z (by show (Rd02.node G e).kind ≠ 4; omega), fun z => absurd z (by show (Rd02.node G e).kind ≠ 5; omega), fun z => absurd z (by show (Rd02.node G e).kind ≠ 7; omega), fun z => absurd z (by show ¬ ((Rd02.node G e).kind < 3 ∨ (Rd02.node G e).kind = 6); omega)⟩
            obtain ⟨ca, hca, tda⟩ := here (Rd02.node G e).a x ra la qa
            by_cases q : x = i
            · subst q
              rw [if_neg (Nat.lt_irrefl _)] at hca
              have rb := three_low W S RK he hi k3' qa
              obtain ⟨cb, hcb, tdb⟩ := here (Rd02.node G e).b y rb lb qb
              rw [if_pos hz] at hcb
              exact ⟨cb + ca + 1, by omega, fun l n td => .node (e, x) y _ l (n + (cb + ca)) h hz M (by rw [← Nat.add_assoc]; exact tda _ _ (tdb l n td))⟩
            · obtain ⟨cb, hcb, tdb⟩ := later (Rd02.node G e).b x y (by omega) hxx.2 lb qb
              rw [if_pos (by omega)] at hca
              refine ⟨cb + ca + 1, ?_, fun l n td => .node (e, i) y _ l (n + (cb + ca)) h hz M (by rw [← Nat.add_assoc]; exact tda _ _ (tdb l n td))⟩
              have rbN := (RK.le _ lb).2
              by_cases q2 : x < y
              · rw [if_pos q2] at hcb
                have : y - i - 1 = (x - i - 1) + (y - x - 1) + 1 := by omega
                rw [this, Nat.mul_add, Nat.mul_add, Nat.mul_one]
                omega
              · rw [if_neg q2] at hcb
                have : y = x := by omega
                subst this
                omega
      by_cases k4 : (Rd02.node G e).kind = 4
      · obtain ⟨la, lb⟩ := two (.inr k4)
        obtain ⟨ra, rb⟩ := RK.four e he k4
        obtain ⟨t1, t2⟩ := r_four W S he hi k4
        have M : MkOk G s (e, i) [(if R1 G s (Rd02.node G e).a i = none then (Rd02.node G e).b else (Rd02.node G e).a, i)] := ⟨fun z => absurd z (by show (Rd02.node G e).kind ≠ 3; omega), fun _ => rfl, fun z => absurd z (by show (Rd02.node G e).kind ≠ 5; omega), fun z => absurd z (by show (Rd02.node G e).kind ≠ 7; omega), fun z => absurd z (by show ¬ ((Rd02.node G e).kind < 3 ∨ (Rd02.node G e).kind = 6); omega)⟩
        have h' : (R G s e i).1 = some j := h
        by_cases qa : R1 G s (Rd02.node G e).a i = none
        · rw [if_pos qa] at M
          rw [t1 qa] at h'
          obtain ⟨c, hc, td1⟩ := here (Rd02.node G e).b j rb lb h'
          rw [if_pos hz] at hc
          exact ⟨c + 1, by omega, fun l n td => .node (e, i) j _ l _ h hz M (td1 l n td)⟩
        · rw [if_neg qa] at M
          obtain ⟨x, hx'⟩ := Option.ne_none_iff_exists'.mp qa
          rw [t2 x hx'] at h'
          obtain ⟨c, hc, td1⟩ := here (Rd02.node G e).a j ra la h'
          rw [if_pos hz] at hc
          exact ⟨c + 1, by omega, fun l n td => .node (e, i) j _ l _ h hz M (td1 l n td)⟩
      by_cases k5 : (Rd02.node G e).kind = 5
      · have la := one (.inl k5)
        have ra := (RK.five e he k5).1
        obtain ⟨l0, c, je, T, e1, e2, hc, td1⟩ := five_cost W S RK he k5 (i := i) (fun q j' hq1 hq2 h' => by
          by_cases qi : q = i
          · subst qi
            exact here _ j' ra la h'
          · exact later _ q j' (by omega) hq2 la h') (s.length - i) i (Nat.le_refl _) (Nat.le_refl _) hi
        have : je = j := by
          rw [h] at e1
          exact (Option.some.inj e1).symm
        subst this
        rw [if_pos hz] at hc
        have M : MkOk G s (e, i) l0 := ⟨fun z => absurd z (by show (Rd02.node G e).kind ≠ 3; omega), fun z => absurd z (by show (Rd02.node G e).kind ≠ 4; omega), fun _ => T, fun z => absurd z (by show (Rd02.node G e).kind ≠ 7; omega), fun z => absurd z (by show ¬ ((Rd02.node G e).kind < 3 ∨ (Rd02.node G e).kind = 6); omega)⟩
        exact ⟨c + 1, by omega, fun l n td => .node (e, i) je _ l _ h hz M (td1 l n td)⟩
      by_cases k6 : (Rd02.node G e).kind = 6
      · obtain ⟨t1, t2⟩ := r_six W S he hi k6
        have h' : (R G s e i).1 = some j := h
        cases qa : R1 G s (Rd02.node G e).a i with
        | none =>
          rw [t1 qa] at h'
          have : i = j := Option.some.inj h'
          omega
        | some x =>
          rw [t2 x qa] at h'
          cases h'
      · have k7 : (Rd02.node G e).kind = 7 := by omega
        obtain ⟨d, hd, ld, rd⟩ := RK.seven e he k7
        have h' := h
        rw [(r_seven W S he hi k7 hd).1] at h'
        obtain ⟨c, hc, td1⟩ := here d j rd ld h'
        rw [if_pos hz] at hc
        have M : MkOk G s (e, i) [(d, i)] := ⟨fun z => absurd z (by show (Rd02.node G e).kind ≠ 3; omega), fun z => absurd z (by show (Rd02.node G e).kind ≠ 4; omega), fun z => absurd z (by show (Rd02.node G e).kind ≠ 5; omega), fun _ => ⟨d, hd, rfl⟩, fun z => absurd z (by show ¬ ((Rd02.node G e).kind < 3 ∨ (Rd02.node G e).kind = 6); omega)⟩
        exact ⟨c + 1, by omega, fun l n td => .node (e, i) j _ l _ h hz M (td1 l n td)⟩
  · rw [if_neg hz]
    have : j = i := by omega
    subst this
    exact ⟨1, Nat.le_refl _, fun l n td => .skip (e, j) l n h td⟩
termination_by (k, m)
theorem todo_one {e j : Nat} (he : e < G.nodes.length) (h : R1 G s e 0 = some j) (h64 : G.nodes.length ≤ 64) (h40 : s.length ≤ 40) : ∃ n, n ≤ 6000 ∧ Todo G s [(e, 0)] n := by
  obtain ⟨c, hc, td⟩ := todo_ex W S RK (s.length) (rank e) e 0 j (by omega) (Nat.le_refl _) he (Nat.zero_le _) h
  refine ⟨0 + c, ?_, td [] 0 .nil⟩
  have hj := r1_le W S he (Nat.zero_le _) h
  have hr := (RK.le e he).2
  split at hc
  · have : (2 * G.nodes.length + 1) * (j - 0 - 1) ≤ 129 * 40 := Nat.mul_le_mul (by omega) (by omega)
    omega
  · omega
end
end Ow
set_option Elab.async false
set_option linter.all false
set_option maxRecDepth 100000
set_option maxHeartbeats 2000000
namespace L2
open PySem PySem.Spec PyProof.Rows
section
variable {X : Cx} {pins : List (Addr × Obj)} {σ : St} {H : Hp} {s : Shared} {h : Heap}
def hidL (X : Cx) (H : Hp) (h : Heap) : List Addr := X.env.locals :: (frs X.stack ++ trk h H)
def nowB (X : Cx) (H : Hp) (h : Heap) : Heap := PySem.W.hideAll h (hidL X H h)
theorem nowB_size : (nowB X H h).objs.size = h.objs.size := PySem.W.hideAll_size _ _
theorem of_nowB {b : Addr} {o : Obj} (e : (nowB X H h).get? b = some o) : h.get? b = some o ∧ H b = none := by
  have e' : h.get? b = some o := PySem.W.of_hideAll _ e
  have hn : b ∉ hidL X H h := fun hm => by
    have z : (nowB X H h).get? b = none := PySem.W.hideAll_none _ hm
    rw [z] at e; cases e
  refine ⟨e', ?_⟩
  cases q : H b with
  | none => rfl
  | some x => exact absurd (List.mem_cons_of_mem _ (List.mem_append_right _ (List.mem_filter.mpr ⟨List.mem_range.mpr (Heap.lt_size e'), by simp [q]⟩))) hn
theorem nowB_get {b : Addr} {o : Obj} (e : h.get? b = some o) (n : H b = none) (n1 : b ≠ X.env.locals) (n2 : b ∉ X.fs) (hs : ∀ b ∈ frs X.stack, b ∈ X.env.locals :: X.fs) : (nowB X H h).get? b = some o :=
  PySem.W.hideAll_get _ e fun hm => by
    rcases List.mem_cons.mp hm with z | z
    · exact n1 z
    · rcases List.mem_append.mp z with z | z
      · exact (List.mem_cons.mp (hs b z)).elim n1 n2
      · have q : (H b).isSome = true := (List.mem_filter.mp z).2
        rw [n] at q; simp at q
theorem Inv.baseNow (I : Inv X pins σ H s) {b : Addr} {o : Obj} (e : X.base.get? b = some o) : (nowB X H s.heap).get? b = some o := by
  obtain ⟨e1, e2⟩ := I.bs b o e
  refine nowB_get e1 e2 (fun q => ?_) (I.ok.nofr e) I.stkSub
  have h1 := Heap.lt_size (I.ok.bs b o e).1
  have h2 := I.ok.above
  rw [q] at h1
  exact absurd (Nat.lt_of_lt_of_le h1 h2) (Nat.lt_irrefl _)
theorem Inv.envNow (I : Inv X pins σ H s) : Env0 X.prog X.w X.K X.mg (nowB X H s.heap) X.A X.stack s H := by
  have kp : ∀ b o, X.base.get? b = some o → (nowB X H s.heap).get? b = some o := fun b o e => I.baseNow e
  have e0 := I.env0
  refine ⟨e0.frames, ⟨e0.mod.kin.keeps kp, e0.mod.glob.keeps kp, ?_, e0.mod.nolimit.keeps kp⟩, fun b o e => of_nowB e, Nat.le_of_eq nowB_size, ?_, e0.frf, e0.hok, e0.bare⟩
  · obtain ⟨mb, h1, h2⟩ := e0.mod.blt
    exact ⟨mb, h1.keeps kp, h2⟩
  · exact PySem.W.funFrames_hide e0.funs fun env he a ha => List.mem_cons_of_mem _ (List.mem_append_left _ (List.mem_filterMap.mpr ⟨env, he, ha⟩))
end
structure LamScope (N P F : List Str) (sc : Scope) : Prop where
  kind : sc.kind = .function
  co : sc.isCoroutine = false
  gen : sc.isGenerator = false
  nd : N.Nodup
  eq : N = P ++ F
  par : ∀ x ∈ P, sc.names.lookup x = some .local
  fre : ∀ x ∈ F, sc.names.lookup x = some .free
  nocell : ∀ y ∈ sc.names, y.2 ≠ .cell
  only : ∀ y ∈ sc.names, y.2 = .free → y.1 ∈ F
structure CloAt (h : Heap) (F : List Str) (clos : List (Str × Addr)) (cvs : List V) : Prop where
  len : cvs.length = F.length
  at_ : ∀ (i : Nat) (x : Str) (v : V), F[i]? = some x → cvs[i]? = some v → ∃ c u, clos.lookup x = some c ∧ RelV v u ∧ h.IsCell c (some u)
  inj : ∀ x y c, clos.lookup x = some c → clos.lookup y = some c → x = y
  cell : ∀ x c, clos.lookup x = some c → ∃ v, h.IsCell c v
def codeHO (c : Addr) (qual : Str) : HO := .ext fun h => h.CodeRec (.ref c) qual
theorem codeHO_ok {P : Program} {w : World} {H : Hp} {h : Heap} {c : Addr} {qual : Str} (x : h.CodeRec (.ref c) qual) : ObjOk P w H h c (codeHO c qual) := by
  obtain ⟨c2, o, vs, t, e, g, d, v⟩ := id x
  cases e
  refine ⟨x, ⟨o, g⟩, fun h1 h2 y k => ?_⟩
  obtain ⟨c3, o3, vs3, t3, e3, g3, d3, v3⟩ := y
  cases e3
  exact ⟨c, o3, vs3, t3, rfl, k _ g3, d3, v3⟩
def cxLam (CX : CXT) (P : Program) (w : World) (K : PySem.W.Frag) (mg : Str → Option Value) (base : Heap) (N : List Str) (qual : Str) (scope : Scope) (f : Addr) (cd : Value) (clos : List (Str × Addr)) (A : Around) (outer : List Env) (s : Shared) (H : Hp) (E : XK) : Cx where
  prog := P
  w := w
  K := K
  mg := mg
  base := base
  A := A.deeper (PySem.W.envX qual scope s.heap.objs.size f cd clos)
  N := N
  s_0 := s
  H_0 := H
  env := PySem.W.envX qual scope s.heap.objs.size f cd clos
  outer := outer
  stack := PySem.W.envX qual scope s.heap.objs.size f cd clos :: outer
  ex := []
  calm := true
  fn := fun _ => false
  pn := []
  xe := fun e s' => wpAny (model P w) (A.deeper (PySem.W.envX qual scope s.heap.objs.size f cd clos)) (leaving (PySem.W.envX qual scope s.heap.objs.size f cd clos) e) (fun _ s'' => CX outer H s E e s'') (fun e' s'' => CX outer H s E e' s'') s'
theorem lookup_rev {x : Str} {u : Value} : ∀ {ps : List Str} {us : List Value} {i : Nat}, ps.Nodup → ps[i]? = some x → us[i]? = some u → (ps.zip us).reverse.lookup x = some u
  | [], _, _, _, h, _ => by simp at h
  | _ :: _, [], _, _, _, h => by simp at h
  | p :: ps, v :: us, 0, nd, h1, h2 => by
    simp at h1 h2
    subst h1 h2
    have no : ∀ {l : List (Str × Value)}, (∀ y ∈ l, y.1 ≠ p) → l.lookup p = none := fun {l} => by
      induction l with
      | nil => intro _; rfl
      | cons a l ih =>
        intro h
        have hb : (p == a.1) = false := beq_eq_false_iff_ne.mpr fun q => h a List.mem_cons_self q.symm
        obtain ⟨a1, a2⟩ := a
        rw [List.lookup_cons, hb]
        exact ih fun y hy => h y (List.mem_cons_of_mem _ hy)
    rw [List.zip_cons_cons, List.reverse_cons, List.lookup_append, no fun y hy q => (List.nodup_cons.mp nd).1 (by
      obtain ⟨y1, y2⟩ := y
      have q : y1 = p := q
      rw [← q]
      exact (List.of_mem_zip (List.mem_reverse.mp hy)).1)]
    simp
  | p :: ps, v :: us, i + 1, nd, h1, h2 => by
    rw [List.zip_cons_cons, List.reverse_cons, List.lookup_append, lookup_rev (i := i) (List.nodup_cons.mp nd).2 (by simpa using h1) (by simpa using h2)]
    rfl
theorem lam_of {CX : CXT} {P : Program} {w : World} {K : PySem.W.Frag} {mg : Str → Option Value} {base : Heap} {k : Nat} {f c' : Addr} {name qual : Str} {params : Arguments} {body : Expr} {scope : Scope} {clos : List (Str × Addr)} {pm ctv : Value}
    {N ps fr : List Str} {cvs : List V} {sp : Sp} (ho : base.get? f = some (PySem.W.kla_obj name qual params body scope clos pm c' ctv)) (S : LamScope N ps fr scope) (C : CloAt base fr clos cvs)
    (len : ∀ vs H Q E, sp vs H Q E → vs.length = ps.length) (hcd : ∀ vs H Q E, sp vs H Q E → H c' = some (codeHO c' qual))
    (hbody : ∀ (A : Around) (outer : List Env) (s : Shared) (H : Hp) (vs : List V) (Q : VK) (E : XK), Room k (A.deeper (PySem.W.envX qual scope s.heap.objs.size f (.ref c') clos)) → sp vs H Q E →
      ∃ t, PE (cxLam CX P w K mg base N qual scope f (.ref c') clos A outer s H E) body t ∧ t (vs.map some ++ cvs.map some) H Q) :
    FnOk P w K mg base CX (k + 1) f (PySem.W.kla_fn name qual params body scope clos pm (.ref c') ctv) ps sp := by
  refine ⟨len, fun A outer s H args us vs Q E hr e0 hb r hsp => ?_⟩
  have hl := len _ _ _ _ hsp
  have kp : ∀ b o, base.get? b = some o → s.heap.get? b = some o := fun b o e => (e0.bs b o e).1
  have lim : s.heap.NoLimit := e0.mod.nolimit.keeps kp
  have hrec : s.heap.CodeRec (.ref c') qual := (e0.hok c' _ (hcd _ _ _ _ hsp)).1
  have ndP : ps.Nodup := by
    have := S.nd
    rw [S.eq] at this
    exact (List.nodup_append.mp this).1
  refine PySem.W.kla_callFunE hr.depth (kp _ _ ho) rfl S.co S.gen rfl hrec (hb _ _ _ _ ?_)
  refine wpAny_newFunctionEnv S.nocell (fun y hy => S.par y.1 (List.of_mem_zip (show (y.1, y.2) ∈ _ from hy)).1) (fun h1 hns hsb => ⟨lim.fresh _ hsb, ?_⟩) S.kind
  show codeAny _ _ (.expr body (PySem.W.envX qual scope s.heap.objs.size f (.ref c') clos)) _ _
  have hk1 : ∀ b o, s.heap.get? b = some o → h1.get? b = some o := fun b o e => hsb.extBut b o (Nat.ne_of_lt (Heap.lt_size e)) (Heap.get?_push_of_some _ e)
  obtain ⟨t, ht, hq⟩ := hbody A outer s H vs Q E (hr.deeper _) hsp
  have cellK : ∀ {c : Addr} {v : Option Value}, base.IsCell c v → h1.IsCell c v := fun x => x.keeps fun b o e => hk1 b o (kp b o e)
  have I : Inv (cxLam CX P w K mg base N qual scope f (.ref c') clos A outer s H E) [] (vs.map some ++ cvs.map some) H { s with heap := h1, toks := s.toks + (ps.zip us).length } := by
    have noA : ∀ b : Addr, b ∉ (cxLam CX P w K mg base N qual scope f (.ref c') clos A outer s H E).ex := fun b z => absurd (show b ∈ ([] : List Addr) from z) (by simp)
    refine ⟨⟨e0.mod, S.kind, rfl, rfl, Nat.le_refl _, C.inj, fun y hy => ?_, fun y c z => Bool.noConfusion z, fun _ => hr.hd, Around.frames_deeper e0.frames, .inr ⟨rfl, rfl⟩, fun b z => absurd z (noA b), e0.bs, e0.bsz, fun b _ _ => noA b, fun b z => absurd z (noA b), e0.funs, e0.frf⟩,
      rfl, e0.bare, Un.kept hk1, ⟨_, hns, fun i y v h1' h2 h3 => ?_⟩, fun y c h => ?_, e0.hok.fresh (Nat.le_refl _), fun y c h => ?_, fun p hp => absurd (show p ∈ ([] : List (Addr × Obj)) from hp) (by simp), e0.hok.kept hk1, ?_⟩
    · have hy : scope.names.lookup y = some .cell ∨ scope.names.lookup y = some .free := hy
      rcases hy with hy | hy
      · exact absurd rfl (S.nocell _ (PySem.mem_of_lookup hy))
      · have hm := S.only _ (PySem.mem_of_lookup hy) rfl
        obtain ⟨i, hi⟩ := List.getElem?_of_mem hm
        have hlt : i < cvs.length := by rw [C.len]; exact (List.getElem?_eq_some_iff.mp hi).1
        obtain ⟨c, u, hc, _⟩ := C.at_ i y _ hi (List.getElem?_eq_getElem hlt)
        exact ⟨c, hc⟩
    · have h1' : N[i]? = some y := h1'
      rw [S.eq] at h1'
      by_cases hi : i < ps.length
      · rw [List.getElem?_append_left hi] at h1'
        rw [List.getElem?_append_left (by rw [List.length_map, hl]; exact hi), List.getElem?_map] at h2
        have ha : vs[i]? = some v := by
          cases e : vs[i]? with
          | none => rw [e] at h2; cases h2
          | some a => rw [e] at h2; cases h2; rfl
        obtain ⟨u, hu, rv⟩ := r.get ha
        exact ⟨u, rv, .inl ⟨S.par y (List.mem_of_getElem? h1'), lookup_rev ndP h1' hu⟩⟩
      · rw [List.getElem?_append_right (by omega)] at h1'
        rw [List.getElem?_append_right (by rw [List.length_map, hl]; omega), List.length_map, hl, List.getElem?_map] at h2
        have ha : cvs[i - ps.length]? = some v := by
          cases e : cvs[i - ps.length]? with
          | none => rw [e] at h2; cases h2
          | some a => rw [e] at h2; cases h2; rfl
        obtain ⟨c, u, hc, rv, hcell⟩ := C.at_ _ y v h1' ha
        exact ⟨u, rv, .inr ⟨.inr (S.fre y (List.mem_of_getElem? h1')), c, hc, cellK hcell⟩⟩
    · obtain ⟨v, z⟩ := C.cell y c h
      exact ⟨v, cellK z⟩
    · obtain ⟨v, o, z, _⟩ := C.cell y c h
      exact (e0.bs c o z).2
    · show _ = N.length
      rw [S.eq, List.length_append, List.length_append, List.length_map, List.length_map, hl, C.len]
  refine PySem.W.kla_codeExpr (wpAny_mono (ht [] _ _ H Q I hq) (fun u s' hs => ?_) fun e s' hs => hs)
  obtain ⟨v, H', J, rv, q⟩ := hs
  exact ⟨v, H', J.os, J.bare, J.base, J.hok, rv, q⟩
section
variable {X : Cx} {CX : CXT} {k : Nat} {f : Addr} {fd : FuncData} {ps : List Str} {sp : Sp} {E : XK} {x : Str} {p pos : Pos} {e : Expr} {es : List Expr} {t : TA}
def tCallV (i : Nat) (f : Addr) (sp : Sp) (E : XK) (t : TA) : TE := fun σ H Q => σ[i]? = some (some (.ref f)) ∧ t σ H fun vs H1 => sp vs H1 Q E
theorem pe_callV (i : Nat) (F : FnOk X.prog X.w X.K X.mg X.base CX k f fd ps sp) (hf : ∃ oc od sl, X.base.get? f = some ⟨oc, od, .func fd, sl⟩) (hr : Room k X.A) (hb : ∀ (s : Shared) (us : List Value), us.length = ps.length → BindsTo s fd ⟨us, []⟩ (ps.zip us))
    (hx : Passes CX X E) (ha : PA X (e :: es) t) (hN : X.N[i]? = some x) (hv : Vis X.env.scope x) (hd : (x == ("__debug__" : Str)) = false := by decide) (hcd : (x == ("__classdict__" : Str)) = false := by decide)
    (he : starEach (e :: es) X.env = (false, eval e X.env) :: starEach es X.env := by rfl) (hpl : (backTo pos (starEach es X.env)).any (·.1) = false := by rfl) : PE X (.Call (.Name x p) (e :: es) [] pos) (tCallV i f sp E t) := by
  intro pins s σ H Q I h
  obtain ⟨h0, h⟩ := h
  obtain ⟨oc, od, sl, hf⟩ := hf
  have fn : ∀ {s1 : Shared} {H1 : Hp}, Inv X pins σ H1 s1 → PySem.W.FnAt f s1.heap := fun I1 => ⟨oc, od, fd, sl, I1.bk _ _ hf⟩
  refine wpAny_Call_Name_kw (thn (pe_var hN hv hd hcd pins s σ H (fun v H1 => v = .ref f ∧ H1 = H) I ⟨_, h0, rfl, rfl⟩) fun u s1 ⟨v, H1, I1, r1, ev, eH⟩ => ?_)
  subst ev eH
  obtain rfl : u = Value.ref f := r1
  refine PySem.W.callWith_F (fn I1) (thn (ha pos pins s1 σ H1 _ I1 h) fun us s2 ⟨vs, H2, I2, r, q⟩ => ⟨fn I2, ?_⟩) he hpl
  have hl : us.length = ps.length := by rw [← r.length]; exact F.len _ _ _ _ q
  refine wpAny_call (codeAny_mono (F.run X.A X.stack s2 H2 ⟨us, []⟩ us vs Q E hr I2.env0 (hb s2 us hl) r q) fun r s' hq => ?_)
  cases r with
  | error e => exact hx pins σ H2 s2 e s' I2 hq
  | ok fl =>
    cases fl with
    | ret u => exact I2.after hq
    | next => exact False.elim hq
    | brk => exact False.elim hq
    | cont => exact False.elim hq
end
def TabS (H : Hp) (P : Addr) (pos : Pos) (qual : Str) (c' : Addr) : Prop := H P = some (.tbl #[rawInt pos.line, rawInt pos.col, .ref c']) ∧ H c' = some (codeHO c' qual)
def TabOk (H : Hp) (P : Addr) (pos : Pos) (qual : Str) : Prop := H P = some (.tbl #[]) ∨ ∃ c', TabS H P pos qual c'
def Bm (mg : Str → Option Value) (base : Heap) : Prop := ∃ bm o, mg "__builtins__" = some (.ref bm) ∧ bm ≠ builtinsNs ∧ bm ≠ mainGlobals ∧ base.get? bm = some o ∧ o.cls = .type "module" ∧ o.dict = some builtinsNs ∧ o.data = .plain
theorem Bm.keeps {mg : Str → Option Value} {h h' : Heap} (x : Bm mg h) (k : ∀ b o, h.get? b = some o → h'.get? b = some o) : Bm mg h' :=
  let ⟨bm, o, a, b, c, d, r⟩ := x; ⟨bm, o, a, b, c, k _ _ d, r⟩
section
variable {X : Cx} {pins : List (Addr × Obj)} {σ : St} {H : Hp} {s : Shared} {c P : Addr} {params : Arguments} {body : Expr} {scope : Scope} {lpos : Pos} {clos : List (Str × Addr)}
theorem lam_make {Q : Value → Shared → Prop} (I : Inv X pins σ H s) (C : PySem.W.CodeHd X.base c P) (hcode : X.env.code = .ref c) (B : Bm X.mg X.base) (hcl : closureFor scope X.env = pure clos) (hdef : defaultsOf params X.env = ([], []))
    (T : TabOk H P lpos (X.env.qual ++ "<lambda>"))
    (h : ∀ (f c' : Addr) (ctv : Value) (H3 : Hp) (s3 : Shared), Inv X pins σ H3 s3 → (∀ b o, b ≠ P → H b = some o → H3 b = some o) → TabS H3 P lpos (X.env.qual ++ "<lambda>") c' →
      s3.heap.get? f = some (PySem.W.kla_obj "<lambda>" (X.env.qual ++ "<lambda>") params body scope clos ((X.mg "__name__").getD .none) c' ctv) → s.heap.objs.size ≤ f → H3 f = none → Q (.ref f) s3) :
    wpAny (model X.prog X.w) X.A (eval (.Lambda params body scope lpos) X.env) Q X.xe s := by
  refine PySem.W.kla_eval hdef ?_
  have hg : s.heap.Ns mainGlobals X.mg := I.ok.mod.glob.keeps I.bk
  have hC := C.keeps I.bk
  have HP : ∃ u, H P = some u := by
    rcases T with T | ⟨c', T, _⟩
    · exact ⟨_, T⟩
    · exact ⟨_, T⟩
  obtain ⟨uP, HP⟩ := HP
  have nP : ∀ {b : Addr} {o : Obj}, X.base.get? b = some o → b ≠ P := fun {b o} e q => by
    have := (I.bs b o e).2
    rw [q, HP] at this
    cases this
  have hgP : mainGlobals ≠ P := by
    obtain ⟨o, es, ep, e, _⟩ := I.ok.mod.glob
    exact nP e
  have hb : s.heap.BuiltinsAt X.mg P := by
    obtain ⟨bm, o, b1, b2, b3, b4, b5, b6, b7⟩ := B
    exact ⟨bm, o, b1, b2, b3, nP b4, I.bk _ _ b4, b5, b6, b7⟩
  rcases T with T | ⟨c', T, Tc⟩
  · have hP : s.heap.get? P = some (PySem.W.tabObj #[]) := I.hok P _ T
    refine PySem.W.kla_makeFunction (mg := X.mg) (ps := #[]) hcl I.ok.glob hg hcode hC hP trivial rfl hgP hb fun c' ctv h' tk hx hge hlt hrec htb => ?_
    have lP := Heap.lt_size hP
    have ncP : c' ≠ P := Nat.ne_of_gt (Nat.lt_of_lt_of_le lP hge)
    have pk : ∀ b o, h'.get? b = some o → (h'.push (PySem.W.kla_obj "<lambda>" (X.env.qual ++ "<lambda>") params body scope clos ((X.mg "__name__").getD .none) c' ctv)).get? b = some o := fun b o e => Heap.get?_push_of_some _ e
    have htb : h'.get? P = some (PySem.W.tabObj #[rawInt lpos.line, rawInt lpos.col, .ref c']) := by
      have := htb
      simpa using this
    have fc : H c' = none := I.hok.fresh hge
    have nb : ∀ b, H b = none → b ≠ P := fun b n q => by rw [q, HP] at n; cases n
    have nbc : ∀ b o, s.heap.get? b = some o → b ≠ c' := fun b o e => Nat.ne_of_lt (Nat.lt_of_lt_of_le (Heap.lt_size e) hge)
    have e3P : upd (upd H P (.tbl #[rawInt lpos.line, rawInt lpos.col, .ref c'])) c' (codeHO c' (X.env.qual ++ "<lambda>")) P = some (.tbl #[rawInt lpos.line, rawInt lpos.col, .ref c']) := by rw [upd_ne ncP.symm, upd_same]
    have e3 : ∀ b o, b ≠ P → H b = some o → upd (upd H P (.tbl #[rawInt lpos.line, rawInt lpos.col, .ref c'])) c' (codeHO c' (X.env.qual ++ "<lambda>")) b = some o := fun b o n q => by
      rw [upd_ne (ne_of_none q fc), upd_ne n]
      exact q
    have nx : h'.objs.size ≠ c' := Nat.ne_of_gt hlt
    have fx : H h'.objs.size = none := I.hok.fresh (Nat.le_trans hge (Nat.le_of_lt hlt))
    refine h h'.objs.size c' ctv _ _ (I.un (t' := tk) (H' := upd (upd H P (.tbl #[rawInt lpos.line, rawInt lpos.col, .ref c'])) c' (codeHO c' (X.env.qual ++ "<lambda>"))) ⟨fun b o e n _ _ => pk _ _ (hx b o (nb b n) e), fun b o e n _ _ => ⟨o.slots, pk _ _ (hx b o (nb b n) e)⟩, fun b o e n _ => ?_, fun b o e _ => ?_, fun b xs q => ?_, fun b o u q => ?_, fun b ps q => ?_⟩ fun b u q => ?_) e3 ⟨e3P, upd_same⟩ (Heap.get?_push_size _ rfl) (Nat.le_trans hge (Nat.le_of_lt hlt)) ?_
    · rw [upd_ne (nbc b o e), upd_ne (nb b n)]
      exact n
    · by_cases z : b = P
      · exact ⟨_, by rw [z]; exact pk _ _ htb⟩
      · exact ⟨o, pk _ _ (hx b o z e)⟩
    · exact e3 b _ (fun z => by rw [z, T] at q; cases q) q
    · exact e3 b _ (fun z => by rw [z, T] at q; cases q) q
    · by_cases z : b = P
      · subst z
        rw [T] at q
        cases q
        exact ⟨#[rawInt lpos.line, rawInt lpos.col, .ref c'], by rw [e3P]; simp⟩
      · exact ⟨#[], by rw [e3 b _ z q]; simp⟩
    · by_cases z : b = c'
      · subst z
        rw [upd_same] at q
        cases q
        exact codeHO_ok (hrec.keeps pk)
      · rw [upd_ne z] at q
        by_cases z2 : b = P
        · subst z2
          rw [upd_same] at q
          cases q
          exact pk _ _ htb
        · rw [upd_ne z2] at q
          refine (I.hok b u q).stay (fun d v hd e => pk _ _ (hx d v ?_ e)) (fun d r => e3 d _ (fun y => by rw [y, T] at r; cases r) r) fun d xs r => e3 d _ (fun y => by rw [y, T] at r; cases r) r
          rcases hd with hd | hd
          · rw [hd]; exact z2
          · exact fun y => by rw [y, T] at hd; cases hd
    · rw [upd_ne nx, upd_ne (fun z => by rw [z, HP] at fx; cases fx)]
      exact fx
  · have hP : s.heap.get? P = some (PySem.W.tabObj #[rawInt lpos.line, rawInt lpos.col, .ref c']) := I.hok P _ T
    refine PySem.W.kla_makeFunctionHit (mg := X.mg) (cv := .ref c') hcl I.ok.glob hg hcode hC hP (by simp [TriplesOk, rawInt]) (by simp [codeAmong, rawInt]) hb fun ctv h' tk hk hsz => ?_
    have pk : ∀ b o, s.heap.get? b = some o → (h'.push (PySem.W.kla_obj "<lambda>" (X.env.qual ++ "<lambda>") params body scope clos ((X.mg "__name__").getD .none) c' ctv)).get? b = some o := fun b o e => Heap.get?_push_of_some _ (hk b o e)
    exact h h'.objs.size c' ctv H _ (I.kept (t' := tk) pk) (fun _ _ _ q => q) ⟨T, Tc⟩ (Heap.get?_push_size _ rfl) hsz (I.hok.fresh hsz)
variable {CX : CXT} {k : Nat} {f : Addr} {fd : FuncData} {ps fr : List Str} {caps : List Nat} {sp : Addr → Addr → List V → Sp} {E : XK} {x : Str} {p pos : Pos} {e1 e2 : Expr} {t1 t2 : TE}
def tCallLam (P : Addr) (lpos : Pos) (qual : Str) (caps : List Nat) (sp : Addr → Addr → List V → Sp) (E : XK) (t1 t2 : TE) : TE := fun σ H Q => t1 σ H fun v1 H1 => t2 σ H1 fun v2 H2 => TabOk H2 P lpos qual ∧ ∃ cvs : List V, caps.map (fun i => (σ[i]?).join) = cvs.map some ∧
  ∀ (fl c' : Addr) (H3 : Hp), (∀ b o, b ≠ P → H2 b = some o → H3 b = some o) → TabS H3 P lpos qual c' → sp fl c' cvs [v1, v2, .ref fl] H3 Q E
theorem pe_callLam (C : PySem.W.CodeHd X.base c P) (hcode : X.env.code = .ref c) (B : Bm X.mg X.base) (hcl : closureFor scope X.env = pure clos) (hdef : defaultsOf params X.env = ([], []))
    (hcl1 : ∀ x c, clos.lookup x = some c → X.env.cells.lookup x = some c) (hcl2 : ∀ x ∈ fr, clos.lookup x = X.env.cells.lookup x) (hcl3 : ∀ x ∈ fr, X.env.kindOf x = some .cell) (hfn : ∀ x c, clos.lookup x = some c → X.fn x = true)
    (hcaps : caps.map (fun i => X.N[i]?) = fr.map some)
    (F : ∀ (base' : Heap) (fl c' : Addr) (ctv : Value) (cvs : List V), (∀ b o, X.base.get? b = some o → base'.get? b = some o) →
      base'.get? fl = some (PySem.W.kla_obj "<lambda>" (X.env.qual ++ "<lambda>") params body scope clos ((X.mg "__name__").getD .none) c' ctv) → CloAt base' fr clos cvs → FnOk X.prog X.w X.K X.mg base' CX k f fd ps (sp fl c' cvs))
    (hr : Room k X.A) (hg : Gl X x) (hm : X.mg x = some (.ref f)) (hk : PySem.W.keepIn X.K (.ref f) = true) (hb : Binds X.K fd ps []) (hx : Passes CX X E) (h1 : PE X e1 t1) (h2 : PE X e2 t2)
    (hdb : (x == ("__debug__" : Str)) = false := by decide)
    (hs1 : starEach [e1, e2, .Lambda params body scope lpos] X.env = (false, eval e1 X.env) :: starEach [e2, .Lambda params body scope lpos] X.env := by rfl)
    (hs2 : starEach [e2, .Lambda params body scope lpos] X.env = (false, eval e2 X.env) :: starEach [.Lambda params body scope lpos] X.env := by rfl)
    (hpl : (backTo pos (starEach [e2, .Lambda params body scope lpos] X.env)).any (·.1) = false := by rfl) :
    PE X (.Call (.Name x p) [e1, e2, .Lambda params body scope lpos] [] pos) (tCallLam P lpos (X.env.qual ++ "<lambda>") caps sp E t1 t2) := by
  intro pins s σ H Q I h
  refine wpAny_Call_Name_kw (ld_glob I hg hm ?_ hdb)
  refine PySem.W.callWith_K (h₀ := X.base) I.ok.mod.kin hk ?_ hs1 hpl
  rw [hs1]
  show wpAny _ _ (spliced ((false, eval e1 X.env) :: backTo pos (starEach [e2, .Lambda params body scope lpos] X.env))) _ _ s
  refine Calls.spliced_cons (thn (h1 pins s σ H _ I h) fun u1 s1 ⟨v1, H1, I1, r1, q1⟩ => ?_)
  rw [hs2]
  show wpAny _ _ (spliced ((false, eval e2 X.env) :: backTo pos (starEach [.Lambda params body scope lpos] X.env))) _ _ s1
  refine Calls.spliced_cons (thn (h2 pins s1 σ H1 _ I1 q1) fun u2 s2 ⟨v2, H2, I2, r2, T, cvs, hcv, q2⟩ => ?_)
  show wpAny _ _ (spliced [(false, eval (.Lambda params body scope lpos) X.env)]) _ _ s2
  refine Calls.spliced_cons (lam_make I2 C hcode B hcl hdef T fun fl c' ctv H3 s3 I3 hsame hT hf hfge hfn3 => ?_)
  refine Calls.spliced_nil ⟨I3.kIn, ?_⟩
  have lc : cvs.length = fr.length := by
    have a := congrArg List.length hcv
    have b := congrArg List.length hcaps
    rw [List.length_map, List.length_map] at a b
    omega
  have cellB : ∀ {x : Str} {c : Addr} {v : Option Value}, X.env.cells.lookup x = some c → X.fn x = true → s3.heap.IsCell c v → (nowB X H3 s3.heap).IsCell c v := fun {x c v} hc hfx ⟨o, ho, hd⟩ => by
    refine ⟨o, nowB_get ho (I3.freeC x c hc) (I3.cne x c hc) (fun z => ?_) I3.stkSub, hd⟩
    obtain ⟨_, o', ho', _⟩ := I3.ok.funs.mem z
    exact absurd (Nat.lt_of_lt_of_le (Heap.lt_size ho') (I3.ok.cab x c hfx hc)) (Nat.lt_irrefl _)
  have CL : CloAt (nowB X H3 s3.heap) fr clos cvs := by
    refine ⟨lc, fun j y v hj hv => ?_, fun a b d ha hb => I3.ok.inj a b d (hcl1 a d ha) (hcl1 b d hb), fun y d hd => ?_⟩
    · have hy := List.mem_of_getElem? hj
      have hc0 : (caps[j]?).map (fun i => (σ[i]?).join) = some (some v) := by rw [← List.getElem?_map, hcv, List.getElem?_map, hv]; rfl
      have hn0 : (caps[j]?).map (fun i => X.N[i]?) = some (some y) := by rw [← List.getElem?_map, hcaps, List.getElem?_map, hj]; rfl
      cases ec : caps[j]? with
      | none => rw [ec] at hc0; cases hc0
      | some i =>
        rw [ec] at hc0 hn0
        have hn1 : X.N[i]? = some y := Option.some.inj hn0
        have hs1 : (σ[i]?).join = some v := Option.some.inj hc0
        have hs2 : σ[i]? = some (some v) := by
          cases eq : σ[i]? with
          | none => rw [eq] at hs1; cases hs1
          | some w => rw [eq] at hs1; have hs1 : w = some v := hs1; rw [hs1]
        obtain ⟨m, _, hl⟩ := I3.loc
        obtain ⟨u, ru, lk⟩ := hl i y v hn1 hs2 (.inr (.inl (hcl3 y hy)))
        rcases lk with ⟨k1, _⟩ | ⟨_, c1, hc1, hcell⟩
        · rw [hcl3 y hy] at k1; cases k1
        · have e2 : clos.lookup y = some c1 := by rw [hcl2 y hy]; exact hc1
          exact ⟨c1, u, e2, ru, cellB hc1 (hfn y c1 e2) hcell⟩
    · obtain ⟨v, z⟩ := I3.cell y d (hcl1 y d hd)
      exact ⟨v, cellB (hcl1 y d hd) (hfn y d hd) z⟩
  have sz2 := I2.sz
  have hfb : (nowB X H3 s3.heap).get? fl = some (PySem.W.kla_obj "<lambda>" (X.env.qual ++ "<lambda>") params body scope clos ((X.mg "__name__").getD .none) c' ctv) :=
    nowB_get hf hfn3 (Nat.ne_of_gt (Nat.lt_of_lt_of_le I2.lt hfge)) (I2.nofs hfge) I3.stkSub
  have F' := F _ fl c' ctv cvs (fun b o e => I3.baseNow e) hfb CL
  have q3 := q2 fl c' H3 hsame hT
  have r : Vals [v1, v2, .ref fl] [u1, u2, .ref fl] := .cons r1 (.cons r2 (.cons rfl .nil))
  have hl : ([u1, u2, .ref fl] : List Value).length = ps.length := by rw [← r.length]; exact F'.len _ _ _ _ q3
  have hb' := hb s3 [u1, u2, .ref fl] I3.kIn (by rw [List.append_nil]; exact hl)
  rw [List.append_nil] at hb'
  refine wpAny_call (codeAny_mono (F'.run X.A X.stack s3 H3 ⟨[u1, u2, .ref fl], []⟩ [u1, u2, .ref fl] [v1, v2, .ref fl] Q E hr I3.envNow hb' r q3) fun r s' hq => ?_)
  cases r with
  | error e => exact hx pins σ H3 s3 e s' I3 hq
  | ok fl =>
    cases fl with
    | ret u => exact I3.after hq
    | next => exact False.elim hq
    | brk => exact False.elim hq
    | cont => exact False.elim hq
end
end L2
set_option Elab.async false
set_option linter.all false
set_option maxRecDepth 100000
set_option maxHeartbeats 2000000
namespace L2
open PySem PySem.Spec PyProof.Rows
section
variable {X : Cx} {a b c d : Expr} {ta tb tc td : TE} {pos : Pos}
def tChain3 (r1 r2 r3 : R2) (ta tb tc td : TE) : TE := fun σ H Q => ta σ H fun x H1 => tb σ H1 fun y H2 => r1 x y H2 fun z H3 => ∃ k, z = .bl k ∧
  (if k = true then tc σ H3 fun w H4 => r2 y w H4 fun z' H5 => ∃ k', z' = .bl k' ∧ (if k' = true then td σ H5 fun v H6 => r3 w v H6 Q else Q (.bl false) H5) else Q (.bl false) H3)
theorem pe_chain3 {op1 op2 op3 : CmpOp} {r1 r2 r3 : R2} (ho1 : OpR X (compareOp op1) r1) (ho2 : OpR X (compareOp op2) r2) (ho3 : OpR X (compareOp op3) r3) (ha : PE X a ta) (hb : PE X b tb) (hc : PE X c tc) (hd : PE X d td)
    (hm : lastMarks [op1, op2, op3] [b, c, d] = false := by with_unfolding_all rfl) : PE X (.Compare a [op1, op2, op3] [b, c, d] pos) (tChain3 r1 r2 r3 ta tb tc td) := by
  intro pins s σ H Q I h
  refine Compare_chain (thn (ha pins s σ H _ I h) fun v s1 ⟨x, H1, I1, rx, q1⟩ => chain_link (thn (hb pins s1 σ H1 _ I1 q1) fun u s2 ⟨y, H2, I2, ry, q2⟩ =>
    thn (ho1 pins s2 σ H2 x y v u _ I2 rx ry q2) fun e s3 ⟨z, H3, I3, rz, k, ek, q3⟩ => ?_)) hm
  subst ek
  cases rz
  refine wpAny_truthy_bool ?_
  cases k with
  | false => exact ite_ff ⟨.bl false, H3, I3, rfl, q3⟩
  | true =>
    refine ite_tt (chain_link (thn (hc pins s3 σ H3 _ I3 q3) fun w s4 ⟨y2, H4, I4, ry2, q4⟩ => thn (ho2 pins s4 σ H4 y y2 u w _ I4 ry ry2 q4) fun e2 s5 ⟨z2, H5, I5, rz2, k2, ek2, q5⟩ => ?_))
    subst ek2
    cases rz2
    refine wpAny_truthy_bool ?_
    cases k2 with
    | false => exact ite_ff ⟨.bl false, H5, I5, rfl, q5⟩
    | true => exact ite_tt (chain_last (thn (hd pins s5 σ H5 _ I5 q5) fun w' s6 ⟨z', H6, I6, r6, q6⟩ => ho3 pins s6 σ H6 y2 z' w w' Q I6 ry2 r6 q6))
theorem call_all_bl (hc : X.calm = true) : CallR X (.builtin "all") (fun xs H Q => ∃ (p : Addr) (bs : List Bool), xs = [.ref p] ∧ SqL X.K H p (bs.map V.bl) ∧ Q (.bl (bs.all id)) H) := by
  intro pins s σ H xs us Q I rv h
  obtain ⟨p, bs, rfl, hq, q⟩ := h
  cases rv with
  | cons r rr =>
    cases rr
    cases r
    obtain ⟨its, rb, pl, hz⟩ := I.list hq
    have hb : ∀ {vs : List Value} {cs : List Bool}, Vals (cs.map V.bl) vs → LSm.BoolsAre vs cs := by
      intro vs cs
      induction cs generalizing vs with
      | nil => intro z; cases z; exact .nil
      | cons c cs ih =>
        intro z
        cases z with
        | cons z1 z2 =>
          cases z1
          exact .cons c (ih z2)
    have lp : p < s.heap.objs.size := by
      obtain ⟨o, e, _⟩ := pl.isList
      exact Heap.lt_size e
    refine call_all_walk (wpAny_pyIter_list pl.isList ⟨s.heap.objs.size, [s.heap.objs.size, p], [s.heap.objs.size], its.toArray.size, _, _, fun i => (bs[i]?).getD true, rfl,
      Walks.list (A := X.A.in1) (I.ok.hd hc) _ p (Nat.ne_of_lt lp) its.toArray, ⟨⟨_, Heap.get?_push_size _ rfl, rfl, rfl⟩, pl.isList.push _⟩, fun i v s' Q' E' hP hQ => ?_, fun h' tk hk => ?_⟩)
    · obtain ⟨c, ec, rfl⟩ := (hb rb).get i v (by simpa using hP)
      simp only [ec, Option.getD_some] at hQ
      exact wpAny_truthy_bool hQ
    · have e1 : ((List.range its.toArray.size).all fun i => (bs[i]?).getD true) = bs.all id := by
        rw [List.size_toArray, (hb rb).length, LSm.range_all]
      rw [e1]
      exact ⟨.bl (bs.all id), H, I.kept (t' := tk) (LSm.kept_iter hk), rfl, q⟩
end
end L2
set_option Elab.async false
set_option linter.all false
set_option maxRecDepth 100000
set_option maxHeartbeats 2000000
namespace Ow
open PySem PySem.Spec PyProof.Rows L2
def top (i : Nat) : Stmt := PySem.Challenge.pw_orderedways_s01_answers.main.body.getD i (.Pass ⟨0, 0, 0, 0⟩)
structure Gf (K : PySem.W.Frag) (mg : Str → Option Value) (x : Str) (st : Stmt) (ps : List Str) (f : Addr) (fd : FuncData) : Prop where
  F : Fun K x x st f fd
  b : Binds K fd ps []
  g : mg x = some (.ref f)
structure Mf (K : PySem.W.Frag) (C : Addr) (m qual : Str) (st : Stmt) (ps : List Str) (f : Addr) (fd : FuncData) : Prop where
  F : Fun K m qual st f fd
  b : Binds K fd ps []
  at_ : Meth K C m f
def Cst (mg : Str → Option Value) (x : Str) (i : Int) : Prop := ∃ t, mg x = some (.int i t)
theorem pcst {X : Cx} {x : Str} {i : Int} {pos : Pos} (c : Cst X.mg x i) (hg : Gl X x := by rfl) (hd : (x == ("__debug__" : Str)) = false := by decide) : PE X (.Name x pos) (tC (.int i)) := by
  obtain ⟨t, e⟩ := c
  exact pe_glob hg e ⟨t, rfl⟩ hd
theorem ifb {A B : Prop} {b : Bool} (h1 : b = true → A) (h2 : b = false → B) : if b = true then A else B := by
  cases b
  · rw [if_neg Bool.false_ne_true]; exact h2 rfl
  · rw [if_pos rfl]; exact h1 rfl
theorem ifp {A B : Prop} {c : Prop} [Decidable c] (h1 : c → A) (h2 : ¬ c → B) : if c then A else B := by
  by_cases h : c
  · rw [if_pos h]; exact h1 h
  · rw [if_neg h]; exact h2 h
def fldAt (K : PySem.W.Frag) (f : Str) (x : V) (H : Hp) (Q : VK) : Prop := ∃ a C dx fs v, x = .ref a ∧ H a = some (.ins C dx fs) ∧ Cls K C ∧ NoAttr K C f ∧ fs.lookup f = some v ∧ Q v H
theorem tFld_eq {K : PySem.W.Frag} {ta : TE} {f : Str} : tFld K ta f = fun σ H Q => ta σ H fun x H1 => fldAt K f x H1 Q := rfl
theorem fldAt_of {K : PySem.W.Frag} {H : Hp} {a C dx : Addr} {fs : List (Str × V)} {f : Str} {v : V} (h : H a = some (.ins C dx fs)) (c : Cls K C) (n : NoAttr K C f) (l : fs.lookup f = some v) (Q : VK) : fldAt K f (.ref a) H Q = Q v H := by
  refine propext ⟨?_, fun q => ⟨a, C, dx, fs, v, rfl, h, c, n, l, q⟩⟩
  rintro ⟨a', C', dx', fs', v', e, h', _, _, l', q⟩
  cases e
  rw [h] at h'
  cases h'
  rw [l] at l'
  cases l'
  exact q
def hasM (C : Addr) (m : Str) (x : V) (H : Hp) (R : Prop) : Prop := ∃ a dx fs, x = .ref a ∧ H a = some (.ins C dx fs) ∧ fs.lookup m = none ∧ R
theorem tMeth_eq {C : Addr} {m : Str} {sp : Sp} {dvs : List V} {E : XK} {ta : TE} {t : TA} : tMeth C m sp dvs E ta t = fun σ H Q => ta σ H fun x H1 => hasM C m x H1 (t σ H1 fun vs H2 => sp (x :: (vs ++ dvs)) H2 Q E) := rfl
theorem hasM_of {H : Hp} {a C dx : Addr} {fs : List (Str × V)} {m : Str} (h : H a = some (.ins C dx fs)) (l : fs.lookup m = none) (R : Prop) : hasM C m (.ref a) H R = R := by
  refine propext ⟨?_, fun q => ⟨a, dx, fs, rfl, h, l, q⟩⟩
  rintro ⟨a', dx', fs', e, h', _, q⟩
  exact q
def rLenT : List V → Hp → VK → Prop := fun xs H Q => ∃ (p : Addr) (ys : List V), xs = [.ref p] ∧ H p = some (.lst ys) ∧ Q (.int ys.length) H
theorem rLenT_of {H : Hp} {p : Addr} {ys : List V} (h : H p = some (.lst ys)) (Q : VK) : rLenT [.ref p] H Q = Q (.int ys.length) H := by
  refine propext ⟨?_, fun q => ⟨p, ys, rfl, h, q⟩⟩
  rintro ⟨p', ys', e, h', q⟩
  cases e
  rw [h] at h'
  cases h'
  exact q
theorem call_lenT {X : Cx} : CallR X (.builtin "len") rLenT := fun pins s σ H xs us Q I rv ⟨p, ys, e, h, q⟩ => call_len_seq pins s σ H xs us Q I rv ⟨p, ys, e, .inl (SqL.of h), q⟩
def rIxH : R2 := fun x y H Q => ∃ (p : Addr) (xs : List V) (i : Int) (v : V), x = .ref p ∧ y = .int i ∧ H p = some (.lst xs) ∧ atI xs i = some v ∧ Q v H
theorem rIxH_of {H : Hp} {p : Addr} {xs : List V} {i : Int} {v : V} (h : H p = some (.lst xs)) (l : atI xs i = some v) (Q : VK) : rIxH (.ref p) (.int i) H Q = Q v H := by
  refine propext ⟨?_, fun q => ⟨p, xs, i, v, rfl, rfl, h, l, q⟩⟩
  rintro ⟨p', xs', i', v', e, e', h', l', q⟩
  cases e
  cases e'
  rw [h] at h'
  cases h'
  rw [l] at l'
  cases l'
  exact q
theorem ix_H {X : Cx} : IxR X rIxH := fun va sl pins s σ H x y v u Q I rx ry ⟨p, xs, i, z, e1, e2, h, l, q⟩ hs => ix_list va sl pins s σ H x y v u Q I rx ry ⟨p, xs, i, z, e1, e2, SqL.of h, l, q⟩ hs
theorem cxOf_K {CX : CXT} {P : Program} {w : World} {K : PySem.W.Frag} {mg : Str → Option Value} {base : Heap} {N : List Str} {qual : Str} {sc : Scope} {f : Addr} {cd : Value} {A : Around} {outer : List Env} {s : Shared} {H : Hp} {E : XK} :
    (cxOf CX P w K mg base N qual sc f cd A outer s H E).K = K := rfl
theorem nox_K {X : Cx} : X.nox.K = X.K := rfl
local macro_rules | `(tactic| walk_at "rd") => `(tactic| simp only [tSeq, tIfS, tTest, tB, tOp, tUn, tVar, tC, tRet, tRetN, tDrop, tAsg, gName, gSub, tNext, tAnd, tOr, tNot, tAndV, tOrV, tNotV, tIf, tChain, tChain3, rI, rI0, rEq, rNe, scal, tCons, tNil, tLst, tTup, tCall, tMeth_eq, tFld_eq, tMake, tCB, tBM,
  L2.start, List.map_cons, List.map_nil, List.cons_append, List.nil_append, List.append_nil, List.length_cons, List.length_nil, List.replicate, List.getElem?_cons_zero, List.getElem?_cons_succ, List.set_cons_zero, List.set_cons_succ, Option.some.injEq, exists_and_left, exists_eq_left', exists_eq_left, V.int.injEq, V.bl.injEq, V.ref.injEq, V.str.injEq,
  true_and, and_true, exists_const, cxOf_K, nox_K, if_true, if_false, reduceIte, decide_eq_true_eq, Bool.not_eq_true, decide_eq_false_iff_not, List.cons.injEq, Nat.reduceAdd, Nat.reduceSub])
theorem lk_hit {x y : Str} {v : V} {r : List (Str × V)} (h : x = y) : List.lookup x ((y, v) :: r) = some v := by
  subst h
  rw [List.lookup_cons, beq_self_eq_true]
theorem lk_miss {x y : Str} {v : V} {r : List (Str × V)} (h : x ≠ y) : List.lookup x ((y, v) :: r) = List.lookup x r := by
  have hb : (x == y) = false := beq_eq_false_iff_ne.mpr h
  rw [List.lookup_cons, hb]
theorem putF_nil {f : Str} {v : V} : putF f v [] = [(f, v)] := rfl
theorem putF_hit {f g : Str} {v x : V} {r : List (Str × V)} (h : g = f) : putF f v ((g, x) :: r) = (g, v) :: r := if_pos h
theorem putF_miss {f g : Str} {v x : V} {r : List (Str × V)} (h : g ≠ f) : putF f v ((g, x) :: r) = (g, x) :: putF f v r := if_neg h
def nf (k a b : Int) : List (Str × V) := [("kind", .int k), ("a", .int a), ("b", .int b)]
def gf (ln lr : Addr) : List (Str × V) := [("nodes", .ref ln), ("rules", .ref lr)]
theorem nf_kind {k a b : Int} : (nf k a b).lookup ("kind" : Str) = some (.int k) := lk_hit rfl
theorem nf_a {k a b : Int} : (nf k a b).lookup ("a" : Str) = some (.int a) := (lk_miss (by decide +kernel)).trans (lk_hit rfl)
theorem nf_b {k a b : Int} : (nf k a b).lookup ("b" : Str) = some (.int b) := (lk_miss (by decide +kernel)).trans ((lk_miss (by decide +kernel)).trans (lk_hit rfl))
theorem gf_nodes {ln lr : Addr} : (gf ln lr).lookup ("nodes" : Str) = some (.ref ln) := lk_hit rfl
theorem gf_rules {ln lr : Addr} : (gf ln lr).lookup ("rules" : Str) = some (.ref lr) := (lk_miss (by decide +kernel)).trans (lk_hit rfl)
theorem gf_no {ln lr : Addr} {m : Str} (h : m ≠ "nodes") (h' : m ≠ "rules") : (gf ln lr).lookup m = none := (lk_miss h).trans ((lk_miss h').trans rfl)
def consts : List (Str × Int) := [("MOST_NODES", 64), ("RULE_COUNT", 16), ("LARGEST_BYTE", 255), ("NO_BYTE", 0), ("ANY_BYTE", 1), ("BYTE_BETWEEN", 2), ("BOTH", 3), ("EITHER", 4), ("AGAIN", 5), ("NOT_AHEAD", 6), ("RULE_USE", 7), ("NO_SUCH", -1), ("FULL", -2),
  ("NOTHING", 1), ("SOMETHING", 2), ("TAKES", 3), ("FAILS", 4), ("NODE_CALL", 1), ("RULE_CALL", 2), ("SOUND_CALL", 3), ("TAKE_CALL", 4), ("USES_CALL", 5), ("ASKED_CALL", 6), ("MOST_BYTES", 128), ("MOST_TOLD", 12288), ("UNSOUND", -3), ("FAILED", -2)]
structure Tx (K : PySem.W.Frag) (mg : Str → Option Value) (CN CG : Addr) : Prop where
  c : ∀ p ∈ consts, Cst mg p.1 p.2
  cN : Cls K CN
  nk : NoAttr K CN "kind"
  na : NoAttr K CN "a"
  nb : NoAttr K CN "b"
  cG : Cls K CG
  nn : NoAttr K CG "nodes"
  nr : NoAttr K CG "rules"
  mN : mg "Node" = some (.ref CN)
  mG : mg "Grammar" = some (.ref CG)
  len : mg "len" = none
  enu : mg "enumerate" = none
  all : mg "all" = none
theorem Tx.k {K : PySem.W.Frag} {mg : Str → Option Value} {CN CG : Addr} (T : Tx K mg CN CG) (x : Str) (i : Int) (h : (x, i) ∈ consts := by decide +kernel) : Cst mg x i := T.c (x, i) h
structure GramAt (CN CG : Addr) (H : Hp) (g ln lr : Addr) (G : Rd02.Gram) (as : List Addr) : Prop where
  ok : GOk G
  obj : ∃ dg, H g = some (.ins CG dg (gf ln lr))
  nodes : H ln = some (.lst (as.map V.ref))
  rules : H lr = some (.lst (G.rules.map fun e => if e < G.nodes.length then V.int e else V.non))
  len : as.length = G.nodes.length
  node : ∀ (i : Nat) (a : Addr) (x : Rd02.Node), as[i]? = some a → G.nodes[i]? = some x → ∃ d k p q, H a = some (.ins CN d (nf k p q)) ∧ NodeRel x k p q
theorem GramAt.same {CN CG : Addr} {H H' : Hp} {g ln lr : Addr} {G : Rd02.Gram} {as : List Addr} (A : GramAt CN CG H g ln lr G as) (k : Same H H') : GramAt CN CG H' g ln lr G as :=
  ⟨A.ok, let ⟨dg, e⟩ := A.obj; ⟨dg, k _ _ e⟩, k _ _ A.nodes, k _ _ A.rules, A.len, fun i a x h1 h2 => let ⟨d, k', p, q, e, r⟩ := A.node i a x h1 h2; ⟨d, k', p, q, k _ _ e, r⟩⟩
section
variable {P : Program} {w : World} {K : PySem.W.Frag} {mg : Str → Option Value} {base : Heap}
def spIsRule : Sp := fun vs H Q _ => ∃ r : Int, vs = [.int r] ∧ Q (.bl (isRuleI r)) H
theorem scIsRule : FnScope ["number"] ["number"] (defScope (top 16)) := ⟨rfl, rfl, rfl, by decide +kernel, rfl, by decide +kernel, by decide +kernel⟩
theorem ok_is_rule {f : Addr} {fd : FuncData} (F : Gf K mg "is_rule" (top 16) ["number"] f fd) (c : Cst mg "RULE_COUNT" 16) : FnOk P w K mg base CX0 1 f fd ["number"] spIsRule := by
  refine F.F.ok scIsRule (fun vs H Q E h => ?_) (fun cdv A outer s H vs Q E hr h => ?_)
  · obtain ⟨r, rfl, _⟩ := h
    rfl
  · obtain ⟨r, rfl, k⟩ := h
    refine ⟨_, pss_one (ps_ret (pe_chain op_le op_lt pe_int (pv 0) (pcst c))), ?_⟩
    walk_at "rd"
    unfold isRuleI at k
    refine ifp (fun h => ?_) fun h => ?_
    · rw [decide_eq_true h] at k; exact k
    · rw [decide_eq_false h] at k; exact k
end
end Ow
set_option Elab.async false
set_option linter.all false
set_option maxRecDepth 100000
set_option maxHeartbeats 2000000
namespace Ow
open PySem PySem.Spec PyProof.Rows L2
local macro_rules | `(tactic| walk_at "rd") => `(tactic| simp only [tSeq, tIfS, tTest, tB, tOp, tUn, tVar, tC, tRet, tRetN, tDrop, tAsg, gName, gSub, tNext, tAnd, tOr, tNot, tAndV, tOrV, tNotV, tIf, tChain, tChain3, rI, rI0, rEq, rNe, scal, tCons, tNil, tLst, tTup, tCall, tMeth_eq, tFld_eq, tMake, tCB, tBM,
  L2.start, List.map_cons, List.map_nil, List.cons_append, List.nil_append, List.append_nil, List.length_cons, List.length_nil, List.replicate, List.getElem?_cons_zero, List.getElem?_cons_succ, List.set_cons_zero, List.set_cons_succ, Option.some.injEq, exists_and_left, exists_eq_left', exists_eq_left, V.int.injEq, V.bl.injEq, V.ref.injEq, V.str.injEq,
  true_and, and_true, exists_const, cxOf_K, nox_K, if_true, if_false, reduceIte, decide_eq_true_eq, Bool.not_eq_true, decide_eq_false_iff_not, List.cons.injEq, Nat.reduceAdd, Nat.reduceSub])
section
variable {P : Program} {w : World} {K : PySem.W.Frag} {mg : Str → Option Value} {base : Heap} {CN CG : Addr}
abbrev sNodeInit : Stmt := inClass (top 14) 0
def spNodeInit (CN : Addr) : Sp := fun vs H Q _ => ∃ (p dx : Addr) (k a b : Int), vs = [.ref p, .int k, .int a, .int b] ∧ H p = some (.ins CN dx []) ∧ Q .non (upd H p (.ins CN dx (nf k a b)))
theorem scNodeInit : FnScope ["self", "kind", "a", "b"] ["self", "kind", "a", "b"] (defScope sNodeInit) := ⟨rfl, rfl, rfl, by decide +kernel, rfl, by decide +kernel, by decide +kernel⟩
theorem ok_node_init {f : Addr} {fd : FuncData} (F : Fun K "__init__" "Node.__init__" sNodeInit f fd) (T : Tx K mg CN CG) : FnOk P w K mg base CX0 1 f fd ["self", "kind", "a", "b"] (spNodeInit CN) := by
  refine F.ok scNodeInit (fun vs H Q E h => ?_) (fun cdv A outer s H vs Q E hr h => ?_)
  · obtain ⟨p, dx, k, a, b, rfl, _⟩ := h
    rfl
  · obtain ⟨p, dx, k, a, b, rfl, hp, q⟩ := h
    refine ⟨_, pss_cons (ps_fld (pv 0) (pv 1) rfl) (pss_cons (ps_fld (pv 0) (pv 2) rfl) (pss_one (ps_fld (pv 0) (pv 3) rfl))), ?_⟩
    walk_at "rd"
    refine ⟨_, rfl, _, rfl, p, CN, dx, _, rfl, hp, T.cN, T.nk, (by show 0 < 1000; decide), _, rfl, _, rfl, p, CN, dx, _, rfl, upd_same, T.cN, T.na, (by show 1 < 1000; decide), _, rfl, _, rfl, p, CN, dx, _, rfl, upd_same, T.cN, T.nb, (by show 2 < 1000; decide), ?_⟩
    rw [upd_upd, upd_upd]
    exact q
abbrev sHas : Stmt := inClass (top 15) 1
def spHas (CN CG : Addr) : Sp := fun vs H Q _ => ∃ (g ln lr : Addr) (G : Rd02.Gram) (as : List Addr) (z : Int), vs = [.ref g, .int z] ∧ GramAt CN CG H g ln lr G as ∧ Q (.bl (hasI G.nodes.length z)) H
theorem scHas : FnScope ["self", "number"] ["self", "number"] (defScope sHas) := ⟨rfl, rfl, rfl, by decide +kernel, rfl, by decide +kernel, by decide +kernel⟩
theorem ok_has {f : Addr} {fd : FuncData} (F : Mf K CG "has_node" "Grammar.has_node" sHas ["self", "number"] f fd) (T : Tx K mg CN CG) : FnOk P w K mg base CX0 1 f fd ["self", "number"] (spHas CN CG) := by
  refine F.F.ok scHas (fun vs H Q E h => ?_) (fun cdv A outer s H vs Q E hr h => ?_)
  · obtain ⟨g, ln, lr, G, as, z, rfl, _⟩ := h
    rfl
  · obtain ⟨g, ln, lr, G, as, z, rfl, B, q⟩ := h
    obtain ⟨dg, hg⟩ := B.obj
    refine ⟨_, pss_one (ps_ret (pe_chain op_le op_lt pe_int (pv 1) (pe_callB call_lenT (by rfl) T.len PySem.boot_len (pa_cons (pe_fld (pv 0) rfl) pa_nil)))), ?_⟩
    walk_at "rd"
    unfold hasI at q
    refine ifp (fun h => ?_) fun h => ?_
    · rw [decide_eq_true h, Bool.true_and] at q
      rw [fldAt_of hg T.cG T.nn gf_nodes, rLenT_of B.nodes]
      walk_at "rd"
      rw [List.length_map, B.len]
      exact q
    · rw [decide_eq_false h] at q; exact q
abbrev sFits : Stmt := inClass (top 15) 3
def spFits (CN CG : Addr) : Sp := fun vs H Q _ => ∃ (g ln lr : Addr) (G : Rd02.Gram) (as : List Addr) (k a b : Int), vs = [.ref g, .int k, .int a, .int b] ∧ GramAt CN CG H g ln lr G as ∧ Q (.bl (fitsI G.nodes.length k a b)) H
theorem scFits : FnScope ["self", "kind", "a", "b"] ["self", "kind", "a", "b"] (defScope sFits) := ⟨rfl, rfl, rfl, by decide +kernel, rfl, by decide +kernel, by decide +kernel⟩
theorem ok_fits {f fH fR : Addr} {fd fdH fdR : FuncData} (F : Mf K CG "fits" "Grammar.fits" sFits ["self", "kind", "a", "b"] f fd) (T : Tx K mg CN CG) (FH : Mf K CG "has_node" "Grammar.has_node" sHas ["self", "number"] fH fdH)
    (FR : Gf K mg "is_rule" (top 16) ["number"] fR fdR) : FnOk P w K mg base CX0 2 f fd ["self", "kind", "a", "b"] (spFits CN CG) := by
  have GH : FnOk P w K mg base CX0 1 fH fdH ["self", "number"] (spHas CN CG) := ok_has FH T
  have GR : FnOk P w K mg base CX0 1 fR fdR ["number"] spIsRule := ok_is_rule FR (T.k "RULE_COUNT" 16)
  refine F.F.ok scFits (fun vs H Q E h => ?_) (fun cdv A outer s H vs Q E hr h => ?_)
  · obtain ⟨g, ln, lr, G, as, k, a, b, rfl, _⟩ := h
    rfl
  · obtain ⟨g, ln, lr, G, as, k, a, b, rfl, B, q⟩ := h
    obtain ⟨dg, hg⟩ := B.obj
    refine ⟨_, pss_cons (ps_if (pw_or (pt_cmpR op_eq (pv 1) (pcst (T.k "NO_BYTE" 0)) (nomark _)) (pw_or1 (pt_cmpR op_eq (pv 1) (pcst (T.k "ANY_BYTE" 1)) (nomark _)))).pt (pss_one (ps_ret pe_bl)) pss_nil)
      (pss_cons (ps_if (pt_cmpR op_eq (pv 1) (pcst (T.k "BYTE_BETWEEN" 2)) (nomark _)) (pss_one (ps_ret (pe_chain3 op_le op_le op_le pe_int (pv 2) (pv 3) (pcst (T.k "LARGEST_BYTE" 255))))) pss_nil)
      (pss_cons (ps_if (pw_or (pt_cmpR op_eq (pv 1) (pcst (T.k "BOTH" 3)) (nomark _)) (pw_or1 (pt_cmpR op_eq (pv 1) (pcst (T.k "EITHER" 4)) (nomark _)))).pt
        (pss_one (ps_ret (pe_and (pe_meth (pv 0) T.cG FH.at_ GH hr FH.b .nil pass0 (pa_cons (pv 2) pa_nil)) (pe_one (pe_meth (pv 0) T.cG FH.at_ GH hr FH.b .nil pass0 (pa_cons (pv 3) pa_nil)))))) pss_nil)
      (pss_cons (ps_if (pw_or (pt_cmpR op_eq (pv 1) (pcst (T.k "AGAIN" 5)) (nomark _)) (pw_or1 (pt_cmpR op_eq (pv 1) (pcst (T.k "NOT_AHEAD" 6)) (nomark _)))).pt
        (pss_one (ps_ret (pe_meth (pv 0) T.cG FH.at_ GH hr FH.b .nil pass0 (pa_cons (pv 2) pa_nil)))) pss_nil)
      (pss_one (ps_ret (pe_and (pe_cmpR op_eq (pv 1) (pcst (T.k "RULE_USE" 7)) (nomark _)) (pe_one (pe_call GR hr rfl FR.g FR.F.kp FR.b .nil pass0 (pa_cons (pv 2) pa_nil))))))))), ?_⟩
    have hH : ∀ (z : Int) (Q' : VK), Q' (.bl (hasI G.nodes.length z)) H → hasM CG "has_node" (.ref g) H (spHas CN CG [.ref g, .int z] H Q' E0) := fun z Q' q => by
      rw [hasM_of hg (gf_no (by decide +kernel) (by decide +kernel))]
      exact ⟨g, ln, lr, G, as, z, rfl, B, q⟩
    walk_at "rd"
    unfold fitsI at q
    rcases (by omega : k = 0 ∨ k = 1 ∨ k = 2 ∨ k = 3 ∨ k = 4 ∨ k = 5 ∨ k = 6 ∨ k = 7 ∨ (k ≠ 0 ∧ k ≠ 1 ∧ k ≠ 2 ∧ k ≠ 3 ∧ k ≠ 4 ∧ k ≠ 5 ∧ k ≠ 6 ∧ k ≠ 7)) with rfl | rfl | rfl | rfl | rfl | rfl | rfl | rfl | ⟨h0, h1, h2, h3, h4, h5, h6, h7⟩
    · exact q
    · exact q
    all_goals simp only [reduceIte, Int.reduceEq, or_true, true_or, or_false, or_self, decide_true, decide_false, Bool.true_and, Bool.false_and, *] at q ⊢
    · refine ifp (fun h => ?_) fun h => ?_
      · rw [decide_eq_true h, Bool.true_and] at q
        refine ifp (fun h2 => ?_) fun h2 => ?_
        · rw [decide_eq_true h2, Bool.true_and] at q
          exact q
        · rw [decide_eq_false h2, Bool.false_and] at q
          exact q
      · rw [decide_eq_false h, Bool.false_and] at q
        exact q
    · refine hH a _ ⟨_, rfl, ifb (fun h => ?_) fun h => ?_⟩
      · rw [h, Bool.true_and] at q
        exact hH b _ q
      · rw [h, Bool.false_and] at q
        exact q
    · refine hH a _ ⟨_, rfl, ifb (fun h => ?_) fun h => ?_⟩
      · rw [h, Bool.true_and] at q
        exact hH b _ q
      · rw [h, Bool.false_and] at q
        exact q
    · exact hH a _ q
    · exact hH a _ q
    · exact ⟨a, rfl, q⟩
    · exact q
end
end Ow
set_option Elab.async false
set_option linter.all false
set_option maxRecDepth 100000
set_option maxHeartbeats 2000000
namespace Ow
open PySem PySem.Spec PyProof.Rows L2
local macro_rules | `(tactic| walk_at "rd") => `(tactic| simp only [tSeq, tIfS, tTest, tB, tOp, tUn, tVar, tC, tRet, tRetN, tDrop, tAsg, gName, gSub, tNext, tAnd, tOr, tNot, tAndV, tOrV, tNotV, tIf, tChain, tChain3, rI, rI0, rEq, rNe, scal, tCons, tNil, tLst, tTup, tCall, tMeth_eq, tFld_eq, tMake, tCB, tBM,
  L2.start, List.map_cons, List.map_nil, List.cons_append, List.nil_append, List.append_nil, List.length_cons, List.length_nil, List.replicate, List.getElem?_cons_zero, List.getElem?_cons_succ, List.set_cons_zero, List.set_cons_succ, Option.some.injEq, exists_and_left, exists_eq_left', exists_eq_left, V.int.injEq, V.bl.injEq, V.ref.injEq, V.str.injEq,
  true_and, and_true, exists_const, cxOf_K, nox_K, if_true, if_false, reduceIte, decide_eq_true_eq, Bool.not_eq_true, decide_eq_false_iff_not, List.cons.injEq, Nat.reduceAdd, Nat.reduceSub])
section
variable {CN CG : Addr} {H H' : Hp} {g ln lr : Addr} {G : Rd02.Gram} {as : List Addr}
theorem ruleV_add {x : Rd02.Node} (g : GOk G) (hl : G.nodes.length < 64) : ((addN G x).rules.map fun e => if e < (addN G x).nodes.length then V.int e else V.non) = G.rules.map fun e => if e < G.nodes.length then V.int e else V.non := by
  refine List.map_congr_left fun e he => ?_
  obtain ⟨r, hr⟩ := List.getElem?_of_mem he
  have hr : G.rules[r]? = some e := hr
  have := g.rok r e hr
  have len : (addN G x).nodes.length = G.nodes.length + 1 := by show (G.nodes ++ [x]).length = _; simp
  rw [len]
  by_cases q : e < G.nodes.length
  · rw [if_pos q, if_pos (by omega)]
  · rw [if_neg q, if_neg (by omega)]
theorem GramAt.ne_ln (B : GramAt CN CG H g ln lr G as) : g ≠ ln ∧ lr ≠ ln ∨ ln = lr := by
  obtain ⟨dg, e⟩ := B.obj
  by_cases q : ln = lr
  · exact .inr q
  · exact .inl ⟨ne_of e B.nodes (fun z => nomatch z), fun z => q z.symm⟩
theorem GramAt.add (B : GramAt CN CG H g ln lr G as) (nl : ln ≠ lr) {x : Rd02.Node} {a : Addr} {d : Addr} {k p q : Int} (hl : G.nodes.length < 64) (r : NodeRel x k p q) (ok : GOk (addN G x)) (kp : ∀ b o, b ≠ ln → H b = some o → H' b = some o)
    (hn : H' ln = some (.lst ((as ++ [a]).map V.ref))) (ha : H' a = some (.ins CN d (nf k p q))) : GramAt CN CG H' g ln lr (addN G x) (as ++ [a]) := by
  obtain ⟨dg, e⟩ := B.obj
  refine ⟨ok, ⟨dg, kp _ _ (ne_of e B.nodes (fun z => nomatch z)) e⟩, hn, ?_, ?_, fun i b y h1 h2 => ?_⟩
  · rw [ruleV_add B.ok hl]
    exact kp _ _ (Ne.symm nl) B.rules
  · rw [List.length_append, B.len]
    show _ = (G.nodes ++ [x]).length
    simp
  · have h2 : (G.nodes ++ [x])[i]? = some y := h2
    by_cases z : i < G.nodes.length
    · rw [List.getElem?_append_left z] at h2
      rw [List.getElem?_append_left (by rw [B.len]; exact z)] at h1
      obtain ⟨d', k', p', q', e', r'⟩ := B.node i b y h1 h2
      exact ⟨d', k', p', q', kp _ _ (ne_of e' B.nodes (fun z => nomatch z)) e', r'⟩
    · rw [List.getElem?_append_right (by omega)] at h2
      rw [List.getElem?_append_right (by rw [B.len]; omega), B.len] at h1
      cases w : i - G.nodes.length with
      | zero =>
        rw [w] at h1 h2
        cases h1
        cases h2
        exact ⟨d, k, p, q, ha, r⟩
      | succ n => rw [w] at h2; simp at h2
theorem GramAt.setR (B : GramAt CN CG H g ln lr G as) (nl : ln ≠ lr) {r e : Nat} (he : e < G.nodes.length) (kp : ∀ b o, b ≠ lr → H b = some o → H' b = some o)
    (hr : H' lr = some (.lst ((G.rules.map fun e => if e < G.nodes.length then V.int e else V.non).set r (.int e)))) : GramAt CN CG H' g ln lr (setR G r e) as := by
  obtain ⟨dg, eg⟩ := B.obj
  refine ⟨gok_set B.ok he, ⟨dg, kp _ _ (ne_of eg B.rules (fun z => nomatch z)) eg⟩, kp _ _ nl B.nodes, ?_, B.len, fun i b y h1 h2 => ?_⟩
  · rw [hr]
    show _ = some (HO.lst ((G.rules.set r e).map fun e => if e < G.nodes.length then V.int e else V.non))
    rw [List.map_set, if_pos he]
  · obtain ⟨d', k', p', q', e', r'⟩ := B.node i b y h1 h2
    exact ⟨d', k', p', q', kp _ _ (ne_of e' B.rules (fun z => nomatch z)) e', r'⟩
end
section
variable {P : Program} {w : World} {K : PySem.W.Frag} {mg : Str → Option Value} {base : Heap} {CN CG : Addr}
abbrev sGramInit : Stmt := inClass (top 15) 0
def spGramInit (CN CG : Addr) : Sp := fun vs H Q _ => ∃ (g dx : Addr), vs = [.ref g] ∧ H g = some (.ins CG dx []) ∧ ∀ (H' : Hp) (ln lr : Addr), GramAt CN CG H' g ln lr {} [] → ln ≠ lr → (∀ b o, b ≠ g → H b = some o → H' b = some o) → H ln = none → H lr = none → Q .non H'
theorem scGramInit : FnScope ["self"] ["self"] (defScope sGramInit) := ⟨rfl, rfl, rfl, by decide +kernel, rfl, by decide +kernel, by decide +kernel⟩
theorem ok_gram_init {f : Addr} {fd : FuncData} (F : Fun K "__init__" "Grammar.__init__" sGramInit f fd) (T : Tx K mg CN CG) : FnOk P w K mg base CX0 1 f fd ["self"] (spGramInit CN CG) := by
  refine F.ok scGramInit (fun vs H Q E h => ?_) (fun cdv A outer s H vs Q E hr h => ?_)
  · obtain ⟨g, dx, rfl, _⟩ := h
    rfl
  · obtain ⟨g, dx, rfl, hg, q⟩ := h
    refine ⟨_, pss_cons (ps_fld (pv 0) (pe_lst pa_nil) rfl) (pss_one (ps_fld (pv 0) (pe_op op_rep (pe_lst (pa_cons pe_non pa_nil)) (pcst (T.k "RULE_COUNT" 16))) rfl)), ?_⟩
    walk_at "rd"
    refine ⟨Nat.zero_le _, fun l1 n1 => ⟨_, rfl, g, CG, dx, _, rfl, (by rw [upd_ne (ne_of_none hg n1)]; exact hg), T.cG, T.nn, (by show 0 < 1000; decide), ?_⟩⟩
    walk_at "rd"
    refine ⟨by show 1 ≤ sizeLine; decide, fun l0 n0 => ⟨l0, 16, _, rfl, rfl, upd_same, by decide, by decide, by show 1 * 16 ≤ sizeLine; decide, fun l2 n2 => ⟨_, rfl, g, CG, dx, putF "nodes" (.ref l1) [], rfl, ?_, T.cG, T.nr, (by show 1 < 1000; decide), ?_⟩⟩⟩
    all_goals
      have g1 : g ≠ l1 := ne_of_none hg n1
      have g0 : g ≠ l0 := fun z => by rw [← z, upd_same] at n0; cases n0
      have g2 : g ≠ l2 := fun z => by rw [← z, upd_ne g0, upd_same] at n2; cases n2
    · rw [upd_ne g2, upd_ne g0, upd_same]
    · have l10 : l1 ≠ l0 := fun z => by rw [← z, upd_ne g1.symm, upd_same] at n0; cases n0
      have l12 : l1 ≠ l2 := fun z => by rw [← z, upd_ne l10, upd_ne g1.symm, upd_same] at n2; cases n2
      have f0 : H l0 = none := by rw [upd_ne (Ne.symm g0), upd_ne (Ne.symm l10)] at n0; exact n0
      have l02 : l0 ≠ l2 := fun z => by rw [← z, upd_same] at n2; cases n2
      have f2 : H l2 = none := by rw [upd_ne (Ne.symm l02), upd_ne (Ne.symm g2), upd_ne (Ne.symm l12)] at n2; exact n2
      refine q _ l1 l2 ⟨gok_start, ⟨dx, ?_⟩, ?_, ?_, rfl, fun i a x h => ?_⟩ l12 (fun b o hb e => ?_) n1 f2
      · rw [upd_same]
        rfl
      · rw [upd_ne g1.symm, upd_ne l12, upd_ne l10, upd_ne g1.symm, upd_same]
        rfl
      · rw [upd_ne g2.symm, upd_same]
        rfl
      · simp at h
      · rw [upd_ne hb, upd_ne (ne_of_none e f2), upd_ne (ne_of_none e f0), upd_ne hb, upd_ne (ne_of_none e n1)]
        exact e
end
end Ow
set_option Elab.async false
set_option linter.all false
set_option maxRecDepth 100000
set_option maxHeartbeats 2000000
namespace Ow
open PySem PySem.Spec PyProof.Rows L2
local macro_rules | `(tactic| walk_at "rd") => `(tactic| simp only [tSeq, tIfS, tTest, tB, tOp, tUn, tVar, tC, tRet, tRetN, tDrop, tAsg, gName, gSub, tNext, tAnd, tOr, tNot, tAndV, tOrV, tNotV, tIf, tChain, tChain3, rI, rI0, rEq, rNe, scal, tCons, tNil, tLst, tTup, tCall, tMeth_eq, tFld_eq, tMake, tCB, tBM,
  L2.start, List.map_cons, List.map_nil, List.cons_append, List.nil_append, List.append_nil, List.length_cons, List.length_nil, List.replicate, List.getElem?_cons_zero, List.getElem?_cons_succ, List.set_cons_zero, List.set_cons_succ, Option.some.injEq, exists_and_left, exists_eq_left', exists_eq_left, V.int.injEq, V.bl.injEq, V.ref.injEq, V.str.injEq,
  true_and, and_true, exists_const, cxOf_K, nox_K, if_true, if_false, reduceIte, decide_eq_true_eq, Bool.not_eq_true, decide_eq_false_iff_not, List.cons.injEq, Nat.reduceAdd, Nat.reduceSub])
section
variable {P : Program} {w : World} {K : PySem.W.Frag} {mg : Str → Option Value} {base : Heap} {CN CG : Addr}
abbrev sAdd : Stmt := inClass (top 15) 4
def spAdd (CN CG : Addr) : Sp := fun vs H Q _ => ∃ (g ln lr : Addr) (G : Rd02.Gram) (as : List Addr) (k a b : Int), vs = [.ref g, .int k, .int a, .int b] ∧ GramAt CN CG H g ln lr G as ∧ ln ≠ lr ∧
  (fitsI G.nodes.length k a b = false → Q (.int (-1)) H) ∧ (fitsI G.nodes.length k a b = true → 64 ≤ G.nodes.length → Q (.int (-2)) H) ∧
  (fitsI G.nodes.length k a b = true → G.nodes.length < 64 → ∀ (H' : Hp) (x : Rd02.Node) (as' : List Addr), Rd02.nodeOf G k a b = some x → GramAt CN CG H' g ln lr (addN G x) as' → (∀ c o, c ≠ ln → H c = some o → H' c = some o) → Q (.int (G.nodes.length : Int)) H')
theorem scAdd : FnScope ["self", "kind", "a", "b"] ["self", "kind", "a", "b"] (defScope sAdd) := ⟨rfl, rfl, rfl, by decide +kernel, rfl, by decide +kernel, by decide +kernel⟩
theorem ok_add {f fF fH fR fI : Addr} {fd fdF fdH fdR fdI : FuncData} (F : Mf K CG "add_node" "Grammar.add_node" sAdd ["self", "kind", "a", "b"] f fd) (T : Tx K mg CN CG) (FF : Mf K CG "fits" "Grammar.fits" sFits ["self", "kind", "a", "b"] fF fdF)
    (FH : Mf K CG "has_node" "Grammar.has_node" sHas ["self", "number"] fH fdH) (FR : Gf K mg "is_rule" (top 16) ["number"] fR fdR) (FI : Fun K "__init__" "Node.__init__" sNodeInit fI fdI) (bI : Binds K fdI ["self", "kind", "a", "b"] []) (M : Mk K CN fI) :
    FnOk P w K mg base CX0 3 f fd ["self", "kind", "a", "b"] (spAdd CN CG) := by
  have GF : FnOk P w K mg base CX0 2 fF fdF ["self", "kind", "a", "b"] (spFits CN CG) := ok_fits FF T FH FR
  have GI : FnOk P w K mg base CX0 1 fI fdI ["self", "kind", "a", "b"] (spNodeInit CN) := ok_node_init FI T
  refine F.F.ok scAdd (fun vs H Q E h => ?_) (fun cdv A outer s H vs Q E hr h => ?_)
  · obtain ⟨g, ln, lr, G, as, k, a, b, rfl, _⟩ := h
    rfl
  · obtain ⟨g, ln, lr, G, as, k, a, b, rfl, B, nl, q1, q2, q3⟩ := h
    obtain ⟨dg, hg⟩ := B.obj
    refine ⟨_, pss_cons (ps_if (pt_not (pt_val (pe_meth (pv 0) T.cG FF.at_ GF hr FF.b .nil pass0 (pa_cons (pv 1) (pa_cons (pv 2) (pa_cons (pv 3) pa_nil)))))) (pss_one (ps_ret (pcst (T.k "NO_SUCH" (-1))))) pss_nil)
      (pss_cons (ps_if (pt_cmpR op_ge (pe_callB call_lenT (by rfl) T.len PySem.boot_len (pa_cons (pe_fld (pv 0) rfl) pa_nil)) (pcst (T.k "MOST_NODES" 64)) (nomark _)) (pss_one (ps_ret (pcst (T.k "FULL" (-2))))) pss_nil)
      (pss_cons (ps_expr (pe_bm PySem.F.plainAttrs_list PySem.F.slot_list_append PySem.F.type_list_append mt_append (pe_fld (pv 0) rfl) (pa_cons (pe_make M GI hr rfl T.mN bI .nil pass0 (pa_cons (pv 1) (pa_cons (pv 2) (pa_cons (pv 3) pa_nil)))) pa_nil)))
      (pss_one (ps_ret (pe_op op_sub (pe_callB call_lenT (by rfl) T.len PySem.boot_len (pa_cons (pe_fld (pv 0) rfl) pa_nil)) pe_int))))), ?_⟩
    walk_at "rd"
    rw [hasM_of hg (gf_no (by decide +kernel) (by decide +kernel))]
    refine ⟨g, ln, lr, G, as, k, a, b, rfl, B, _, rfl, ?_⟩
    refine ifb (fun h => q1 (by simpa using h)) fun h => ?_
    have hf : fitsI G.nodes.length k a b = true := by simpa using h
    rw [fldAt_of hg T.cG T.nn gf_nodes, rLenT_of B.nodes]
    refine ⟨_, rfl, ifp (fun h64 => q2 hf (by rw [List.length_map, B.len] at h64; omega)) fun h64 => ?_⟩
    have hl : G.nodes.length < 64 := by rw [List.length_map, B.len] at h64; omega
    rw [fldAt_of hg T.cG T.nn gf_nodes]
    refine ⟨.inl ⟨rfl, _, SqL.of B.nodes⟩, fun p dx n1 n2 ne => ⟨p, dx, k, a, b, rfl, upd_same, rfl, ?_⟩⟩
    have np : ∀ c o, H c = some o → c ≠ p := fun c o e => ne_of_none e n1
    have nd : ∀ c o, H c = some o → c ≠ dx := fun c o e => ne_of_none e n2
    have kp : ∀ c o, H c = some o → upd (upd (upd H dx (.own p)) p (.ins CN dx [])) p (.ins CN dx (nf k a b)) c = some o := fun c o e => by
      rw [upd_upd, upd_ne (np c o e), upd_ne (nd c o e)]
      exact e
    refine ⟨ln, _, _, rfl, rfl, kp _ _ B.nodes, (by rw [List.length_map, B.len]; exact Nat.lt_of_lt_of_le hl (by show 64 ≤ sizeLine; decide)), ?_⟩
    have gl : g ≠ ln := ne_of hg B.nodes (fun z => nomatch z)
    have hg' : upd (upd (upd (upd H dx (.own p)) p (.ins CN dx [])) p (.ins CN dx (nf k a b))) ln (.lst (as.map V.ref ++ [.ref p])) g = some (.ins CG dg (gf ln lr)) := by
      rw [upd_ne gl]
      exact kp _ _ hg
    dsimp only
    rw [fldAt_of hg' T.cG T.nn gf_nodes, rLenT_of upd_same]
    refine ⟨_, rfl, ?_⟩
    obtain ⟨x, hx, r, b1, b2, b3, b4⟩ := fits_some hf
    have e1 : (((as.map V.ref ++ [V.ref p]).length : Nat) : Int) - 1 = (G.nodes.length : Int) := by
      rw [List.length_append, List.length_map, B.len, List.length_singleton]
      omega
    have pl : p ≠ ln := (np _ _ B.nodes).symm
    have k2 : ∀ c o, c ≠ ln → H c = some o → upd (upd (upd (upd H dx (.own p)) p (.ins CN dx [])) p (.ins CN dx (nf k a b))) ln (.lst (as.map V.ref ++ [.ref p])) c = some o := fun c o hc e => by
      rw [upd_ne hc]
      exact kp _ _ e
    rw [e1]
    exact q3 hf hl _ x (as ++ [p]) hx (B.add nl (a := p) (d := dx) hl r (gok_add B.ok hl b1 b2 b3 b4) k2 (by rw [upd_same, List.map_append]; rfl) (by rw [upd_ne pl, upd_same])) k2
abbrev sSet : Stmt := inClass (top 15) 5
def spSet (CN CG : Addr) : Sp := fun vs H Q _ => ∃ (g ln lr : Addr) (G : Rd02.Gram) (as : List Addr) (r e : Int), vs = [.ref g, .int r, .int e] ∧ GramAt CN CG H g ln lr G as ∧ ln ≠ lr ∧
  ((isRuleI r && hasI G.nodes.length e) = false → Q (.int (-1)) H) ∧
  ((isRuleI r && hasI G.nodes.length e) = true → ∀ H' : Hp, GramAt CN CG H' g ln lr (setR G r.toNat e.toNat) as → (∀ c o, c ≠ lr → H c = some o → H' c = some o) → Q (.int 0) H')
theorem scSet : FnScope ["self", "rule", "number"] ["self", "rule", "number"] (defScope sSet) := ⟨rfl, rfl, rfl, by decide +kernel, rfl, by decide +kernel, by decide +kernel⟩
theorem ok_set {f fH fR : Addr} {fd fdH fdR : FuncData} (F : Mf K CG "set_rule" "Grammar.set_rule" sSet ["self", "rule", "number"] f fd) (T : Tx K mg CN CG)
    (FH : Mf K CG "has_node" "Grammar.has_node" sHas ["self", "number"] fH fdH) (FR : Gf K mg "is_rule" (top 16) ["number"] fR fdR) : FnOk P w K mg base CX0 2 f fd ["self", "rule", "number"] (spSet CN CG) := by
  have GH : FnOk P w K mg base CX0 1 fH fdH ["self", "number"] (spHas CN CG) := ok_has FH T
  have GR : FnOk P w K mg base CX0 1 fR fdR ["number"] spIsRule := ok_is_rule FR (T.k "RULE_COUNT" 16)
  refine F.F.ok scSet (fun vs H Q E h => ?_) (fun cdv A outer s H vs Q E hr h => ?_)
  · obtain ⟨g, ln, lr, G, as, r, e, rfl, _⟩ := h
    rfl
  · obtain ⟨g, ln, lr, G, as, r, e, rfl, B, nl, q1, q2⟩ := h
    obtain ⟨dg, hg⟩ := B.obj
    refine ⟨_, pss_cons (ps_if (PW.pt (pw_or (pt_not (pt_val (pe_call GR hr rfl FR.g FR.F.kp FR.b .nil pass0 (pa_cons (pv 1) pa_nil)))) (pw_or1 (pt_not (pt_val (pe_meth (pv 0) T.cG FH.at_ GH hr FH.b .nil pass0 (pa_cons (pv 2) pa_nil))))))) (pss_one (ps_ret (pcst (T.k "NO_SUCH" (-1))))) pss_nil)
      (pss_cons (ps_asg (pv 2) (pg_sub (pe_fld (pv 0) rfl) (pv 1) set_list)) (pss_one (ps_ret pe_int))), ?_⟩
    walk_at "rd"
    refine ⟨r, rfl, _, rfl, ?_⟩
    refine ifb (fun h => q1 ?_) fun h => ?_
    · have : isRuleI r = false := by simpa using h
      rw [this, Bool.false_and]
    · have h1 : isRuleI r = true := by simpa using h
      rw [h1, Bool.true_and] at q1 q2
      rw [hasM_of hg (gf_no (by decide +kernel) (by decide +kernel))]
      refine ⟨g, ln, lr, G, as, e, rfl, B, _, rfl, ?_⟩
      refine ifb (fun h => q1 (by simpa using h)) fun h => ?_
      have h2 : hasI G.nodes.length e = true := by simpa using h
      unfold isRuleI at h1
      unfold hasI at h2
      simp only [Bool.and_eq_true, decide_eq_true_eq] at h1 h2
      rw [fldAt_of hg T.cG T.nr gf_rules]
      have rl : (G.rules.map fun e => if e < G.nodes.length then V.int e else V.non).length = 16 := by rw [List.length_map]; exact B.ok.rlen
      refine ⟨lr, _, r, r.toNat, rfl, rfl, B.rules, ?_, ?_⟩
      · unfold ixN
        rw [rl, if_pos h1.1, if_pos (by omega)]
      · refine q2 (by unfold hasI; rw [decide_eq_true h2.1, decide_eq_true h2.2]; rfl) _ (B.setR nl (r := r.toNat) (e := e.toNat) (by omega) (fun c o hc ec => by rw [upd_ne hc]; exact ec) ?_) (fun c o hc ec => by rw [upd_ne hc]; exact ec)
        rw [upd_same, show ((e.toNat : Nat) : Int) = e by omega]
end
end Ow
set_option Elab.async false
set_option linter.all false
set_option maxRecDepth 100000
set_option maxHeartbeats 2000000
namespace Ow
open PySem PySem.Spec PyProof.Rows L2
local macro_rules | `(tactic| walk_at "rd") => `(tactic| simp only [tSeq, tIfS, tTest, tB, tOp, tUn, tVar, tC, tRet, tRetN, tDrop, tAsg, gName, gSub, tNext, tAnd, tOr, tNot, tAndV, tOrV, tNotV, tIf, tChain, tChain3, rI, rI0, rEq, rNe, scal, tCons, tNil, tLst, tTup, tCall, tMeth_eq, tFld_eq, tMake, tCB, tBM, TruV, tIsN, tNotN,
  L2.start, List.map_cons, List.map_nil, List.cons_append, List.nil_append, List.append_nil, List.length_cons, List.length_nil, List.replicate, List.getElem?_cons_zero, List.getElem?_cons_succ, List.set_cons_zero, List.set_cons_succ, Option.some.injEq, exists_and_left, exists_eq_left', exists_eq_left, V.int.injEq, V.bl.injEq, V.ref.injEq, V.str.injEq,
  true_and, and_true, exists_const, cxOf_K, nox_K, if_true, if_false, reduceIte, decide_eq_true_eq, Bool.not_eq_true, decide_eq_false_iff_not, List.cons.injEq, Nat.reduceAdd, Nat.reduceSub])
def bothI (a b : Int) : Int :=
  let f0 := Builtin.bitAnd a 4
  let f1 := if (Builtin.bitAnd a 3 != 0) = true then Builtin.bitOr f0 (Builtin.bitAnd b 4) else f0
  if (Builtin.bitAnd a 3 != 0) = true then (if (Builtin.bitAnd b 3 != 0) = true then Builtin.bitOr (Builtin.bitOr f1 (Builtin.bitAnd (Builtin.bitAnd a b) 1)) (Builtin.bitAnd (Builtin.bitOr a b) 2) else f1) else f1
def eitherI (a b : Int) : Int :=
  let f0 := Builtin.bitAnd a 3
  if (Builtin.bitAnd a 4 != 0) = true then Builtin.bitOr f0 b else f0
def nothingI (a : Int) : Int := if (Builtin.bitAnd a 4 != 0) = true then 1 else 0
def failsI (a : Int) : Int := if (Builtin.bitAnd a 3 != 0) = true then 4 else 0
theorem bothI_bits (p q : Rd02.May) : bothI (bits p) (bits q) = (bits ⟨p.none_ && q.none_, (p.some_ && q.takes) || (p.takes && q.some_), p.fails || (p.takes && q.fails)⟩ : Int) := by
  obtain ⟨p1, p2, p3⟩ := p
  obtain ⟨q1, q2, q3⟩ := q
  revert p1 p2 p3 q1 q2 q3
  decide +kernel
theorem eitherI_bits (p q : Rd02.May) : eitherI (bits p) (bits q) = (bits ⟨p.none_ || (p.fails && q.none_), p.some_ || (p.fails && q.some_), p.fails && q.fails⟩ : Int) := by
  obtain ⟨p1, p2, p3⟩ := p
  obtain ⟨q1, q2, q3⟩ := q
  revert p1 p2 p3 q1 q2 q3
  decide +kernel
theorem againI_bits (p : Rd02.May) : Builtin.bitOr (Builtin.bitAnd (bits p) 2) (nothingI (bits p)) = (bits ⟨p.fails, p.some_, false⟩ : Int) := by
  obtain ⟨p1, p2, p3⟩ := p
  revert p1 p2 p3
  decide +kernel
theorem notI_bits (p : Rd02.May) : Builtin.bitOr (failsI (bits p)) (nothingI (bits p)) = (bits ⟨p.fails, false, p.takes⟩ : Int) := by
  obtain ⟨p1, p2, p3⟩ := p
  revert p1 p2 p3
  decide +kernel
theorem neverI_bits (p : Rd02.May) : decide (Builtin.bitAnd (bits p) 1 = 0) = !p.none_ := by
  obtain ⟨p1, p2, p3⟩ := p
  revert p1 p2 p3
  decide +kernel
section
variable {P : Program} {w : World} {K : PySem.W.Frag} {mg : Str → Option Value} {base : Heap} {CN CG : Addr}
def sp2I (g : Int → Int → V) : Sp := fun vs H Q _ => ∃ a b : Int, vs = [.int a, .int b] ∧ Q (g a b) H
def sp1I (g : Int → V) : Sp := fun vs H Q _ => ∃ a : Int, vs = [.int a] ∧ Q (g a) H
theorem scBoth : FnScope ["first", "second", "found"] ["first", "second"] (defScope (top 31)) := ⟨rfl, rfl, rfl, by decide +kernel, rfl, by decide +kernel, by decide +kernel⟩
theorem ok_both {f : Addr} {fd : FuncData} (F : Gf K mg "may_come_of_both" (top 31) ["first", "second"] f fd) (T : Tx K mg CN CG) : FnOk P w K mg base CX0 1 f fd ["first", "second"] (sp2I fun a b => .int (bothI a b)) := by
  refine F.F.ok scBoth (fun vs H Q E h => ?_) (fun cdv A outer s H vs Q E hr h => ?_)
  · obtain ⟨a, b, rfl, _⟩ := h
    rfl
  · obtain ⟨a, b, rfl, q⟩ := h
    refine ⟨_, pss_cons (ps_set (i := 2) scBoth.nd rfl (Or.inl rfl) (pe_op op_and (pv 0) (pcst (T.k "FAILS" 4))))
      (pss_cons (ps_if (pt_truth (pe_op op_and (pv 0) (pcst (T.k "TAKES" 3))) (fun _ => rfl)) (pss_one (ps_set (i := 2) scBoth.nd rfl (Or.inl rfl) (pe_op op_or (pv 2) (pe_op op_and (pv 1) (pcst (T.k "FAILS" 4)))))) pss_nil)
      (pss_cons (ps_if (PW.pt (pw_and (pt_truth (pe_op op_and (pv 0) (pcst (T.k "TAKES" 3))) (fun _ => rfl)) (pw_and1 (pt_truth (pe_op op_and (pv 1) (pcst (T.k "TAKES" 3))) (fun _ => rfl)))))
        (pss_one (ps_set (i := 2) scBoth.nd rfl (Or.inl rfl) (pe_op op_or (pe_op op_or (pv 2) (pe_op op_and (pe_op op_and (pv 0) (pv 1)) (pcst (T.k "NOTHING" 1)))) (pe_op op_and (pe_op op_or (pv 0) (pv 1)) (pcst (T.k "SOMETHING" 2)))))) pss_nil)
      (pss_one (ps_ret (pv 2))))), ?_⟩
    walk_at "rd"
    unfold bothI at q
    cases h1 : (Builtin.bitAnd a 3 != 0) <;> cases h2 : (Builtin.bitAnd b 3 != 0) <;> simp only [h1, h2, reduceIte, Bool.false_eq_true] at q ⊢ <;> exact q
theorem scEither : FnScope ["first", "second", "found"] ["first", "second"] (defScope (top 32)) := ⟨rfl, rfl, rfl, by decide +kernel, rfl, by decide +kernel, by decide +kernel⟩
theorem ok_either {f : Addr} {fd : FuncData} (F : Gf K mg "may_come_of_either" (top 32) ["first", "second"] f fd) (T : Tx K mg CN CG) : FnOk P w K mg base CX0 1 f fd ["first", "second"] (sp2I fun a b => .int (eitherI a b)) := by
  refine F.F.ok scEither (fun vs H Q E h => ?_) (fun cdv A outer s H vs Q E hr h => ?_)
  · obtain ⟨a, b, rfl, _⟩ := h
    rfl
  · obtain ⟨a, b, rfl, q⟩ := h
    refine ⟨_, pss_cons (ps_set (i := 2) scEither.nd rfl (Or.inl rfl) (pe_op op_and (pv 0) (pcst (T.k "TAKES" 3))))
      (pss_cons (ps_if (pt_truth (pe_op op_and (pv 0) (pcst (T.k "FAILS" 4))) (fun _ => rfl)) (pss_one (ps_set (i := 2) scEither.nd rfl (Or.inl rfl) (pe_op op_or (pv 2) (pv 1)))) pss_nil)
      (pss_one (ps_ret (pv 2)))), ?_⟩
    walk_at "rd"
    unfold eitherI at q
    cases h1 : (Builtin.bitAnd a 4 != 0) <;> simp only [h1, reduceIte, Bool.false_eq_true] at q ⊢ <;> exact q
theorem scNif : FnScope ["coming"] ["coming"] (defScope (top 33)) := ⟨rfl, rfl, rfl, by decide +kernel, rfl, by decide +kernel, by decide +kernel⟩
theorem ok_nif {f : Addr} {fd : FuncData} (F : Gf K mg "nothing_if_fails" (top 33) ["coming"] f fd) (T : Tx K mg CN CG) : FnOk P w K mg base CX0 1 f fd ["coming"] (sp1I fun a => .int (nothingI a)) := by
  refine F.F.ok scNif (fun vs H Q E h => ?_) (fun cdv A outer s H vs Q E hr h => ?_)
  · obtain ⟨a, rfl, _⟩ := h
    rfl
  · obtain ⟨a, rfl, q⟩ := h
    refine ⟨_, pss_one (ps_ret (pe_ifExp (pt_truth (pe_op op_and (pv 0) (pcst (T.k "FAILS" 4))) (fun _ => rfl)) (pcst (T.k "NOTHING" 1)) pe_int)), ?_⟩
    walk_at "rd"
    unfold nothingI at q
    cases h1 : (Builtin.bitAnd a 4 != 0) <;> simp only [h1, reduceIte, Bool.false_eq_true] at q ⊢ <;> exact q
theorem scFit : FnScope ["coming"] ["coming"] (defScope (top 34)) := ⟨rfl, rfl, rfl, by decide +kernel, rfl, by decide +kernel, by decide +kernel⟩
theorem ok_fit {f : Addr} {fd : FuncData} (F : Gf K mg "fails_if_takes" (top 34) ["coming"] f fd) (T : Tx K mg CN CG) : FnOk P w K mg base CX0 1 f fd ["coming"] (sp1I fun a => .int (failsI a)) := by
  refine F.F.ok scFit (fun vs H Q E h => ?_) (fun cdv A outer s H vs Q E hr h => ?_)
  · obtain ⟨a, rfl, _⟩ := h
    rfl
  · obtain ⟨a, rfl, q⟩ := h
    refine ⟨_, pss_one (ps_ret (pe_ifExp (pt_truth (pe_op op_and (pv 0) (pcst (T.k "TAKES" 3))) (fun _ => rfl)) (pcst (T.k "FAILS" 4)) pe_int)), ?_⟩
    walk_at "rd"
    unfold failsI at q
    cases h1 : (Builtin.bitAnd a 3 != 0) <;> simp only [h1, reduceIte, Bool.false_eq_true] at q ⊢ <;> exact q
theorem scNev : FnScope ["coming"] ["coming"] (defScope (top 35)) := ⟨rfl, rfl, rfl, by decide +kernel, rfl, by decide +kernel, by decide +kernel⟩
theorem ok_nev {f : Addr} {fd : FuncData} (F : Gf K mg "never_nothing" (top 35) ["coming"] f fd) (T : Tx K mg CN CG) : FnOk P w K mg base CX0 1 f fd ["coming"] (sp1I fun a => .bl (decide (Builtin.bitAnd a 1 = 0))) := by
  refine F.F.ok scNev (fun vs H Q E h => ?_) (fun cdv A outer s H vs Q E hr h => ?_)
  · obtain ⟨a, rfl, _⟩ := h
    rfl
  · obtain ⟨a, rfl, q⟩ := h
    refine ⟨_, pss_one (ps_ret (pe_cmpR op_eq (pe_op op_and (pv 0) (pcst (T.k "NOTHING" 1))) pe_int (nomark _))), ?_⟩
    walk_at "rd"
    exact q
end
end Ow
set_option Elab.async false
set_option linter.all false
set_option maxRecDepth 100000
set_option maxHeartbeats 2000000
namespace Ow
open PySem PySem.Spec PyProof.Rows L2
local macro_rules | `(tactic| walk_at "rd") => `(tactic| simp only [tSeq, tIfS, tTest, tB, tOp, tUn, tVar, tC, tRet, tRetN, tDrop, tAsg, gName, gSub, tNext, tAnd, tOr, tNot, tAndV, tOrV, tNotV, tIf, tChain, tChain3, rI, rI0, rEq, rNe, scal, tCons, tNil, tLst, tTup, tCall, tMeth_eq, tFld_eq, tMake, tCB, tBM, TruV, tIsN, tNotN,
  L2.start, List.map_cons, List.map_nil, List.cons_append, List.nil_append, List.append_nil, List.length_cons, List.length_nil, List.replicate, List.getElem?_cons_zero, List.getElem?_cons_succ, List.set_cons_zero, List.set_cons_succ, Option.some.injEq, exists_and_left, exists_eq_left', exists_eq_left, V.int.injEq, V.bl.injEq, V.ref.injEq, V.str.injEq,
  true_and, and_true, exists_const, cxOf_K, nox_K, if_true, if_false, reduceIte, decide_eq_true_eq, Bool.not_eq_true, decide_eq_false_iff_not, List.cons.injEq, Nat.reduceAdd, Nat.reduceSub])
section
variable {G : Rd02.Gram} {l : List Rd02.May} {m : List Rd02.May} {b : List Bool} {x : Rd02.Node}
theorem mb0 (h : x.kind = 0) : Rd02.mayBy G l x = ⟨true, false, false⟩ := by unfold Rd02.mayBy; simp [h]
theorem mb12 (h : x.kind = 1 ∨ x.kind = 2) : Rd02.mayBy G l x = ⟨false, true, true⟩ := by
  unfold Rd02.mayBy
  simp only []
  rw [if_neg (by omega), if_pos h]
theorem mb3 (h : x.kind = 3) : Rd02.mayBy G l x = (let p := l.getD x.a Rd02.never; let q := l.getD x.b Rd02.never; ⟨p.none_ && q.none_, (p.some_ && q.takes) || (p.takes && q.some_), p.fails || (p.takes && q.fails)⟩) := by unfold Rd02.mayBy; simp [h]
theorem mb4 (h : x.kind = 4) : Rd02.mayBy G l x = (let p := l.getD x.a Rd02.never; let q := l.getD x.b Rd02.never; ⟨p.none_ || (p.fails && q.none_), p.some_ || (p.fails && q.some_), p.fails && q.fails⟩) := by unfold Rd02.mayBy; simp [h]
theorem mb5 (h : x.kind = 5) : Rd02.mayBy G l x = (let p := l.getD x.a Rd02.never; ⟨p.fails, p.some_, false⟩) := by unfold Rd02.mayBy; simp [h]
theorem mb6 (h : x.kind = 6) : Rd02.mayBy G l x = (let p := l.getD x.a Rd02.never; ⟨p.fails, false, p.takes⟩) := by unfold Rd02.mayBy; simp [h]
theorem mb7 (h : x.kind = 7) : Rd02.mayBy G l x = (match Rd02.bodyOf G x.a with | some d => l.getD d Rd02.never | none => Rd02.never) := by
  unfold Rd02.mayBy
  simp [h]
  cases Rd02.bodyOf G x.a <;> rfl
theorem gb012 (h : x.kind < 3) : Rd02.goodBy G m b x = true := by unfold Rd02.goodBy; simp [h]
theorem gb3 (h : x.kind = 3) : Rd02.goodBy G m b x = (b.getD x.a false && (b.getD x.b false || !(m.getD x.a Rd02.never).none_)) := by unfold Rd02.goodBy; simp [h]
theorem gb4 (h : x.kind = 4) : Rd02.goodBy G m b x = (b.getD x.a false && b.getD x.b false) := by unfold Rd02.goodBy; simp [h]
theorem gb5 (h : x.kind = 5) : Rd02.goodBy G m b x = (b.getD x.a false && !(m.getD x.a Rd02.never).none_) := by unfold Rd02.goodBy; simp [h]
theorem gb6 (h : x.kind = 6) : Rd02.goodBy G m b x = b.getD x.a false := by unfold Rd02.goodBy; simp [h]
theorem gb7 (h : x.kind = 7) : Rd02.goodBy G m b x = (match Rd02.bodyOf G x.a with | some d => b.getD d false | none => false) := by
  unfold Rd02.goodBy
  simp [h]
  cases Rd02.bodyOf G x.a <;> rfl
end
def mv (m : Rd02.May) : V := .int (bits m)
def bv (b : Bool) : V := .bl b
theorem at_map {α : Type} {f : α → V} {l : List α} {i : Nat} {d : α} (h : i < l.length) : atI (l.map f) (i : Int) = some (f (l.getD i d)) := by
  refine atI_nat ?_
  rw [List.getElem?_map, List.getElem?_eq_getElem h, List.getD_eq_getElem?_getD, List.getElem?_eq_getElem h]
  rfl
theorem rule_at {G : Rd02.Gram} (g : GOk G) {r : Nat} (hr : r < 16) : atI (G.rules.map fun e => if e < G.nodes.length then V.int e else V.non) (r : Int) = some (match Rd02.bodyOf G r with | some d => V.int d | none => V.non) := by
  have hl : r < G.rules.length := by rw [g.rlen]; exact hr
  refine atI_nat ?_
  have e := List.getElem?_eq_getElem hl
  rw [List.getElem?_map, e, bodyOf_eq e]
  unfold ruleO
  by_cases q : G.rules[r] < G.nodes.length
  · rw [if_pos q]
    simp [q]
  · rw [if_neg q]
    simp [q]
theorem sp2I_eq {g : Int → Int → V} {a b : Int} {H : Hp} {Q : VK} {E : XK} : sp2I g [.int a, .int b] H Q E = Q (g a b) H := by
  refine propext ⟨?_, fun q => ⟨a, b, rfl, q⟩⟩
  rintro ⟨a', b', e, q⟩
  cases e
  exact q
theorem sp1I_eq {g : Int → V} {a : Int} {H : Hp} {Q : VK} {E : XK} : sp1I g [.int a] H Q E = Q (g a) H := by
  refine propext ⟨?_, fun q => ⟨a, rfl, q⟩⟩
  rintro ⟨a', e, q⟩
  cases e
  exact q
section
variable {P : Program} {w : World} {K : PySem.W.Frag} {mg : Str → Option Value} {base : Heap} {CN CG : Addr}
theorem scMay : FnScope ["grammar", "node", "known", "target"] ["grammar", "node", "known"] (defScope (top 30)) := ⟨rfl, rfl, rfl, by decide +kernel, rfl, by decide +kernel, by decide +kernel⟩
def spMay (CN CG : Addr) : Sp := fun vs H Q _ => ∃ (g ln lr : Addr) (G : Rd02.Gram) (as : List Addr) (i : Nat) (a p : Addr) (l : List Rd02.May), vs = [.ref g, .ref a, .ref p] ∧ GramAt CN CG H g ln lr G as ∧ as[i]? = some a ∧ H p = some (.lst (l.map mv)) ∧ l.length = G.nodes.length ∧
  Q (mv (mayStep G i l)) H
theorem ok_may {f fB fE fN fT : Addr} {fd fdB fdE fdN fdT : FuncData} (F : Gf K mg "may_come" (top 30) ["grammar", "node", "known"] f fd) (T : Tx K mg CN CG) (FB : Gf K mg "may_come_of_both" (top 31) ["first", "second"] fB fdB) (FE : Gf K mg "may_come_of_either" (top 32) ["first", "second"] fE fdE)
    (FN : Gf K mg "nothing_if_fails" (top 33) ["coming"] fN fdN) (FT : Gf K mg "fails_if_takes" (top 34) ["coming"] fT fdT) : FnOk P w K mg base CX0 2 f fd ["grammar", "node", "known"] (spMay CN CG) := by
  have GB : FnOk P w K mg base CX0 1 fB fdB _ _ := ok_both FB T
  have GE : FnOk P w K mg base CX0 1 fE fdE _ _ := ok_either FE T
  have GN : FnOk P w K mg base CX0 1 fN fdN _ _ := ok_nif FN T
  have GT : FnOk P w K mg base CX0 1 fT fdT _ _ := ok_fit FT T
  refine F.F.ok scMay (fun vs H Q E h => ?_) (fun cdv A outer s H vs Q E hr h => ?_)
  · obtain ⟨g, ln, lr, G, as, i, a, p, l, rfl, _⟩ := h
    rfl
  · obtain ⟨g, ln, lr, G, as, i, a, p, l, rfl, B, hi, hp, hl, q⟩ := h
    obtain ⟨dg, hg⟩ := B.obj
    have hin : i < G.nodes.length := by rw [← B.len]; exact (List.getElem?_eq_some_iff.mp hi).1
    obtain ⟨d, k, pa, pb, ha, r⟩ := B.node i a _ hi (node_at hin)
    refine ⟨_, pss_cons (ps_if (pt_cmpR op_eq (pe_fld (pv 1) rfl) (pcst (T.k "NO_BYTE" 0)) (nomark _)) (pss_one (ps_ret (pcst (T.k "NOTHING" 1)))) pss_nil)
      (pss_cons (ps_if (PW.pt (pw_or (pt_cmpR op_eq (pe_fld (pv 1) rfl) (pcst (T.k "ANY_BYTE" 1)) (nomark _)) (pw_or1 (pt_cmpR op_eq (pe_fld (pv 1) rfl) (pcst (T.k "BYTE_BETWEEN" 2)) (nomark _))))) (pss_one (ps_ret (pe_op op_or (pcst (T.k "SOMETHING" 2)) (pcst (T.k "FAILS" 4))))) pss_nil)
      (pss_cons (ps_if (pt_cmpR op_eq (pe_fld (pv 1) rfl) (pcst (T.k "BOTH" 3)) (nomark _)) (pss_one (ps_ret (pe_call GB hr rfl FB.g FB.F.kp FB.b .nil pass0 (pa_cons (pe_ix ix_H (pv 2) (pe_fld (pv 1) rfl) (fun _ _ => rfl)) (pa_cons (pe_ix ix_H (pv 2) (pe_fld (pv 1) rfl) (fun _ _ => rfl)) pa_nil))))) pss_nil)
      (pss_cons (ps_if (pt_cmpR op_eq (pe_fld (pv 1) rfl) (pcst (T.k "EITHER" 4)) (nomark _)) (pss_one (ps_ret (pe_call GE hr rfl FE.g FE.F.kp FE.b .nil pass0 (pa_cons (pe_ix ix_H (pv 2) (pe_fld (pv 1) rfl) (fun _ _ => rfl)) (pa_cons (pe_ix ix_H (pv 2) (pe_fld (pv 1) rfl) (fun _ _ => rfl)) pa_nil))))) pss_nil)
      (pss_cons (ps_if (pt_cmpR op_eq (pe_fld (pv 1) rfl) (pcst (T.k "AGAIN" 5)) (nomark _)) (pss_one (ps_ret (pe_op op_or (pe_op op_and (pe_ix ix_H (pv 2) (pe_fld (pv 1) rfl) (fun _ _ => rfl)) (pcst (T.k "SOMETHING" 2))) (pe_call GN hr rfl FN.g FN.F.kp FN.b .nil pass0 (pa_cons (pe_ix ix_H (pv 2) (pe_fld (pv 1) rfl) (fun _ _ => rfl)) pa_nil))))) pss_nil)
      (pss_cons (ps_if (pt_cmpR op_eq (pe_fld (pv 1) rfl) (pcst (T.k "NOT_AHEAD" 6)) (nomark _)) (pss_one (ps_ret (pe_op op_or (pe_call GT hr rfl FT.g FT.F.kp FT.b .nil pass0 (pa_cons (pe_ix ix_H (pv 2) (pe_fld (pv 1) rfl) (fun _ _ => rfl)) pa_nil)) (pe_call GN hr rfl FN.g FN.F.kp FN.b .nil pass0 (pa_cons (pe_ix ix_H (pv 2) (pe_fld (pv 1) rfl) (fun _ _ => rfl)) pa_nil))))) pss_nil)
      (pss_cons (ps_set (i := 3) scMay.nd rfl (Or.inl rfl) (pe_ix ix_H (pe_fld (pv 0) rfl) (pe_fld (pv 1) rfl) (fun _ _ => rfl)))
      (pss_one (ps_ret (pe_ifExp (pt_cmp (pc_isN (pv 3))) pe_int (pe_ix ix_H (pv 2) (pv 3) (fun _ _ => rfl))))))))))), ?_⟩
    walk_at "rd"
    have fk := fldAt_of ha T.cN T.nk nf_kind
    have fa := fldAt_of ha T.cN T.na nf_a
    have fb := fldAt_of ha T.cN T.nb nf_b
    simp only [fk]
    unfold mayStep at q
    have hx := B.ok.kind i _ (node_at hin)
    have two := B.ok.two i _ (node_at hin)
    have one := B.ok.one i _ (node_at hin)
    have sev := B.ok.seven i _ (node_at hin)
    generalize Rd02.node G i = x at r q hx two one sev
    have ix : ∀ {j : Nat} (Q' : VK), j < G.nodes.length → rIxH (.ref p) (.int (j : Int)) H Q' = Q' (.int (bits (l.getD j Rd02.never))) H := fun {j} Q' hj => rIxH_of hp (at_map (f := mv) (by rw [hl]; exact hj)) Q'
    rcases (by omega : x.kind = 0 ∨ x.kind = 1 ∨ x.kind = 2 ∨ x.kind = 3 ∨ x.kind = 4 ∨ x.kind = 5 ∨ x.kind = 6 ∨ x.kind = 7) with h | h | h | h | h | h | h | h
    · rw [mb0 h] at q
      obtain rfl : k = 0 := by rw [r.kind, h]; rfl
      simp only [reduceIte, Int.reduceEq, true_and, V.int.injEq]
      exact q
    · rw [mb12 (.inl h)] at q
      obtain rfl : k = 1 := by rw [r.kind, h]; rfl
      simp only [reduceIte, Int.reduceEq, true_and, V.int.injEq]
      exact q
    · rw [mb12 (.inr h)] at q
      obtain rfl : k = 2 := by rw [r.kind, h]; rfl
      simp only [reduceIte, Int.reduceEq, true_and, V.int.injEq]
      exact q
    · rw [mb3 h] at q
      obtain rfl : k = 3 := by rw [r.kind, h]; rfl
      obtain ⟨rfl, rfl⟩ := r.two (.inr (.inl h))
      obtain ⟨la, lb⟩ := two (.inl h)
      simp only [reduceIte, Int.reduceEq, true_and, V.int.injEq, fa, fb, ix _ la, ix _ lb, sp2I_eq]
      rw [bothI_bits]
      exact q
    · rw [mb4 h] at q
      obtain rfl : k = 4 := by rw [r.kind, h]; rfl
      obtain ⟨rfl, rfl⟩ := r.two (.inr (.inr h))
      obtain ⟨la, lb⟩ := two (.inr h)
      simp only [reduceIte, Int.reduceEq, true_and, V.int.injEq, fa, fb, ix _ la, ix _ lb, sp2I_eq]
      rw [eitherI_bits]
      exact q
    · rw [mb5 h] at q
      obtain rfl : k = 5 := by rw [r.kind, h]; rfl
      obtain rfl := r.one (.inl h)
      have la := one (.inl h)
      simp only [reduceIte, Int.reduceEq, true_and, V.int.injEq, fa, ix _ la, sp1I_eq, exists_eq_left', exists_eq_left]
      rw [againI_bits]
      exact q
    · rw [mb6 h] at q
      obtain rfl : k = 6 := by rw [r.kind, h]; rfl
      obtain rfl := r.one (.inr (.inl h))
      have la := one (.inr h)
      simp only [reduceIte, Int.reduceEq, true_and, V.int.injEq, fa, ix _ la, sp1I_eq, exists_eq_left', exists_eq_left]
      rw [notI_bits]
      exact q
    · rw [mb7 h] at q
      obtain rfl : k = 7 := by rw [r.kind, h]; rfl
      obtain rfl := r.one (.inr (.inr h))
      simp only [reduceIte, Int.reduceEq, true_and, V.int.injEq, fa, fldAt_of hg T.cG T.nr gf_rules, rIxH_of B.rules (rule_at B.ok (sev h))]
      cases hb : Rd02.bodyOf G x.a with
      | none =>
        rw [hb] at q
        exact ifp (fun _ => q) fun z => absurd rfl z
      | some d =>
        rw [hb] at q
        refine ifp (fun z => nomatch z) fun _ => ?_
        simp only [ix _ (body_lt hb)]
        exact q
theorem scGood : FnScope ["grammar", "node", "comings", "good", "target"] ["grammar", "node", "comings", "good"] (defScope (top 36)) := ⟨rfl, rfl, rfl, by decide +kernel, rfl, by decide +kernel, by decide +kernel⟩
def spGood (CN CG : Addr) : Sp := fun vs H Q _ => ∃ (g ln lr : Addr) (G : Rd02.Gram) (as : List Addr) (i : Nat) (a c p : Addr) (l : List Bool), vs = [.ref g, .ref a, .ref c, .ref p] ∧ GramAt CN CG H g ln lr G as ∧ as[i]? = some a ∧ H c = some (.lst ((Rd02.mays G).map mv)) ∧
  H p = some (.lst (l.map bv)) ∧ l.length = G.nodes.length ∧ Q (bv (goodStep G i l)) H
theorem ok_good {f fN : Addr} {fd fdN : FuncData} (F : Gf K mg "is_good" (top 36) ["grammar", "node", "comings", "good"] f fd) (T : Tx K mg CN CG) (FN : Gf K mg "never_nothing" (top 35) ["coming"] fN fdN) :
    FnOk P w K mg base CX0 2 f fd ["grammar", "node", "comings", "good"] (spGood CN CG) := by
  have GN : FnOk P w K mg base CX0 1 fN fdN _ _ := ok_nev FN T
  refine F.F.ok scGood (fun vs H Q E h => ?_) (fun cdv A outer s H vs Q E hr h => ?_)
  · obtain ⟨g, ln, lr, G, as, i, a, c, p, l, rfl, _⟩ := h
    rfl
  · obtain ⟨g, ln, lr, G, as, i, a, c, p, l, rfl, B, hi, hc, hp, hl, q⟩ := h
    obtain ⟨dg, hg⟩ := B.obj
    have hin : i < G.nodes.length := by rw [← B.len]; exact (List.getElem?_eq_some_iff.mp hi).1
    obtain ⟨d, k, pa, pb, ha, r⟩ := B.node i a _ hi (node_at hin)
    refine ⟨_, pss_cons (ps_if (PW.pt (pw_or (pt_cmpR op_eq (pe_fld (pv 1) rfl) (pcst (T.k "NO_BYTE" 0)) (nomark _)) (pw_or (pt_cmpR op_eq (pe_fld (pv 1) rfl) (pcst (T.k "ANY_BYTE" 1)) (nomark _)) (pw_or1 (pt_cmpR op_eq (pe_fld (pv 1) rfl) (pcst (T.k "BYTE_BETWEEN" 2)) (nomark _)))))) (pss_one (ps_ret pe_bl)) pss_nil)
      (pss_cons (ps_if (pt_cmpR op_eq (pe_fld (pv 1) rfl) (pcst (T.k "BOTH" 3)) (nomark _)) (pss_one (ps_ret (pe_and (pe_ix ix_H (pv 3) (pe_fld (pv 1) rfl) (fun _ _ => rfl)) (pe_one (pe_or (pe_ix ix_H (pv 3) (pe_fld (pv 1) rfl) (fun _ _ => rfl)) (pe_one (pe_call GN hr rfl FN.g FN.F.kp FN.b .nil pass0 (pa_cons (pe_ix ix_H (pv 2) (pe_fld (pv 1) rfl) (fun _ _ => rfl)) pa_nil)))))))) pss_nil)
      (pss_cons (ps_if (pt_cmpR op_eq (pe_fld (pv 1) rfl) (pcst (T.k "EITHER" 4)) (nomark _)) (pss_one (ps_ret (pe_and (pe_ix ix_H (pv 3) (pe_fld (pv 1) rfl) (fun _ _ => rfl)) (pe_one (pe_ix ix_H (pv 3) (pe_fld (pv 1) rfl) (fun _ _ => rfl)))))) pss_nil)
      (pss_cons (ps_if (pt_cmpR op_eq (pe_fld (pv 1) rfl) (pcst (T.k "AGAIN" 5)) (nomark _)) (pss_one (ps_ret (pe_and (pe_ix ix_H (pv 3) (pe_fld (pv 1) rfl) (fun _ _ => rfl)) (pe_one (pe_call GN hr rfl FN.g FN.F.kp FN.b .nil pass0 (pa_cons (pe_ix ix_H (pv 2) (pe_fld (pv 1) rfl) (fun _ _ => rfl)) pa_nil)))))) pss_nil)
      (pss_cons (ps_if (pt_cmpR op_eq (pe_fld (pv 1) rfl) (pcst (T.k "NOT_AHEAD" 6)) (nomark _)) (pss_one (ps_ret (pe_ix ix_H (pv 3) (pe_fld (pv 1) rfl) (fun _ _ => rfl)))) pss_nil)
      (pss_cons (ps_set (i := 4) scGood.nd rfl (Or.inl rfl) (pe_ix ix_H (pe_fld (pv 0) rfl) (pe_fld (pv 1) rfl) (fun _ _ => rfl)))
      (pss_one (ps_ret (pe_and (pe_cmp (pc_notN (pv 4))) (pe_one (pe_ix ix_H (pv 3) (pv 4) (fun _ _ => rfl))))))))))), ?_⟩
    walk_at "rd"
    have fk := fldAt_of ha T.cN T.nk nf_kind
    have fa := fldAt_of ha T.cN T.na nf_a
    have fb := fldAt_of ha T.cN T.nb nf_b
    simp only [fk]
    unfold goodStep at q
    have hx := B.ok.kind i _ (node_at hin)
    have two := B.ok.two i _ (node_at hin)
    have one := B.ok.one i _ (node_at hin)
    have sev := B.ok.seven i _ (node_at hin)
    generalize Rd02.node G i = x at r q hx two one sev
    have ix : ∀ {j : Nat} (Q' : VK), j < G.nodes.length → rIxH (.ref p) (.int (j : Int)) H Q' = Q' (.bl (l.getD j false)) H := fun {j} Q' hj => rIxH_of hp (at_map (f := bv) (by rw [hl]; exact hj)) Q'
    have iy : ∀ {j : Nat} (Q' : VK), j < G.nodes.length → rIxH (.ref c) (.int (j : Int)) H Q' = Q' (.int (bits ((Rd02.mays G).getD j Rd02.never))) H := fun {j} Q' hj => rIxH_of hc (at_map (f := mv) (by rw [mays_length]; exact hj)) Q'
    rcases (by omega : x.kind = 0 ∨ x.kind = 1 ∨ x.kind = 2 ∨ x.kind = 3 ∨ x.kind = 4 ∨ x.kind = 5 ∨ x.kind = 6 ∨ x.kind = 7) with h | h | h | h | h | h | h | h
    · rw [gb012 (by omega)] at q
      obtain rfl : k = 0 := by rw [r.kind, h]; rfl
      simp only [reduceIte, Int.reduceEq, true_and, V.int.injEq]
      exact q
    · rw [gb012 (by omega)] at q
      obtain rfl : k = 1 := by rw [r.kind, h]; rfl
      simp only [reduceIte, Int.reduceEq, true_and, V.int.injEq]
      exact q
    · rw [gb012 (by omega)] at q
      obtain rfl : k = 2 := by rw [r.kind, h]; rfl
      simp only [reduceIte, Int.reduceEq, true_and, V.int.injEq]
      exact q
    · rw [gb3 h] at q
      obtain rfl : k = 3 := by rw [r.kind, h]; rfl
      obtain ⟨rfl, rfl⟩ := r.two (.inr (.inl h))
      obtain ⟨la, lb⟩ := two (.inl h)
      simp only [reduceIte, Int.reduceEq, true_and, V.int.injEq, fa, fb, ix _ la, ix _ lb, iy _ la, sp1I_eq, neverI_bits, V.bl.injEq, exists_eq_left', exists_eq_left]
      cases g1 : l.getD x.a false <;> cases g2 : l.getD x.b false <;> rw [g1, g2] at q <;> exact q
    · rw [gb4 h] at q
      obtain rfl : k = 4 := by rw [r.kind, h]; rfl
      obtain ⟨rfl, rfl⟩ := r.two (.inr (.inr h))
      obtain ⟨la, lb⟩ := two (.inr h)
      simp only [reduceIte, Int.reduceEq, true_and, V.int.injEq, fa, fb, ix _ la, ix _ lb, V.bl.injEq, exists_eq_left', exists_eq_left]
      cases g1 : l.getD x.a false <;> rw [g1] at q <;> exact q
    · rw [gb5 h] at q
      obtain rfl : k = 5 := by rw [r.kind, h]; rfl
      obtain rfl := r.one (.inl h)
      have la := one (.inl h)
      simp only [reduceIte, Int.reduceEq, true_and, V.int.injEq, fa, ix _ la, iy _ la, sp1I_eq, neverI_bits, V.bl.injEq, exists_eq_left', exists_eq_left]
      cases g1 : l.getD x.a false <;> rw [g1] at q <;> exact q
    · rw [gb6 h] at q
      obtain rfl : k = 6 := by rw [r.kind, h]; rfl
      obtain rfl := r.one (.inr (.inl h))
      have la := one (.inr h)
      simp only [reduceIte, Int.reduceEq, true_and, V.int.injEq, fa, ix _ la]
      exact q
    · rw [gb7 h] at q
      obtain rfl : k = 7 := by rw [r.kind, h]; rfl
      obtain rfl := r.one (.inr (.inr h))
      simp only [reduceIte, Int.reduceEq, true_and, V.int.injEq, fa, fldAt_of hg T.cG T.nr gf_rules, rIxH_of B.rules (rule_at B.ok (sev h)), V.bl.injEq, exists_eq_left', exists_eq_left]
      cases hb : Rd02.bodyOf G x.a with
      | none =>
        rw [hb] at q
        exact q
      | some d =>
        rw [hb] at q
        simp only [ix _ (body_lt hb)]
        exact q
end
end Ow
set_option Elab.async false
set_option linter.all false
set_option maxRecDepth 100000
set_option maxHeartbeats 2000000
namespace Ow
open PySem PySem.Spec PyProof.Rows L2
local macro_rules | `(tactic| walk_at "rd") => `(tactic| simp only [tSeq, tIfS, tTest, tB, tOp, tUn, tVar, tC, tRet, tRetN, tDrop, tAsg, gName, gSub, tNext, tAnd, tOr, tNot, tAndV, tOrV, tNotV, tIf, tChain, tChain3, rI, rI0, rEq, rNe, scal, tCons, tNil, tLst, tTup, tCall, tMeth_eq, tFld_eq, tMake, tCB, tBM, TruV, tIsN, tNotN,
  L2.start, List.map_cons, List.map_nil, List.cons_append, List.nil_append, List.append_nil, List.length_cons, List.length_nil, List.replicate, List.getElem?_cons_zero, List.getElem?_cons_succ, List.set_cons_zero, List.set_cons_succ, Option.some.injEq, exists_and_left, exists_eq_left', exists_eq_left, V.int.injEq, V.bl.injEq, V.ref.injEq, V.str.injEq,
  true_and, and_true, exists_const, cxOf_K, nox_K, if_true, if_false, reduceIte, decide_eq_true_eq, Bool.not_eq_true, decide_eq_false_iff_not, List.cons.injEq, Nat.reduceAdd, Nat.reduceSub])
theorem for_enum {K : PySem.W.Frag} {a : Addr} {xs : List V} {g : TG} {tb : TS} {D : Ends} {σ : L2.St} {H : Hp} (Pv : Nat → L2.St → Hp → Prop) (h0 : Pv 0 σ H) (hl : ∀ i σ H, i ≤ xs.length → Pv i σ H → SqL K H a xs)
    (hs : ∀ (i : Nat) (x : V) (σ : L2.St) (H : Hp) (T : Addr), xs[i]? = some x → Pv i σ H → H T = none → g (.ref T) σ (upd H T (.tup [.int (i : Nat), x])) fun σ2 H2 => tb { D with nx := Pv (i + 1), ct := Pv (i + 1), bk := D.nx } σ2 H2) (hd : ∀ σ H, Pv xs.length σ H → D.nx σ H) :
    ∃ W : Nat → Nat → L2.St → Hp → Prop, (∃ m, W 0 m σ H) ∧ ∀ i m σ H, W i m σ H →
      ((Ite K a).stop i H ∧ D.nx σ H) ∨ ((Ite K a).go i H ∧ ∃ N : L2.St → Hp → Prop, (∀ σ' H', N σ' H' → ∃ m', m' < m ∧ W (i + 1) m' σ' H') ∧ ∀ x H', (Ite K a).yld i H x H' → g x σ H' fun σ2 H2 => tb { D with nx := N, ct := N, bk := D.nx } σ2 H2) := by
  refine ⟨fun i m σ H => m = xs.length - i ∧ i ≤ xs.length ∧ Pv i σ H, ⟨xs.length, by simp, Nat.zero_le _, h0⟩, ?_⟩
  rintro i m σ H ⟨rfl, hi, p⟩
  have q := hl i σ H hi p
  by_cases hlt : i < xs.length
  · refine .inr ⟨⟨xs, xs[i], q, by simp [hlt]⟩, Pv (i + 1), fun σ' H' p' => ⟨xs.length - (i + 1), by omega, rfl, hlt, p'⟩, fun x H' y => ?_⟩
    obtain ⟨T, z, rfl, hT, rfl, hz⟩ := y
    exact hs i z σ H T (hz xs q) p hT
  · have e : i = xs.length := by omega
    subst e
    exact .inl ⟨⟨xs, q, Nat.le_refl _⟩, hd σ H p⟩
theorem rep_flat {α : Type} (v : α) : ∀ n : Nat, (List.replicate n [v]).flatten = List.replicate n v
  | 0 => rfl
  | n + 1 => by rw [List.replicate_succ, List.flatten_cons, rep_flat v n, List.replicate_succ]; rfl
theorem Same.upd_new {H : Hp} {a : Addr} {o : HO} (h : H a = none) : Same H (upd H a o) := fun b u e => by rw [upd_ne (ne_of_none e h)]; exact e
section
variable {P : Program} {w : World} {K : PySem.W.Frag} {mg : Str → Option Value} {base : Heap} {CN CG : Addr}
theorem scSettled : FnScope ["grammar", "start", "follows", "values", "changed", "number", "node", "value"] ["grammar", "start", "follows"] (defScope (top 29)) := ⟨rfl, rfl, rfl, by decide +kernel, rfl, by decide +kernel, by decide +kernel⟩
def spSettled (CN CG : Addr) (spF : Sp) (f : Addr) : Sp := fun vs H Q _ => ∃ (g ln lr : Addr) (G : Rd02.Gram) (as : List Addr) (α : Type) (emb : α → V) (O : Ord α) (step : Nat → List α → α) (lfp : List α) (b0 : α), vs = [.ref g, emb b0, .ref f] ∧ GramAt CN CG H g ln lr G as ∧
  Sys O G.nodes.length step lfp ∧ Rising O G.nodes.length step lfp (List.replicate G.nodes.length b0) ∧ (∀ a b, emb a = emb b → a = b) ∧ (∀ a b, scal (emb a) (emb b) = true) ∧
  (∀ (H' : Hp) (p : Addr) (l : List α) (i : Nat) (a : Addr) (Q' : VK), Same H H' → H' p = some (.lst (l.map emb)) → l.length = G.nodes.length → as[i]? = some a → Q' (emb (step i l)) H' → spF [.ref a, .ref p] H' Q' E0) ∧
  (∀ (H' : Hp) (p : Addr), Same H H' → H p = none → H' p = some (.lst (lfp.map emb)) → Q (.ref p) H')
theorem ok_settled {fS fl : Addr} {fdS fdL : FuncData} {psL : List Str} {spF : Sp} {k : Nat} (F : Gf K mg "settled" (top 29) ["grammar", "start", "follows"] fS fdS) (T : Tx K mg CN CG) (GF : FnOk P w K mg base CX0 (k + 1) fl fdL psL spF)
    (hf : ∃ oc od sl, base.get? fl = some ⟨oc, od, .func fdL, sl⟩) (hb : ∀ (s : Shared) (us : List Value), us.length = psL.length → BindsTo s fdL ⟨us, []⟩ (psL.zip us)) : FnOk P w K mg base CX0 (k + 2) fS fdS ["grammar", "start", "follows"] (spSettled CN CG spF fl) := by
  refine F.F.ok scSettled (fun vs H Q E h => ?_) (fun cdv A outer s H vs Q E hr h => ?_)
  · obtain ⟨g, ln, lr, G, as, α, emb, O, step, lfp, b0, rfl, _⟩ := h
    rfl
  · obtain ⟨g, ln, lr, G, as, α, emb, O, step, lfp, b0, rfl, B, S, R0, inj, hsc, call, q⟩ := h
    obtain ⟨dg, hg⟩ := B.obj
    refine ⟨_, pss_cons (ps_set (i := 3) scSettled.nd rfl (Or.inl rfl) (pe_op op_rep (pe_lst (pa_cons (pv 1) pa_nil)) (pe_callB call_lenT (by rfl) T.len PySem.boot_len (pa_cons (pe_fld (pv 0) rfl) pa_nil))))
      (pss_cons (ps_set (i := 4) scSettled.nd rfl (Or.inl rfl) pe_bl)
      (pss_cons (ps_while PassesOwn.never (pt_val (pv 4))
        (pss_cons (ps_set (i := 4) scSettled.nd rfl (Or.inl rfl) pe_bl)
        (pss_one (ps_for PassesOwn.never rfl (pi_enum rfl T.enu (pa_cons (pe_fld (pv 0) rfl) pa_nil)) (pg_tup rfl (pgs_cons (pg_name (i := 5) scSettled.nd rfl (Or.inl rfl)) (pgs_cons (pg_name (i := 6) scSettled.nd rfl (Or.inl rfl)) pgs_nil)))
          (pss_cons (ps_set (i := 7) scSettled.nd rfl (Or.inl rfl) (pe_callV 2 GF hf hr hb pass0 (pa_cons (pv 6) (pa_cons (pv 3) pa_nil)) rfl (Or.inl rfl)))
          (pss_one (ps_if (pt_cmpR op_ne (pv 7) (pe_ix ix_H (pv 3) (pv 5) (fun _ _ => rfl)) (nomark _)) (pss_cons (ps_asg (pv 7) (pg_sub (pv 3) (pv 5) set_list)) (pss_one (ps_set (i := 4) scSettled.nd rfl (Or.inl rfl) pe_bl))) pss_nil)))))))
      (pss_one (ps_ret (pv 3))))), ?_⟩
    walk_at "rd"
    have hn64 : G.nodes.length ≤ 64 := B.ok.small
    refine ⟨by show 1 ≤ sizeLine; decide, fun p0 n0 => ?_⟩
    have s0 : Same H (upd H p0 (.lst [emb b0])) := Same.upd_new n0
    have B0 := B.same s0
    rw [fldAt_of (s0 _ _ hg) T.cG T.nn gf_nodes, rLenT_of B0.nodes]
    have ln0 : (as.map V.ref).length = G.nodes.length := by rw [List.length_map]; exact B.len
    rw [ln0]
    refine ⟨p0, (G.nodes.length : Int), _, rfl, rfl, upd_same, by omega, by omega, ?_, fun p np => ?_⟩
    · show 1 * _ ≤ sizeLine
      have : (64 : Nat) ≤ sizeLine := by decide
      omega
    have e1 : (List.replicate ((G.nodes.length : Int)).toNat [emb b0]).flatten = (List.replicate G.nodes.length b0).map emb := by
      rw [show ((G.nodes.length : Int)).toNat = G.nodes.length by omega, rep_flat, List.map_replicate]
    rw [e1]
    have np0 : H p = none := by
      have z : p ≠ p0 := fun z => by rw [z, upd_same] at np; cases np
      rw [upd_ne z] at np
      exact np
    have s1 : Same H (upd (upd H p0 (.lst [emb b0])) p (.lst ((List.replicate G.nodes.length b0).map emb))) := s0.trans (Same.upd_new np)
    -- while changed
    refine ⟨fun m σ H' => ∃ (l : List α) (c : Bool) (v5 v6 v7 : Option V), σ = [some (.ref g), some (emb b0), some (.ref fl), some (.ref p), some (.bl c), v5, v6, v7] ∧ Same H H' ∧ H' p = some (.lst (l.map emb)) ∧ Rising O G.nodes.length step lfp l ∧
      (c = false → ∀ j x, l[j]? = some x → step j l = x) ∧ m = if c = true then O.top * G.nodes.length - rk O l + 1 else 0, ⟨_, _, true, none, none, none, rfl, s1, upd_same, R0, (fun z => nomatch z), rfl⟩, ?_⟩
    rintro m σ H1 ⟨l, c, v5, v6, v7, rfl, s2, hp, R, fin, rfl⟩
    refine ⟨_, rfl, c, rfl, ?_⟩
    cases c with
    | false =>
      rw [if_neg Bool.false_ne_true]
      refine ⟨_, rfl, ?_⟩
      have e2 := R.done S (fin rfl)
      subst e2
      exact q H1 p s2 np0 hp
    | true =>
      rw [if_pos rfl, if_pos rfl]
      refine ⟨_, fun σ' H' z => z, ?_⟩
      -- for number, node in enumerate(grammar.nodes)
      have B1 := B.same s2
      obtain ⟨dg1, hg1⟩ := B1.obj
      refine ⟨_, rfl, ?_⟩
      show fldAt K "nodes" (.ref g) H1 _
      rw [fldAt_of hg1 T.cG T.nn gf_nodes]
      refine ⟨ln, _, rfl, SqL.of B1.nodes, for_enum (xs := as.map V.ref) (fun i σ H' => ∃ (l' : List α) (c : Bool) (v5 v6 v7 : Option V), σ = [some (.ref g), some (emb b0), some (.ref fl), some (.ref p), some (.bl c), v5, v6, v7] ∧ Same H H' ∧ H' p = some (.lst (l'.map emb)) ∧
          Rising O G.nodes.length step lfp l' ∧ (c = false → l' = l ∧ ∀ j x, j < i → l[j]? = some x → step j l = x) ∧ (c = true → rk O l < rk O l'))
        ⟨l, false, v5, v6, v7, rfl, s2, hp, R, (fun _ => ⟨rfl, fun j x z => absurd z (Nat.not_lt_zero _)⟩), (fun z => nomatch z)⟩ ?_ ?_ ?_⟩
      · rintro i σ H2 _ ⟨l', c, w5, w6, w7, rfl, s3, _⟩
        exact SqL.of (s3 _ _ B.nodes)
      · rintro i y σ H2 TT hi ⟨l', c, w5, w6, w7, rfl, s3, hp2, R2, c1, c2⟩ hT
        obtain ⟨a, ha, rfl⟩ : ∃ a, as[i]? = some a ∧ y = V.ref a := by
          rw [List.getElem?_map] at hi
          cases e : as[i]? with
          | none => rw [e] at hi; cases hi
          | some a => rw [e] at hi; exact ⟨a, rfl, (Option.some.inj hi).symm⟩
        have hin : i < G.nodes.length := by rw [← B.len]; exact (List.getElem?_eq_some_iff.mp ha).1
        have hil : i < l'.length := by rw [R2.len]; exact hin
        have s4 : Same H (upd H2 TT (.tup [.int (i : Nat), .ref a])) := s3.trans (Same.upd_new hT)
        have hp4 : upd H2 TT (.tup [.int (i : Nat), .ref a]) p = some (.lst (l'.map emb)) := (Same.upd_new hT) _ _ hp2
        refine ⟨TT, _, rfl, SqT.of upd_same, rfl, _, _, rfl, _, _, rfl, rfl, ?_⟩
        refine ⟨rfl, _, rfl, _, rfl, call _ p l' i a _ s4 hp4 R2.len ha ?_⟩
        have hx : l'[i]? = some l'[i] := List.getElem?_eq_getElem hil
        refine ⟨_, rfl, _, rfl, _, rfl, p, _, (i : Int), emb l'[i], rfl, rfl, hp4, ?_, hsc _ _, _, rfl, ?_⟩
        · refine atI_nat ?_
          rw [List.getElem?_map, hx]
          rfl
        refine ifb (fun h => ?_) fun h => ?_
        · have hne : step i l' ≠ l'[i] := fun z => by rw [z] at h; simp at h
          refine ⟨_, rfl, _, rfl, _, rfl, p, _, (i : Int), i, rfl, rfl, hp4, ?_, ?_⟩
          · unfold ixN
            rw [List.length_map, if_pos (by omega), if_pos (by omega), Int.toNat_natCast]
          · refine ⟨l'.set i (step i l'), true, _, _, _, rfl, ?_, ?_, R2.next S hx, (fun z => nomatch z), fun _ => ?_⟩
            · intro b o e
              have nb : b ≠ p := fun z => by rw [z, np0] at e; cases e
              rw [upd_ne nb]
              exact s4 _ _ e
            · rw [upd_same, List.map_set]
            · have lt := R2.rk_lt hx hne
              cases c with
              | false =>
                obtain ⟨rfl, _⟩ := c1 rfl
                exact lt
              | true => exact Nat.lt_trans (c2 rfl) lt
        · have he : step i l' = l'[i] := inj _ _ (by simpa using h)
          refine ⟨l', c, _, _, _, rfl, s4, hp4, R2, fun z => ?_, c2⟩
          obtain ⟨rfl, c3⟩ := c1 z
          refine ⟨rfl, fun j x hj hjx => ?_⟩
          by_cases w : j = i
          · subst w
            rw [he]
            rw [hx] at hjx
            exact Option.some.inj hjx
          · exact c3 j x (by omega) hjx
      · rintro σ H2 ⟨l', c, w5, w6, w7, rfl, s3, hp2, R2, c1, c2⟩
        have rm := R2.room
        refine ⟨_, ?_, l', c, w5, w6, w7, rfl, s3, hp2, R2, fun z => ?_, rfl⟩
        · cases c with
          | false => rw [if_neg Bool.false_ne_true]; omega
          | true =>
            have := c2 rfl
            rw [if_pos rfl]
            omega
        · obtain ⟨rfl, c3⟩ := c1 z
          intro j x hj
          refine c3 j x ?_ hj
          rw [List.length_map, B.len, ← R2.len]
          exact (List.getElem?_eq_some_iff.mp hj).1
end
end Ow
set_option Elab.async false
set_option linter.all false
set_option maxRecDepth 100000
set_option maxHeartbeats 2000000
namespace Ow
open PySem PySem.Spec PyProof.Rows L2
local macro_rules | `(tactic| walk_at "rd") => `(tactic| simp only [tSeq, tIfS, tTest, tB, tOp, tUn, tVar, tC, tRet, tRetN, tDrop, tAsg, gName, gSub, tNext, tAnd, tOr, tNot, tAndV, tOrV, tNotV, tIf, tChain, tChain3, rI, rI0, rEq, rNe, scal, tCons, tNil, tLst, tTup, tCall, tMeth_eq, tFld_eq, tMake, tCB, tBM, TruV, tIsN, tNotN,
  L2.start, List.map_cons, List.map_nil, List.cons_append, List.nil_append, List.append_nil, List.length_cons, List.length_nil, List.replicate, List.getElem?_cons_zero, List.getElem?_cons_succ, List.set_cons_zero, List.set_cons_succ, Option.some.injEq, exists_and_left, exists_eq_left', exists_eq_left, V.int.injEq, V.bl.injEq, V.ref.injEq, V.str.injEq,
  true_and, and_true, exists_const, cxOf_K, nox_K, if_true, if_false, reduceIte, decide_eq_true_eq, Bool.not_eq_true, decide_eq_false_iff_not, List.cons.injEq, Nat.reduceAdd, Nat.reduceSub])
def noE : Expr := .Constant .none 0 ⟨0, 0, 0, 0⟩
def retE (s : Stmt) : Expr := match s with
  | .Return (some e) _ => e
  | _ => noE
def arg3 (e : Expr) : Expr := match e with
  | .Call _ [_, _, l] _ _ => l
  | _ => noE
def lamPos (e : Expr) : Pos := match e with
  | .Lambda _ _ _ p => p
  | _ => ⟨0, 0, 0, 0⟩
def lamScope (e : Expr) : Scope := match e with
  | .Lambda _ _ s _ => s
  | _ => { kind := .function, names := [], isGenerator := false, isCoroutine := false }
abbrev lamMay : Expr := arg3 (retE ((defBody (top 28)).getD 0 (.Pass ⟨0, 0, 0, 0⟩)))
abbrev lamGood : Expr := arg3 (retE ((defBody (top 27)).getD 1 (.Pass ⟨0, 0, 0, 0⟩)))
abbrev qMay : Str := (("what_may_come" : Str) ++ ".<locals>.") ++ "<lambda>"
abbrev qGood : Str := (("good_nodes" : Str) ++ ".<locals>.") ++ "<lambda>"
theorem lsMay : LamScope ["node", "known", "grammar"] ["node", "known"] ["grammar"] (lamScope lamMay) := ⟨rfl, rfl, rfl, by decide +kernel, rfl, by decide +kernel, by decide +kernel, by decide +kernel, by decide +kernel⟩
theorem lsGood : LamScope ["node", "good", "grammar", "comings"] ["node", "good"] ["grammar", "comings"] (lamScope lamGood) := ⟨rfl, rfl, rfl, by decide +kernel, rfl, by decide +kernel, by decide +kernel, by decide +kernel, by decide +kernel⟩
def SameX (Ps : List Addr) (H H' : Hp) : Prop := ∀ b o, b ∉ Ps → H b = some o → H' b = some o
theorem SameX.of_same {Ps : List Addr} {H H' : Hp} (h : Same H H') : SameX Ps H H' := fun b o _ e => h b o e
theorem SameX.trans {Ps : List Addr} {H H1 H2 : Hp} (a : SameX Ps H H1) (b : SameX Ps H1 H2) : SameX Ps H H2 := fun c o n e => b c o n (a c o n e)
theorem SameX.mono {Ps Qs : List Addr} {H H' : Hp} (a : SameX Ps H H') (h : ∀ b ∈ Ps, b ∈ Qs) : SameX Qs H H' := fun c o n e => a c o (fun z => n (h c z)) e
theorem tab_tbl {H : Hp} {P : Addr} {pos : Pos} {q : Str} (t : TabOk H P pos q) : ∃ ps, H P = some (.tbl ps) := by
  rcases t with t | ⟨c, t, _⟩
  · exact ⟨_, t⟩
  · exact ⟨_, t⟩
theorem tab_keep {H H' : Hp} {P : Addr} {pos : Pos} {q : Str} (t : TabOk H P pos q) {Ps : List Addr} (hP : P ∉ Ps) (k : SameX Ps H H') (tb : ∀ p ∈ Ps, ∃ ps, H p = some (.tbl ps)) : TabOk H' P pos q := by
  rcases t with t | ⟨c, t, t2⟩
  · exact .inl (k _ _ hP t)
  · refine .inr ⟨c, k _ _ hP t, k _ _ (fun z => ?_) t2⟩
    obtain ⟨ps, e⟩ := tb c z
    rw [t2] at e
    cases e
theorem GramAt.keepX {CN CG : Addr} {H H' : Hp} {g ln lr : Addr} {G : Rd02.Gram} {as : List Addr} {Ps : List Addr} (A : GramAt CN CG H g ln lr G as) (k : SameX Ps H H') (tb : ∀ p ∈ Ps, ∃ ps, H p = some (.tbl ps)) : GramAt CN CG H' g ln lr G as := by
  have no : ∀ {b : Addr} {o : HO}, H b = some o → (∀ ps, o ≠ .tbl ps) → b ∉ Ps := fun {b o} e n z => by
    obtain ⟨ps, e'⟩ := tb b z
    rw [e] at e'
    exact n ps (Option.some.inj e')
  refine ⟨A.ok, ?_, k _ _ (no A.nodes (fun _ z => nomatch z)) A.nodes, k _ _ (no A.rules (fun _ z => nomatch z)) A.rules, A.len, fun i a x h1 h2 => ?_⟩
  · obtain ⟨dg, e⟩ := A.obj
    exact ⟨dg, k _ _ (no e (fun _ z => nomatch z)) e⟩
  · obtain ⟨d, k', p, q, e, r⟩ := A.node i a x h1 h2
    exact ⟨d, k', p, q, k _ _ (no e (fun _ z => nomatch z)) e, r⟩
theorem lk_swap {x a b : Str} {u v : Addr} (h : a ≠ b) : List.lookup x [(a, u), (b, v)] = List.lookup x [(b, v), (a, u)] := by
  by_cases h1 : x = a
  · subst h1
    have hb : (x == b) = false := beq_eq_false_iff_ne.mpr h
    simp [List.lookup, hb]
  · have ha : (x == a) = false := beq_eq_false_iff_ne.mpr h1
    by_cases h2 : x = b
    · subst h2
      simp [List.lookup, ha]
    · have hb : (x == b) = false := beq_eq_false_iff_ne.mpr h2
      simp [List.lookup, ha, hb]
section
variable {P : Program} {w : World} {K : PySem.W.Frag} {mg : Str → Option Value} {base : Heap} {CN CG : Addr}
theorem fun_okc {x qual : Str} {st : Stmt} {f : Addr} {fd : FuncData} {N ps : List Str} {k : Nat} {sp : Sp} (F : Fun K x qual st f fd) (S : FnScope N ps (defScope st)) (len : ∀ vs H Q E, sp vs H Q E → vs.length = ps.length)
    (hbody : ∀ (cdv : Value) (A : Around) (outer : List Env) (s : Shared) (H : Hp) (vs : List V) (Q : VK) (E : XK), fd.code = cdv → Room k (A.deeper (envOfC qual (defScope st) s.heap.objs.size f cdv)) → sp vs H Q E →
      ∃ t, PSs (cxOf CX0 P w K mg base N qual (defScope st) f cdv A outer s H E).nox (defBody st) t ∧ t { nx := fun _ H' => Q .non H', rt := Q } (L2.start N vs) H) : FnOk P w K mg base CX0 (k + 1) f fd ps sp := by
  obtain ⟨oc, od, kV, doc, pm, an, cdv, ct, osl, rfl, lk, hcd⟩ := F.ex
  refine fn_of lk hcd S len fun A outer s H vs Q E hr hsp => ?_
  obtain ⟨t, h, q⟩ := hbody cdv A outer s H vs Q E rfl hr hsp
  exact ⟨t, h.nox, q⟩
def spLamMay (CN CG c' : Addr) (cvs : List V) : Sp := fun vs H Q E => vs.length = 2 ∧ H c' = some (codeHO c' qMay) ∧ spMay CN CG (cvs ++ vs) H Q E
theorem ok_lamMay {f fM fB fE fN fT : Addr} {c' : Addr} {fdM fdB fdE fdN fdT : FuncData} {name : Str} {params : Arguments} {body : Expr} {scope : Scope} {lpos : Pos} {clos : List (Str × Addr)} {pm ctv : Value} {cvs : List V} (T : Tx K mg CN CG) (FM : Gf K mg "may_come" (top 30) ["grammar", "node", "known"] fM fdM)
    (FB : Gf K mg "may_come_of_both" (top 31) ["first", "second"] fB fdB) (FE : Gf K mg "may_come_of_either" (top 32) ["first", "second"] fE fdE) (FN : Gf K mg "nothing_if_fails" (top 33) ["coming"] fN fdN) (FT : Gf K mg "fails_if_takes" (top 34) ["coming"] fT fdT)
    (hL : lamMay = .Lambda params body scope lpos) (ho : base.get? f = some (PySem.W.kla_obj name qMay params body scope clos pm c' ctv)) (C : CloAt base ["grammar"] clos cvs) :
    FnOk P w K mg base CX0 3 f (PySem.W.kla_fn name qMay params body scope clos pm (.ref c') ctv) ["node", "known"] (spLamMay CN CG c' cvs) := by
  have GM : FnOk P w K mg base CX0 2 fM fdM _ _ := ok_may FM T FB FE FN FT
  cases hL
  refine lam_of ho lsMay C (fun vs H Q E h => h.1) (fun vs H Q E h => h.2.1) fun A outer s H vs Q E hr h => ?_
  obtain ⟨h1, _, h2⟩ := h
  match cvs, C.len, vs, h1 with
  | [v0], _, [v1, v2], _ =>
    refine ⟨_, pe_call GM hr rfl FM.g FM.F.kp FM.b .nil pass0 (pa_cons (pv 2) (pa_cons (pv 0) (pa_cons (pv 1) pa_nil))), ?_⟩
    exact ⟨_, rfl, _, rfl, _, rfl, h2⟩
theorem scWhat : FnScope ["grammar"] ["grammar"] (defScope (top 28)) := ⟨rfl, rfl, rfl, by decide +kernel, rfl, by decide +kernel, by decide +kernel⟩
def spWhat (CN CG P1 : Addr) : Sp := fun vs H Q _ => ∃ (g ln lr : Addr) (G : Rd02.Gram) (as : List Addr), vs = [.ref g] ∧ GramAt CN CG H g ln lr G as ∧ TabOk H P1 (lamPos lamMay) qMay ∧
  ∀ (H' : Hp) (p : Addr), SameX [P1] H H' → TabOk H' P1 (lamPos lamMay) qMay → H' p = some (.lst ((Rd02.mays G).map mv)) → Q (.ref p) H'
theorem ok_what {f fS fM fB fE fN fT c P1 : Addr} {fd fdS fdM fdB fdE fdN fdT : FuncData} (F : Gf K mg "what_may_come" (top 28) ["grammar"] f fd) (T : Tx K mg CN CG) (FS : Gf K mg "settled" (top 29) ["grammar", "start", "follows"] fS fdS) (FM : Gf K mg "may_come" (top 30) ["grammar", "node", "known"] fM fdM)
    (FB : Gf K mg "may_come_of_both" (top 31) ["first", "second"] fB fdB) (FE : Gf K mg "may_come_of_either" (top 32) ["first", "second"] fE fdE) (FN : Gf K mg "nothing_if_fails" (top 33) ["coming"] fN fdN) (FT : Gf K mg "fails_if_takes" (top 34) ["coming"] fT fdT)
    (C : PySem.W.CodeHd base c P1) (hc : fd.code = .ref c) (B : Bm mg base) : FnOk P w K mg base CX0 5 f fd ["grammar"] (spWhat CN CG P1) := by
  refine fun_okc F.F scWhat (fun vs H Q E h => ?_) (fun cdv A outer s H vs Q E hcd hr h => ?_)
  · obtain ⟨g, ln, lr, G, as, rfl, _⟩ := h
    rfl
  · obtain ⟨g, ln, lr, G, as, rfl, BG, TB, q⟩ := h
    obtain rfl : cdv = .ref c := hcd.symm.trans hc
    refine ⟨_, pss_one (ps_ret (pe_callLam (caps := [0]) (fr := ["grammar"]) (sp := fun fl c' cvs => spSettled CN CG (spLamMay CN CG c' cvs) fl) C rfl B rfl rfl (fun x d h => h) (fun x _ => rfl) (fun x hx => by obtain rfl := List.mem_singleton.mp hx; rfl) (fun _ _ _ => rfl) rfl
      (fun base' fl c' ctv cvs kb ho CL => ok_settled (k := 2) FS T (ok_lamMay T FM FB FE FN FT rfl ho CL) ⟨_, _, _, ho⟩ (fun s us hu => match us, hu with | [_, _], _ => .of_eq rfl)) hr rfl FS.g FS.F.kp FS.b pass0 (pv 0) pe_int)), ?_⟩
    refine ⟨_, rfl, TB, [.ref g], rfl, fun fl c' H3 k3 hT => ?_⟩
    have tb : ∀ p ∈ [P1], ∃ ps, H p = some (.tbl ps) := fun p hp => by
      obtain rfl := List.mem_singleton.mp hp
      exact tab_tbl TB
    have kx : SameX [P1] H H3 := fun b o n e => k3 b o (fun z => n (by rw [z]; exact List.mem_singleton.mpr rfl)) e
    have B3 := BG.keepX kx tb
    refine ⟨g, ln, lr, G, as, Rd02.May, mv, mayOrd, mayStep G, Rd02.mays G, Rd02.never, rfl, B3, may_sys G, may_start G, fun a b e => bits_inj (by have e : (V.int (bits a)) = V.int (bits b) := e; injection e with e; omega), fun a b => rfl, fun H' p l i a Q' s4 hp hl ha q4 => ?_, fun H' p s4 np hp => ?_⟩
    · exact ⟨rfl, s4 _ _ hT.2, g, ln, lr, G, as, i, a, p, l, rfl, B3.same s4, ha, hp, hl, q4⟩
    · exact q H' p (kx.trans (SameX.of_same s4)) (.inr ⟨c', s4 _ _ hT.1, s4 _ _ hT.2⟩) hp
def spLamGood (CN CG c' : Addr) (cvs : List V) : Sp := fun vs H Q E => ∃ v0 v1 v2 v3, vs = [v1, v3] ∧ cvs = [v0, v2] ∧ H c' = some (codeHO c' qGood) ∧ spGood CN CG [v0, v1, v2, v3] H Q E
theorem ok_lamGood {f fM fN : Addr} {c' : Addr} {fdM fdN : FuncData} {name : Str} {params : Arguments} {body : Expr} {scope : Scope} {lpos : Pos} {clos : List (Str × Addr)} {pm ctv : Value} {cvs : List V} (T : Tx K mg CN CG) (FM : Gf K mg "is_good" (top 36) ["grammar", "node", "comings", "good"] fM fdM)
    (FN : Gf K mg "never_nothing" (top 35) ["coming"] fN fdN) (hL : lamGood = .Lambda params body scope lpos) (ho : base.get? f = some (PySem.W.kla_obj name qGood params body scope clos pm c' ctv)) (C : CloAt base ["grammar", "comings"] clos cvs) :
    FnOk P w K mg base CX0 3 f (PySem.W.kla_fn name qGood params body scope clos pm (.ref c') ctv) ["node", "good"] (spLamGood CN CG c' cvs) := by
  have GM : FnOk P w K mg base CX0 2 fM fdM _ _ := ok_good FM T FN
  cases hL
  refine lam_of ho lsGood C (fun vs H Q E h => ?_) (fun vs H Q E h => ?_) fun A outer s H vs Q E hr h => ?_
  · obtain ⟨v0, v1, v2, v3, rfl, _⟩ := h
    rfl
  · obtain ⟨v0, v1, v2, v3, rfl, _, h, _⟩ := h
    exact h
  · obtain ⟨v0, v1, v2, v3, rfl, rfl, _, h2⟩ := h
    refine ⟨_, pe_call GM hr rfl FM.g FM.F.kp FM.b .nil pass0 (pa_cons (pv 2) (pa_cons (pv 0) (pa_cons (pv 3) (pa_cons (pv 1) pa_nil)))), ?_⟩
    exact ⟨_, rfl, _, rfl, _, rfl, _, rfl, h2⟩
theorem scGoods : FnScope ["grammar", "comings"] ["grammar"] (defScope (top 27)) := ⟨rfl, rfl, rfl, by decide +kernel, rfl, by decide +kernel, by decide +kernel⟩
structure Tabs (H : Hp) (P1 P2 : Addr) : Prop where
  ne : P1 ≠ P2
  may : TabOk H P1 (lamPos lamMay) qMay
  good : TabOk H P2 (lamPos lamGood) qGood
theorem Tabs.tb {H : Hp} {P1 P2 : Addr} (t : Tabs H P1 P2) : ∀ p ∈ [P1, P2], ∃ ps, H p = some (.tbl ps) := fun p hp => by
  simp at hp
  rcases hp with rfl | rfl
  · exact tab_tbl t.may
  · exact tab_tbl t.good
def spGoods (CN CG P1 P2 : Addr) : Sp := fun vs H Q _ => ∃ (g ln lr : Addr) (G : Rd02.Gram) (as : List Addr), vs = [.ref g] ∧ GramAt CN CG H g ln lr G as ∧ Tabs H P1 P2 ∧
  ∀ (H' : Hp) (p : Addr), SameX [P1, P2] H H' → Tabs H' P1 P2 → H' p = some (.lst ((Rd02.goods G).map bv)) → Q (.ref p) H'
theorem ok_goods {f fW fS fG fV fM fB fE fN fT c c2 P1 P2 : Addr} {fd fdW fdS fdG fdV fdM fdB fdE fdN fdT : FuncData} (F : Gf K mg "good_nodes" (top 27) ["grammar"] f fd) (T : Tx K mg CN CG) (FW : Gf K mg "what_may_come" (top 28) ["grammar"] fW fdW) (FS : Gf K mg "settled" (top 29) ["grammar", "start", "follows"] fS fdS)
    (FG : Gf K mg "is_good" (top 36) ["grammar", "node", "comings", "good"] fG fdG) (FV : Gf K mg "never_nothing" (top 35) ["coming"] fV fdV) (FM : Gf K mg "may_come" (top 30) ["grammar", "node", "known"] fM fdM)
    (FB : Gf K mg "may_come_of_both" (top 31) ["first", "second"] fB fdB) (FE : Gf K mg "may_come_of_either" (top 32) ["first", "second"] fE fdE) (FN : Gf K mg "nothing_if_fails" (top 33) ["coming"] fN fdN) (FT : Gf K mg "fails_if_takes" (top 34) ["coming"] fT fdT)
    (C1 : PySem.W.CodeHd base c P1) (hc1 : fdW.code = .ref c) (C2 : PySem.W.CodeHd base c2 P2) (hc2 : fd.code = .ref c2) (B : Bm mg base) : FnOk P w K mg base CX0 6 f fd ["grammar"] (spGoods CN CG P1 P2) := by
  have GW : FnOk P w K mg base CX0 5 fW fdW _ _ := ok_what FW T FS FM FB FE FN FT C1 hc1 B
  refine fun_okc F.F scGoods (fun vs H Q E h => ?_) (fun cdv A outer s H vs Q E hcd hr h => ?_)
  · obtain ⟨g, ln, lr, G, as, rfl, _⟩ := h
    rfl
  · obtain ⟨g, ln, lr, G, as, rfl, BG, TB, q⟩ := h
    obtain rfl : cdv = .ref c2 := hcd.symm.trans hc2
    refine ⟨_, pss_cons (ps_set (i := 1) scGoods.nd rfl (Or.inr rfl) (pe_call GW hr rfl FW.g FW.F.kp FW.b .nil pass0 (pa_cons (pv 0) pa_nil)))
      (pss_one (ps_ret (pe_callLam (caps := [0, 1]) (fr := ["grammar", "comings"]) (sp := fun fl c' cvs => spSettled CN CG (spLamGood CN CG c' cvs) fl) C2 rfl B rfl rfl (fun x d h => (lk_swap (by decide +kernel)).symm.trans h) (fun x _ => lk_swap (by decide +kernel)) (fun x hx => by rcases List.mem_cons.mp hx with rfl | hx; rfl; obtain rfl := List.mem_singleton.mp hx; rfl) (fun _ _ _ => rfl) rfl
      (fun base' fl c' ctv cvs kb ho CL => ok_settled (k := 2) FS T (ok_lamGood T FG FV rfl ho CL) ⟨_, _, _, ho⟩ (fun s us hu => match us, hu with | [_, _], _ => .of_eq rfl)) (hr.mono (by decide)) rfl FS.g FS.F.kp FS.b pass0 (pv 0) pe_bl))), ?_⟩
    refine ⟨_, rfl, g, ln, lr, G, as, rfl, BG, TB.may, fun H1 pc k1 t1 hpc => ?_⟩
    have tb1 : ∀ p ∈ [P1], ∃ ps, H p = some (.tbl ps) := fun p hp => by
      obtain rfl := List.mem_singleton.mp hp
      exact tab_tbl TB.may
    have B1 := BG.keepX k1 tb1
    have t2 : TabOk H1 P2 (lamPos lamGood) qGood := tab_keep TB.good (by simp; exact TB.ne.symm) k1 tb1
    refine ⟨_, rfl, t2, [.ref g, .ref pc], rfl, fun fl c' H3 k3 hT => ?_⟩
    have kx : SameX [P2] H1 H3 := fun b o n e => k3 b o (fun z => n (by rw [z]; exact List.mem_singleton.mpr rfl)) e
    have tb2 : ∀ p ∈ [P2], ∃ ps, H1 p = some (.tbl ps) := fun p hp => by
      obtain rfl := List.mem_singleton.mp hp
      exact tab_tbl t2
    have B3 := B1.keepX kx tb2
    have hpc3 : H3 pc = some (.lst ((Rd02.mays G).map mv)) := k3 _ _ (fun z => by obtain ⟨ps, e⟩ := tab_tbl t2; rw [← z, hpc] at e; cases e) hpc
    have t13 : TabOk H3 P1 (lamPos lamMay) qMay := tab_keep t1 (by simp; exact TB.ne) kx tb2
    refine ⟨g, ln, lr, G, as, Bool, bv, boolOrd, goodStep G, Rd02.goods G, false, rfl, B3, good_sys G, good_start G, fun a b e => by injection e, fun a b => rfl, fun H' p l i a Q' s4 hp hl ha q4 => ?_, fun H' p s4 np hp => ?_⟩
    · exact ⟨_, _, _, _, rfl, rfl, s4 _ _ hT.2, g, ln, lr, G, as, i, a, pc, p, l, rfl, B3.same s4, ha, s4 _ _ hpc3, hp, hl, q4⟩
    · refine q H' p (((k1.mono (by simp)).trans (kx.mono (by simp))).trans (SameX.of_same s4)) ⟨TB.ne, ?_, .inr ⟨c', s4 _ _ hT.1, s4 _ _ hT.2⟩⟩ hp
      exact tab_keep t13 (Ps := []) (by simp) (SameX.of_same s4) (fun p hp => by simp at hp)
theorem scSound : FnScope ["grammar"] ["grammar"] (defScope (top 26)) := ⟨rfl, rfl, rfl, by decide +kernel, rfl, by decide +kernel, by decide +kernel⟩
def spSound (CN CG P1 P2 : Addr) : Sp := fun vs H Q _ => ∃ (g ln lr : Addr) (G : Rd02.Gram) (as : List Addr), vs = [.ref g] ∧ GramAt CN CG H g ln lr G as ∧ Tabs H P1 P2 ∧
  ∀ (H' : Hp), SameX [P1, P2] H H' → Tabs H' P1 P2 → Q (.bl (Rd02.sound G)) H'
theorem ok_sound {f fG fd' P1 P2 : Addr} {fd fdG : FuncData} (F : Gf K mg "is_sound" (top 26) ["grammar"] f fd) (T : Tx K mg CN CG) (FG : Gf K mg "good_nodes" (top 27) ["grammar"] fG fdG) (GG : FnOk P w K mg base CX0 6 fG fdG ["grammar"] (spGoods CN CG P1 P2)) :
    FnOk P w K mg base CX0 7 f fd ["grammar"] (spSound CN CG P1 P2) := by
  refine F.F.ok scSound (fun vs H Q E h => ?_) (fun cdv A outer s H vs Q E hr h => ?_)
  · obtain ⟨g, ln, lr, G, as, rfl, _⟩ := h
    rfl
  · obtain ⟨g, ln, lr, G, as, rfl, BG, TB, q⟩ := h
    refine ⟨_, pss_one (ps_ret (pe_callB (call_all_bl rfl) (by rfl) T.all boot_all (pa_cons (pe_call GG hr rfl FG.g FG.F.kp FG.b .nil pass0 (pa_cons (pv 0) pa_nil)) pa_nil))), ?_⟩
    refine ⟨_, rfl, g, ln, lr, G, as, rfl, BG, TB, fun H1 p k1 t1 hp => ?_⟩
    exact ⟨p, Rd02.goods G, rfl, SqL.of hp, q H1 k1 t1⟩
end
end Ow
set_option Elab.async false
set_option linter.all false
set_option maxRecDepth 100000
set_option maxHeartbeats 2000000
namespace L2
open PySem PySem.Spec PyProof.Rows
open PySem.W (WData Codec OpenSpec Well WellAll ReadsW ReadsAllW)
theorem Same.seqT {K : PySem.W.Frag} {H H' : Hp} {a : Addr} {xs : List V} (e : Same H H') (h : SqT K H a xs) : SqT K H' a xs := by
  rcases h with (h | ⟨o, h⟩) | h
  · exact .inl (.inl (e _ _ h))
  · exact .inl (.inr ⟨o, e _ _ h⟩)
  · exact .inr h
mutual
theorem dw_mono {K : PySem.W.Frag} {H H' : Hp} (k : Same H H') : ∀ {v : V} {d : WData}, Dw K H v d → Dw K H' v d
  | _, _, .non => .non
  | _, _, .bl b => .bl b
  | _, _, .int i => .int i
  | _, _, .str x => .str x
  | _, _, .byt b => .byt b
  | _, _, .lst s a => .lst (k.seq s) (dws_mono k a)
  | _, _, .tup s a => .tup (k.seqT s) (dws_mono k a)
theorem dws_mono {K : PySem.W.Frag} {H H' : Hp} (k : Same H H') : ∀ {vs : List V} {ds : List WData}, DwAll K H vs ds → DwAll K H' vs ds
  | _, _, .nil => .nil
  | _, _, .cons a b => .cons (dw_mono k a) (dws_mono k b)
end
def OnlyT (ts : List Addr) (H : Hp) : Prop := (∀ b, b ∉ ts → H b = none ∨ ∃ o u, H b = some (.frz o u)) ∧ ∀ b ∈ ts, H b = some (.tbl #[])
theorem spec_callT {P : Program} {w : World} {K : PySem.W.Frag} {mg mb : Str → Option Value} {CX : CXT} {k : Nat} {fa : Addr} {fd : FuncData} {ps : List Str} {sp : Sp} {s1 : Shared} {vals : List Value} {ds : List WData} {R : PySem.W.WRecords} {cl : Str → Option Addr} {d0 : WData} {tabs : List (Addr × Addr)}
    (KX : K.In s1.heap) (hns : s1.heap.Ns mainGlobals mg) (hb : s1.heap.Ns builtinsNs mb) (hbb : ∀ x : Str, x ≠ "__name__" → mb x = bootBuiltins x) (hlim : s1.heap.NoLimit) (hg : s1.gens = #[]) (hBm : Bm mg s1.heap)
    (hT : ∀ t ∈ tabs, PySem.W.CodeHd s1.heap t.1 t.2 ∧ s1.heap.get? t.2 = some (PySem.W.tabObj #[])) (hTK : ∀ t ∈ tabs, K.lookup t.2 = none)
    (hwl : WellAll w.params s1.heap vals ds) (hpl : plWs ds = true) (hwt : ∀ d ∈ ds, d.weight ≤ 1048576) (hr : Room k callerA)
    (F : ∀ base : Heap, K.In base → base.Ns mainGlobals mg → Bm mg base → FnOk P w K mg base CX k fa fd ps sp) (hbind : ∀ (s : Shared) (us : List Value), us.length = ps.length → BindsTo s fd ⟨us, []⟩ (ps.zip us)) (hlen : ds.length = ps.length)
    (hsp : ∀ (H : Hp) (xs : List V), OnlyT (tabs.map (·.2)) H → DwAll K H xs ds → sp xs H (fun v H' => Dw K H' v d0) fun _ _ _ => False)
    (hCX : ∀ H e s', CX [] H s1 (fun _ _ _ => False) e s' → False) :
    codeAny (model P w) callerA (.call (.ref fa) ⟨vals, []⟩) (fun r s' => ∃ u as, r = .ok (.ret u) ∧ ReadsW R cl s'.heap u d0 as ∧ OldK s1.heap s'.heap ∧ s'.os = s1.os ∧ AllBare s'.gens) s1 := by
  obtain ⟨A, ho, ar⟩ := area_all ds vals hwl hpl hwt
  have tabAt : ∀ {b : Addr}, b ∈ tabs.map (·.2) → s1.heap.get? b = some (PySem.W.tabObj #[]) := fun {b} hb => by
    obtain ⟨t, ht, rfl⟩ := List.mem_map.mp hb
    exact (hT t ht).2
  have aT : ∀ {b : Addr} {u : HO}, argH K s1.heap A b = some u → b ∉ tabs.map (·.2) := fun {b u} q hb => by
    have e := tabAt hb
    obtain ⟨_, vs, _, _, ⟨e2, _⟩ | ⟨e2, _⟩⟩ := argH_is ar q
    · rw [e2] at e; cases e
    · rw [e2] at e; cases e
  let H : Hp := fun b => if b ∈ tabs.map (·.2) then some (.tbl #[]) else argH K s1.heap A b
  have Ht : ∀ {b : Addr}, b ∈ tabs.map (·.2) → H b = some (.tbl #[]) := fun {b} hb => if_pos hb
  have Ha : ∀ {b : Addr}, b ∉ tabs.map (·.2) → H b = argH K s1.heap A b := fun {b} hb => if_neg hb
  have sm : Same (argH K s1.heap A) H := fun b o e => by rw [Ha (aT e)]; exact e
  have hO1 : OnlyF (argH K s1.heap A) := argH_only ar
  have hO : OnlyT (tabs.map (·.2)) H := ⟨fun b hb => by rw [Ha hb]; exact hO1 b, fun b hb => Ht hb⟩
  have hok1 : HOk P w (argH K s1.heap A) s1.heap := argH_ok ar
  have hok : HOk P w H s1.heap := fun b u e => by
    by_cases hb : b ∈ tabs.map (·.2)
    · rw [Ht hb] at e
      cases e
      exact tabAt hb
    · rw [Ha hb] at e
      exact (hok1 b u e).stay (fun _ _ _ q => q) (fun c r => sm _ _ r) fun c xs r => sm _ _ r
  have hS := dws_mono sm (dw_all KX ar ds vals hwl hpl ho)
  have hV := vals_toV ho
  have noA : ∀ {b : Addr} {o : Obj}, s1.heap.get? b = some o → (∀ vs : Array Value, ∀ n, o.data ≠ .seq vs n) → (∀ vs : Array Value, o.data ≠ .fields vs) → H b = none := fun {b o} e d1 d2 => by
    have hb : b ∉ tabs.map (·.2) := fun hb => by
      rw [tabAt hb] at e
      cases e
      exact d2 _ rfl
    rw [Ha hb]
    cases q : argH K s1.heap A b with
    | none => rfl
    | some u =>
      obtain ⟨_, vs, _, _, ⟨e2, _⟩ | ⟨e2, _⟩⟩ := argH_is ar q
      · rw [e2] at e
        cases e
        exact absurd rfl (d1 _ _)
      · rw [e2] at e
        cases e
        exact absurd rfl (d1 _ _)
  have nsK : ∀ {b : Addr} {m : Str → Option Value}, s1.heap.Ns b m → (hidT s1.heap H).Ns b m := fun {b m} ⟨o, es, ep, e, d, r⟩ => ⟨o, es, ep, hidT_get e (noA e (fun vs n z => by rw [d] at z; cases z) (fun vs z => by rw [d] at z; cases z)), d, r⟩
  have nK : ∀ b o, K.lookup b = some o → H b = none := fun b o e => by
    have hb : b ∉ tabs.map (·.2) := fun hb => by
      obtain ⟨t, ht, rfl⟩ := List.mem_map.mp hb
      rw [hTK t ht] at e
      cases e
    rw [Ha hb]
    cases q : argH K s1.heap A b with
    | none => rfl
    | some u =>
      rw [(argH_is ar q).1] at e
      cases e
  have hKb : K.In (hidT s1.heap H) := fun b o e => hidT_get (KX b o e) (nK b o e)
  have hM : Mod K mg (hidT s1.heap H) := ⟨hKb, nsK hns, ⟨mb, nsK hb, hbb⟩, let ⟨mc, h1, h2⟩ := hlim; ⟨mc, nsK h1, h2⟩⟩
  have hBb : Bm mg (hidT s1.heap H) := by
    obtain ⟨bm, o, b1, b2, b3, b4, b5, b6, b7⟩ := hBm
    exact ⟨bm, o, b1, b2, b3, hidT_get b4 (noA b4 (fun vs n z => by rw [b7] at z; cases z) (fun vs z => by rw [b7] at z; cases z)), b5, b6, b7⟩
  have e0 : Env0 P w K mg (hidT s1.heap H) callerA [] s1 H := ⟨rfl, hM, fun b o e => of_hidT e, Nat.le_of_eq (hidT_size _ _), trivial, fun b hb => absurd (show b ∈ ([] : List Addr) from hb) (by simp), hok, .of_eq hg⟩
  have hl : vals.length = ps.length := by rw [wellAll_len hwl]; exact hlen
  refine codeAny_mono ((F _ hKb (nsK hns) hBb).run callerA [] s1 H ⟨vals, []⟩ vals (vals.map toV) _ _ hr e0 (hbind s1 vals hl) hV (hsp H _ hO hS)) fun r s' x => ?_
  cases r with
  | error e => exact (hCX H e s' x).elim
  | ok fl =>
    cases fl with
    | next => exact False.elim x
    | brk => exact False.elim x
    | cont => exact False.elim x
    | ret u =>
      obtain ⟨v, H', os, bare, un, hok', r', q⟩ := x
      have kept : ∀ b o, b ∉ tabs.map (·.2) → s1.heap.get? b = some o → s'.heap.get? b = some o := fun b o hb e => by
        rcases hO.1 b hb with z | ⟨ob, u3, z⟩
        · exact un.keep b o e z (by intro z; exact absurd (show b ∈ ([] : List Addr) from z) (by simp)) (by simp)
        · have z2 := un.frzs b ob _ z
          obtain ⟨e1, _⟩ := hok b _ z
          obtain ⟨e2, _⟩ := hok' b _ z2
          rw [e] at e1
          cases e1
          exact e2
      have KX' : K.In s'.heap := fun b o e => kept b o (fun hb => by
        obtain ⟨t, ht, rfl⟩ := List.mem_map.mp hb
        rw [hTK t ht] at e
        cases e) (KX b o e)
      obtain ⟨as, hrd⟩ := Dw.reads (R := R) (cl := cl) hok' KX' d0 v u q r'
      refine ⟨u, as, rfl, hrd, ⟨fun b o e => ?_, fun b o e => ?_⟩, os, bare⟩
      · by_cases hb : b ∈ tabs.map (·.2)
        · have e1 := tabAt hb
          rw [e] at e1
          cases e1
          obtain ⟨more, z⟩ := un.tbls b _ (Ht hb)
          have z2 : s'.heap.get? b = some { cls := .none, data := .fields (#[] ++ more) } := hok' b _ z
          obtain ⟨t, ht, e3⟩ := List.mem_map.mp hb
          subst e3
          exact .inr (.inl ⟨((hT t ht).1.tab (hT t ht).2).isCodeTable, rfl, #[], more, rfl, z2⟩)
        · exact .inl (kept b o hb e)
      · by_cases hb : b ∈ tabs.map (·.2)
        · obtain ⟨more, z⟩ := un.tbls b _ (Ht hb)
          exact ⟨_, hok' b _ z⟩
        · exact ⟨o, kept b o hb e⟩
theorem walk_specT {r : OpenSpec} {k : Nat} {q : Program} {loose : List Str} {XP : (Str → Option Value) → Heap → Prop} {YP : World → Heap → Prop} {d : DefRec} {K : Params → PySem.W.Frag} {CX : CXT} {ps : List Str} {tabs : List (Addr × Addr)} {sp : PySem.W.Frag → Sp}
    (hwell : r.wellSaid = true) (hdf : d.params.defaults = []) (hlen : r.args.length = ps.length) (hr : Room k callerA)
    (hY : ∀ (w : World) (h : Heap), YP w h → (K w.params).In h)
    (hT : ∀ (w : World) (mean : ExcName → Option Value) (lo : List Str) (mg mb : Str → Option Value) (h : Heap), YP w h → Top q lo mean mg mb h → ∀ t ∈ tabs, (PySem.W.CodeHd h t.1 t.2 ∧ h.get? t.2 = some (PySem.W.tabObj #[])) ∧ (K w.params).lookup t.2 = none)
    (F : ∀ (w : World) (mg : Str → Option Value) (fa : Addr) (h : Heap), YP w h → (K w.params).In h → h.Ns mainGlobals mg → mg d.name = some (.ref fa) →
      ∃ fd : FuncData, (∀ (s : Shared) (us : List Value), us.length = ps.length → BindsTo s fd ⟨us, []⟩ (ps.zip us)) ∧
        ∀ base : Heap, (K w.params).In base → base.Ns mainGlobals mg → Bm mg base → FnOk r.prog w (K w.params) mg base CX k fa fd ps (sp (K w.params)))
    (hsp : ∀ (K : PySem.W.Frag) (H : Hp) (xs : List V) (a : Codec.denoteAll r.args), OnlyT (tabs.map (·.2)) H → Codec.withinAll r.args a = true → Codec.app r.args r.asked a = true → DwAll K H xs (Codec.encAll r.args a) →
      sp K xs H (fun v H' => Dw K H' v (r.ret.enc (Codec.app r.args r.f a))) fun _ _ _ => False)
    (hCX : ∀ (H : Hp) (s : Shared) (e : Value) (s' : Shared), CX [] H s (fun _ _ _ => False) e s' → False) :
    PySem.W.WalkOS q loose XP YP r d [] (fun f vs => PySem.call f vs) := by
  intro w s_0 s1 mg mb G Y fa o pm cd doc dV kV ho hd hcd hD hmg hg args vals as hpre hlay hrd hwl hlo
  obtain ⟨a, e1, e2⟩ := PySem.W.os_pre_some hpre
  obtain ⟨e3, hwi⟩ := Codec.encAll_of_decAll r.args args a e1
  subst e3
  have KX := hY w _ Y
  obtain ⟨fd, hb, hF⟩ := F w mg fa _ Y KX G.T.g hmg
  have hBm : Bm mg s1.heap := by
    obtain ⟨bm, ob, b1, b2, b3, b4, b5, b6⟩ := G.T.bmain
    refine ⟨bm, ob, b1, b2, fun z => ?_, b3, b4, b5, b6⟩
    obtain ⟨o', es, ep, e, hd', _⟩ := G.T.g
    rw [z, e] at b3
    cases b3
    rw [hd'] at b6
    cases b6
  have hT' := hT w _ _ _ _ _ Y G.T
  refine PySem.W.enter_call (codeAny_mono (spec_callT (R := []) (cl := classAt s_0.heap) (d0 := r.ret.enc (Codec.app r.args r.f a)) (tabs := tabs) KX G.T.g G.T.b G.T.builtins G.T.nolimit hg hBm (fun t ht => (hT' t ht).1) (fun t ht => (hT' t ht).2) hwl (pl_encAll _ _) (layable_weight hlay) hr hF hb (by rw [encAll_len]; exact hlen)
    (fun H xs hO hS => hsp _ H xs a hO hwi e2 hS) fun H e s' => hCX H s1 e s') fun r' s' hq => ?_)
  obtain ⟨u, as', rfl, h1, h2, h3, h4⟩ := hq
  exact ⟨.inl ⟨u, _, as', rfl, fun _ => rfl, h1, (OpenSpec.post_iff hwell hwi _ _).mpr rfl, fun z => Bool.noConfusion (show false = true from z)⟩, h2, h3, h4⟩
end L2
set_option Elab.async false
set_option linter.all false
set_option maxRecDepth 100000
set_option maxHeartbeats 2000000
namespace Ow
open PySem PySem.Spec PyProof.Rows L2
local macro_rules | `(tactic| walk_at "rd") => `(tactic| simp only [tSeq, tIfS, tTest, tB, tOp, tUn, tVar, tC, tRet, tRetN, tDrop, tAsg, gName, gSub, tNext, tAnd, tOr, tNot, tAndV, tOrV, tNotV, tIf, tChain, tChain3, rI, rI0, rEq, rNe, scal, tCons, tNil, tLst, tTup, tCall, tMeth_eq, tFld_eq, tMake, tCB, tBM, TruV, tIsN, tNotN,
  L2.start, List.map_cons, List.map_nil, List.cons_append, List.nil_append, List.append_nil, List.length_cons, List.length_nil, List.replicate, List.getElem?_cons_zero, List.getElem?_cons_succ, List.set_cons_zero, List.set_cons_succ, Option.some.injEq, exists_and_left, exists_eq_left', exists_eq_left, V.int.injEq, V.bl.injEq, V.ref.injEq, V.str.injEq,
  true_and, and_true, exists_const, cxOf_K, nox_K, if_true, if_false, reduceIte, decide_eq_true_eq, Bool.not_eq_true, decide_eq_false_iff_not, List.cons.injEq, Nat.reduceAdd, Nat.reduceSub])
def rf (nums : Addr) (place : Int) : List (Str × V) := [("numbers", .ref nums), ("place", .int place)]
theorem rf_numbers {n : Addr} {p : Int} : (rf n p).lookup ("numbers" : Str) = some (.ref n) := lk_hit rfl
theorem rf_place {n : Addr} {p : Int} : (rf n p).lookup ("place" : Str) = some (.int p) := (lk_miss (by decide +kernel)).trans (lk_hit rfl)
theorem rf_no {n : Addr} {p : Int} {m : Str} (h : m ≠ "numbers") (h' : m ≠ "place") : (rf n p).lookup m = none := (lk_miss h).trans ((lk_miss h').trans rfl)
theorem rf_put {n : Addr} {p q : Int} : putF "place" (.int q) (rf n p) = rf n q := (putF_miss (by decide +kernel)).trans (by rw [putF_hit rfl]; rfl)
structure TxR (K : PySem.W.Frag) (mg : Str → Option Value) (CR : Addr) : Prop where
  cR : Cls K CR
  nn : NoAttr K CR "numbers"
  np : NoAttr K CR "place"
  mR : mg "Reader" = some (.ref CR)
  len : mg "len" = none
def SqF (K : PySem.W.Frag) (H : Hp) (a : Addr) (xs : List V) : Prop := (∃ o, H a = some (.frz o (.lst xs))) ∨ ∀ H' : Hp, SqL K H' a xs
theorem SqF.sq {K : PySem.W.Frag} {H : Hp} {a : Addr} {xs : List V} (h : SqF K H a xs) : SqL K H a xs := by
  rcases h with ⟨o, h⟩ | h
  · exact .inl (.inr ⟨o, h⟩)
  · exact h H
theorem SqF.keep {K : PySem.W.Frag} {H H' : Hp} {a : Addr} {xs : List V} (h : SqF K H a xs) (k : ∀ b o u, H b = some (.frz o u) → H' b = some (.frz o u)) : SqF K H' a xs := by
  rcases h with ⟨o, h⟩ | h
  · exact .inl ⟨o, k _ _ _ h⟩
  · exact .inr h
theorem SqF.of_sq {K : PySem.W.Frag} {H : Hp} {a : Addr} {xs : List V} (h : SqL K H a xs) (n : ∀ ys, H a ≠ some (.lst ys)) : SqF K H a xs := by
  rcases h with (h | ⟨o, h⟩) | h
  · exact absurd h (n _)
  · exact .inl ⟨o, h⟩
  · exact .inr fun H' => .inr h
structure ReadAt (K : PySem.W.Frag) (CR : Addr) (H : Hp) (r nums : Addr) (ns : List Int) (place : Nat) : Prop where
  obj : ∃ d, H r = some (.ins CR d (rf nums (place : Int)))
  list : SqF K H nums (ns.map V.int)
section
variable {P : Program} {w : World} {K : PySem.W.Frag} {mg : Str → Option Value} {base : Heap} {CR : Addr}
abbrev sReadInit : Stmt := inClass (top 52) 0
abbrev sAtEnd : Stmt := inClass (top 52) 1
abbrev sReadNum : Stmt := inClass (top 52) 2
def spReadInit (CR : Addr) : Sp := fun vs H Q _ => ∃ (p dx n : Addr), vs = [.ref p, .ref n] ∧ H p = some (.ins CR dx []) ∧ Q .non (upd H p (.ins CR dx (rf n 0)))
theorem scReadInit : FnScope ["self", "numbers"] ["self", "numbers"] (defScope sReadInit) := ⟨rfl, rfl, rfl, by decide +kernel, rfl, by decide +kernel, by decide +kernel⟩
theorem ok_read_init {f : Addr} {fd : FuncData} (F : Fun K "__init__" "Reader.__init__" sReadInit f fd) (T : TxR K mg CR) : FnOk P w K mg base CX0 1 f fd ["self", "numbers"] (spReadInit CR) := by
  refine F.ok scReadInit (fun vs H Q E h => ?_) (fun cdv A outer s H vs Q E hr h => ?_)
  · obtain ⟨p, dx, n, rfl, _⟩ := h
    rfl
  · obtain ⟨p, dx, n, rfl, hp, q⟩ := h
    refine ⟨_, pss_cons (ps_fld (pv 0) (pv 1) rfl) (pss_one (ps_fld (pv 0) pe_int rfl)), ?_⟩
    refine ⟨_, rfl, _, rfl, p, CR, dx, _, rfl, hp, T.cR, T.nn, (by show 0 < 1000; decide), _, rfl, p, CR, dx, _, rfl, upd_same, T.cR, T.np, (by show 1 < 1000; decide), ?_⟩
    rw [upd_upd]
    exact q
def spAtEnd (K : PySem.W.Frag) (CR : Addr) : Sp := fun vs H Q _ => ∃ (r nums : Addr) (ns : List Int) (place : Nat), vs = [.ref r] ∧ ReadAt K CR H r nums ns place ∧ Q (.bl (decide (ns.length ≤ place))) H
theorem scAtEnd : FnScope ["self"] ["self"] (defScope sAtEnd) := ⟨rfl, rfl, rfl, by decide +kernel, rfl, by decide +kernel, by decide +kernel⟩
theorem ok_at_end {f : Addr} {fd : FuncData} (F : Mf K CR "at_end" "Reader.at_end" sAtEnd ["self"] f fd) (T : TxR K mg CR) : FnOk P w K mg base CX0 1 f fd ["self"] (spAtEnd K CR) := by
  refine F.F.ok scAtEnd (fun vs H Q E h => ?_) (fun cdv A outer s H vs Q E hr h => ?_)
  · obtain ⟨r, nums, ns, place, rfl, _⟩ := h
    rfl
  · obtain ⟨r, nums, ns, place, rfl, B, q⟩ := h
    obtain ⟨d, ho⟩ := B.obj
    refine ⟨_, pss_one (ps_ret (pe_cmpR op_ge (pe_fld (pv 0) rfl) (pe_callB call_len_seq (by rfl) T.len PySem.boot_len (pa_cons (pe_fld (pv 0) rfl) pa_nil)) (nomark _))), ?_⟩
    refine ⟨_, rfl, r, CR, d, _, _, rfl, ho, T.cR, T.np, rf_place, _, rfl, r, CR, d, _, _, rfl, ho, T.cR, T.nn, rf_numbers, nums, _, rfl, .inl B.list.sq, _, _, rfl, rfl, ?_⟩
    rw [List.length_map]
    have e : decide (((ns.length : Nat) : Int) ≤ (place : Int)) = decide (ns.length ≤ place) := by
      by_cases h : ns.length ≤ place
      · rw [decide_eq_true h, decide_eq_true (by omega)]
      · rw [decide_eq_false h, decide_eq_false (by omega)]
    dsimp only
    rw [e]
    exact q
def spReadNum (K : PySem.W.Frag) (CR : Addr) : Sp := fun vs H Q _ => ∃ (r nums : Addr) (ns : List Int) (place : Nat) (z : Int), vs = [.ref r] ∧ ReadAt K CR H r nums ns place ∧ ns[place]? = some z ∧
  ∀ H' : Hp, ReadAt K CR H' r nums ns (place + 1) → (∀ b o, b ≠ r → H b = some o → H' b = some o) → Q (.int z) H'
theorem scReadNum : FnScope ["self", "number"] ["self"] (defScope sReadNum) := ⟨rfl, rfl, rfl, by decide +kernel, rfl, by decide +kernel, by decide +kernel⟩
theorem ok_read_num {f : Addr} {fd : FuncData} (F : Mf K CR "read_number" "Reader.read_number" sReadNum ["self"] f fd) (T : TxR K mg CR) : FnOk P w K mg base CX0 1 f fd ["self"] (spReadNum K CR) := by
  refine F.F.ok scReadNum (fun vs H Q E h => ?_) (fun cdv A outer s H vs Q E hr h => ?_)
  · obtain ⟨r, nums, ns, place, z, rfl, _⟩ := h
    rfl
  · obtain ⟨r, nums, ns, place, z, rfl, B, hz, q⟩ := h
    obtain ⟨d, ho⟩ := B.obj
    refine ⟨_, pss_cons (ps_set (i := 1) scReadNum.nd rfl (Or.inl rfl) (pe_ix ix_list (pe_fld (pv 0) rfl) (pe_fld (pv 0) rfl) (fun _ _ => rfl)))
      (pss_cons (ps_fld (pv 0) (pe_op op_add (pe_fld (pv 0) rfl) pe_int) rfl) (pss_one (ps_ret (pv 1)))), ?_⟩
    refine ⟨_, rfl, r, CR, d, _, _, rfl, ho, T.cR, T.nn, rf_numbers, _, rfl, r, CR, d, _, _, rfl, ho, T.cR, T.np, rf_place, nums, _, _, _, rfl, rfl, B.list.sq, atI_nat (v := .int z) (by rw [List.getElem?_map, hz]; rfl),
      _, rfl, r, CR, d, _, _, rfl, ho, T.cR, T.np, rf_place, _, _, rfl, rfl, _, rfl, r, CR, d, _, rfl, ho, T.cR, T.np, (by show 2 < 1000; decide), _, rfl, ?_⟩
    refine q _ ⟨⟨d, ?_⟩, B.list.keep fun b o u e => by rw [upd_ne (ne_of e ho (fun z => nomatch z))]; exact e⟩ fun b o hb e => by rw [upd_ne hb]; exact e
    rw [upd_same, rf_put]
    have : ((place + 1 : Nat) : Int) = (place : Int) + 1 := by omega
    rw [this]
end
end Ow
set_option Elab.async false
set_option linter.all false
set_option maxRecDepth 100000
set_option maxHeartbeats 2000000
namespace Ow
open PySem PySem.Spec PyProof.Rows L2
local macro_rules | `(tactic| walk_at "rd") => `(tactic| simp only [tSeq, tIfS, tTest, tB, tOp, tUn, tVar, tC, tRet, tRetN, tDrop, tAsg, gName, gSub, tNext, tAnd, tOr, tNot, tAndV, tOrV, tNotV, tIf, tChain, tChain3, rI, rI0, rEq, rNe, scal, tCons, tNil, tLst, tTup, tCall, tMeth_eq, tFld_eq, tMake, tCB, tBM, TruV, tIsN, tNotN,
  L2.start, List.map_cons, List.map_nil, List.cons_append, List.nil_append, List.append_nil, List.length_cons, List.length_nil, List.replicate, List.getElem?_cons_zero, List.getElem?_cons_succ, List.set_cons_zero, List.set_cons_succ, Option.some.injEq, exists_and_left, exists_eq_left', exists_eq_left, V.int.injEq, V.bl.injEq, V.ref.injEq, V.str.injEq,
  true_and, and_true, exists_const, cxOf_K, nox_K, if_true, if_false, reduceIte, decide_eq_true_eq, Bool.not_eq_true, decide_eq_false_iff_not, List.cons.injEq, Nat.reduceAdd, Nat.reduceSub])
def Tb (o : HO) : Prop := (∃ ps, o = .tbl ps) ∨ ∃ φ, o = .ext φ
theorem tab_keepB {H H' : Hp} {P : Addr} {pos : Pos} {q : Str} (t : TabOk H P pos q) (k : ∀ b o, Tb o → H b = some o → H' b = some o) : TabOk H' P pos q := by
  rcases t with t | ⟨c, t, t2⟩
  · exact .inl (k _ _ (.inl ⟨_, rfl⟩) t)
  · exact .inr ⟨c, k _ _ (.inl ⟨_, rfl⟩) t, k _ _ (.inr ⟨_, rfl⟩) t2⟩
theorem Tabs.keepB {H H' : Hp} {P1 P2 : Addr} (t : Tabs H P1 P2) (k : ∀ b o, Tb o → H b = some o → H' b = some o) : Tabs H' P1 P2 := ⟨t.ne, tab_keepB t.may k, tab_keepB t.good k⟩
def But (r : Addr) (H H' : Hp) : Prop := ∀ b o, b ≠ r → H b = some o → H' b = some o
theorem But.tb {r : Addr} {H H' : Hp} (k : But r H H') {o : HO} (hr : H r = some o) (ho : ¬ Tb o) : ∀ b u, Tb u → H b = some u → H' b = some u := fun b u hu e => k b u (fun z => by rw [z, hr] at e; cases e; exact ho hu) e
theorem ins_tb {C d : Addr} {fs : List (Str × V)} : ¬ Tb (.ins C d fs) := fun h => by
  rcases h with ⟨_, h⟩ | ⟨_, h⟩ <;> cases h
theorem lst_tb {xs : List V} : ¬ Tb (.lst xs) := fun h => by
  rcases h with ⟨_, h⟩ | ⟨_, h⟩ <;> cases h
theorem rf_gf {n l m : Addr} {p : Int} : rf n p ≠ gf l m := fun h => by
  have := (List.cons.inj h).1
  exact absurd (Prod.mk.inj this).1 (by decide +kernel)
theorem rf_nf {n : Addr} {p k a b : Int} : rf n p ≠ nf k a b := fun h => by
  have := (List.cons.inj h).1
  exact absurd (Prod.mk.inj this).1 (by decide +kernel)
theorem GramAt.butR {CN CG CR : Addr} {H H' : Hp} {g ln lr r d n : Addr} {p : Int} {G : Rd02.Gram} {as : List Addr} (A : GramAt CN CG H g ln lr G as) (hr : H r = some (.ins CR d (rf n p))) (k : But r H H') : GramAt CN CG H' g ln lr G as := by
  refine ⟨A.ok, ?_, k _ _ (ne_of A.nodes hr (fun z => nomatch z)) A.nodes, k _ _ (ne_of A.rules hr (fun z => nomatch z)) A.rules, A.len, fun i a x h1 h2 => ?_⟩
  · obtain ⟨dg, e⟩ := A.obj
    exact ⟨dg, k _ _ (ne_of e hr (fun z => by injection z with _ _ z; exact rf_gf z.symm)) e⟩
  · obtain ⟨d', k', p', q', e, rr⟩ := A.node i a x h1 h2
    exact ⟨d', k', p', q', k _ _ (ne_of e hr (fun z => by injection z with _ _ z; exact rf_nf z.symm)) e, rr⟩
theorem But.frz {r : Addr} {H H' : Hp} (k : But r H H') {o : HO} (hr : H r = some o) (ho : ∀ ob u, o ≠ .frz ob u) : ∀ b ob u, H b = some (.frz ob u) → H' b = some (.frz ob u) := fun b ob u e => k b _ (fun z => by rw [z, hr] at e; exact ho ob u (Option.some.inj e)) e
structure DeskAt (K : PySem.W.Frag) (CN CG CR P1 P2 : Addr) (H : Hp) (g ln lr r nums : Addr) (s : Rd02.Abs) (as : List Addr) (ns : List Int) (place : Nat) : Prop where
  gram : GramAt CN CG H g ln lr s.g as
  nl : ln ≠ lr
  tabs : Tabs H P1 P2
  read : ReadAt K CR H r nums ns place
def KeepD (ln lr r P1 P2 : Addr) (H H' : Hp) : Prop := ∀ b o, b ≠ ln → b ≠ lr → b ≠ r → b ≠ P1 → b ≠ P2 → H b = some o → H' b = some o
theorem KeepD.trans {ln lr r P1 P2 : Addr} {H H1 H2 : Hp} (a : KeepD ln lr r P1 P2 H H1) (b : KeepD ln lr r P1 P2 H1 H2) : KeepD ln lr r P1 P2 H H2 := fun c o n1 n2 n3 n4 n5 e => b c o n1 n2 n3 n4 n5 (a c o n1 n2 n3 n4 n5 e)
theorem DeskAt.reads {K : PySem.W.Frag} {CN CG CR P1 P2 : Addr} {H H' : Hp} {g ln lr r nums : Addr} {s : Rd02.Abs} {as : List Addr} {ns : List Int} {place place' : Nat} (D : DeskAt K CN CG CR P1 P2 H g ln lr r nums s as ns place) (R : ReadAt K CR H' r nums ns place') (k : But r H H') :
    DeskAt K CN CG CR P1 P2 H' g ln lr r nums s as ns place' := by
  obtain ⟨d, hr⟩ := D.read.obj
  exact ⟨D.gram.butR hr k, D.nl, D.tabs.keepB (k.tb hr ins_tb), R⟩
theorem But.keepD {ln lr r P1 P2 : Addr} {H H' : Hp} (k : But r H H') : KeepD ln lr r P1 P2 H H' := fun b o _ _ n _ _ e => k b o n e
theorem get_drop {ns l rest : List Int} {p i : Nat} {z : Int} (h : ns.drop p = l ++ rest) (hi : l[i]? = some z) : ns[p + i]? = some z := by
  have e : (ns.drop p)[i]? = some z := by
    rw [h, List.getElem?_append_left (List.getElem?_eq_some_iff.mp hi).1]
    exact hi
  rw [List.getElem?_drop] at e
  exact e
section
variable {P : Program} {w : World} {K : PySem.W.Frag} {mg : Str → Option Value} {base : Heap} {CN CG CR P1 P2 : Addr}
def spAns (K : PySem.W.Frag) (CN CG CR P1 P2 : Addr) (n : Nat) (ok : Cl → Prop) : Sp := fun vs H Q _ => ∃ (g ln lr r nums : Addr) (s : Rd02.Abs) (as : List Addr) (ns : List Int) (place : Nat) (d : Cl) (rest : List Int), vs = [.ref g, .ref r] ∧ DeskAt K CN CG CR P1 P2 H g ln lr r nums s as ns (place + n) ∧
  ns.drop place = d.flat ++ rest ∧ d.ok ∧ ok d ∧ ∀ (H' : Hp) (p : Addr) (as' : List Addr), DeskAt K CN CG CR P1 P2 H' g ln lr r nums (d.next s) as' ns (place + d.flat.length) → KeepD ln lr r P1 P2 H H' → H p = none → p ≠ ln → p ≠ lr → H' p = some (.lst ((d.ans s).map V.int)) → Q (.ref p) H'
end
end Ow
set_option Elab.async false
set_option linter.all false
set_option maxRecDepth 100000
set_option maxHeartbeats 2000000
namespace Ow
open PySem PySem.Spec PyProof.Rows L2
local macro_rules | `(tactic| walk_at "rd") => `(tactic| simp only [tSeq, tIfS, tTest, tB, tOp, tUn, tVar, tC, tRet, tRetN, tDrop, tAsg, gName, gSub, tNext, tAnd, tOr, tNot, tAndV, tOrV, tNotV, tIf, tChain, tChain3, rI, rI0, rEq, rNe, scal, tCons, tNil, tLst, tTup, tCall, tMeth_eq, tFld_eq, tMake, tCB, tBM, TruV, tIsN, tNotN,
  L2.start, List.map_cons, List.map_nil, List.cons_append, List.nil_append, List.append_nil, List.length_cons, List.length_nil, List.replicate, List.getElem?_cons_zero, List.getElem?_cons_succ, List.set_cons_zero, List.set_cons_succ, Option.some.injEq, exists_and_left, exists_eq_left', exists_eq_left, V.int.injEq, V.bl.injEq, V.ref.injEq, V.str.injEq,
  true_and, and_true, exists_const, cxOf_K, nox_K, if_true, if_false, reduceIte, decide_eq_true_eq, Bool.not_eq_true, decide_eq_false_iff_not, List.cons.injEq, Nat.reduceAdd, Nat.reduceSub])
theorem node_no {S : Rd02.Abs} {k a b : Int} (h : Rd02.nodeOf S.g k a b = none) : (Cl.node k a b).ans S = [-1] ∧ (Cl.node k a b).next S = S := by
  unfold Cl.ans Cl.next Cl.spec Rd02.does
  simp only [h]
  exact ⟨rfl, trivial⟩
theorem node_full {S : Rd02.Abs} {k a b : Int} {x : Rd02.Node} (h : Rd02.nodeOf S.g k a b = some x) (hl : 64 ≤ S.g.nodes.length) : (Cl.node k a b).ans S = [-2] ∧ (Cl.node k a b).next S = S := by
  have hl : Rd02.NODES ≤ S.g.nodes.length := hl
  unfold Cl.ans Cl.next Cl.spec Rd02.does
  simp only [h, if_pos hl]
  exact ⟨rfl, trivial⟩
theorem node_add {S : Rd02.Abs} {k a b : Int} {x : Rd02.Node} (h : Rd02.nodeOf S.g k a b = some x) (hl : S.g.nodes.length < 64) : (Cl.node k a b).ans S = [(S.g.nodes.length : Int)] ∧ ((Cl.node k a b).next S).g = addN S.g x := by
  have hl : ¬ Rd02.NODES ≤ S.g.nodes.length := by show ¬ 64 ≤ _; omega
  unfold Cl.ans Cl.next Cl.spec Rd02.does
  simp only [h, if_neg hl]
  exact ⟨rfl, rfl⟩
theorem rule_no {S : Rd02.Abs} {r e : Int} (h : (isRuleI r && hasI S.g.nodes.length e) = false) : (Cl.rule r e).ans S = [-1] ∧ (Cl.rule r e).next S = S := by
  have h : (Rd02.below r Rd02.RULES && Rd02.below e S.g.nodes.length) = false := h
  unfold Cl.ans Cl.next Cl.spec Rd02.does
  simp only [h, Bool.false_eq_true, if_false]
  exact ⟨rfl, trivial⟩
theorem rule_set {S : Rd02.Abs} {r e : Int} (h : (isRuleI r && hasI S.g.nodes.length e) = true) : (Cl.rule r e).ans S = [0] ∧ ((Cl.rule r e).next S).g = setR S.g r.toNat e.toNat := by
  have h : (Rd02.below r Rd02.RULES && Rd02.below e S.g.nodes.length) = true := h
  unfold Cl.ans Cl.next Cl.spec Rd02.does
  simp only [h, if_true]
  exact ⟨rfl, rfl⟩
section
variable {K : PySem.W.Frag} {CN CG CR P1 P2 : Addr} {H H' : Hp} {g ln lr r nums : Addr} {s : Rd02.Abs} {as : List Addr} {ns : List Int} {place : Nat}
theorem DeskAt.same (D : DeskAt K CN CG CR P1 P2 H g ln lr r nums s as ns place) (k : Same H H') : DeskAt K CN CG CR P1 P2 H' g ln lr r nums s as ns place :=
  ⟨D.gram.same k, D.nl, D.tabs.keepB (fun b o _ e => k b o e), ⟨let ⟨d, e⟩ := D.read.obj; ⟨d, k _ _ e⟩, D.read.list.keep fun b o u e => k b _ e⟩⟩
theorem Same.keepD (k : Same H H') : KeepD ln lr r P1 P2 H H' := fun b o _ _ _ _ _ e => k b o e
theorem DeskAt.ne_of_free (D : DeskAt K CN CG CR P1 P2 H g ln lr r nums s as ns place) {p : Addr} (np : H p = none) : p ≠ ln ∧ p ≠ lr ∧ p ≠ r ∧ p ≠ P1 ∧ p ≠ P2 := by
  obtain ⟨d, hr⟩ := D.read.obj
  obtain ⟨p1, h1⟩ := tab_tbl D.tabs.may
  obtain ⟨p2, h2⟩ := tab_tbl D.tabs.good
  exact ⟨(ne_of_none D.gram.nodes np).symm, (ne_of_none D.gram.rules np).symm, (ne_of_none hr np).symm, (ne_of_none h1 np).symm, (ne_of_none h2 np).symm⟩
theorem DeskAt.free_back (D : DeskAt K CN CG CR P1 P2 H' g ln lr r nums s as ns place) (k : KeepD ln lr r P1 P2 H H') {p : Addr} (np : H' p = none) : H p = none := by
  obtain ⟨n1, n2, n3, n4, n5⟩ := D.ne_of_free np
  cases e : H p with
  | none => rfl
  | some o =>
    rw [k p o n1 n2 n3 n4 n5 e] at np
    cases np
end
section
variable {P : Program} {w : World} {K : PySem.W.Frag} {mg : Str → Option Value} {base : Heap} {CN CG CR P1 P2 : Addr}
theorem read_one {H : Hp} {g ln lr r nums : Addr} {s : Rd02.Abs} {as : List Addr} {ns : List Int} {place i : Nat} {d : Cl} {rest : List Int} {z : Int} {Q : VK} {E : XK} (D : DeskAt K CN CG CR P1 P2 H g ln lr r nums s as ns (place + i)) (h : ns.drop place = d.flat ++ rest) (hz : d.flat[i]? = some z)
    (k : ∀ H' : Hp, DeskAt K CN CG CR P1 P2 H' g ln lr r nums s as ns (place + (i + 1)) → KeepD ln lr r P1 P2 H H' → Q (.int z) H') : hasM CR "read_number" (.ref r) H (spReadNum K CR [.ref r] H Q E) := by
  obtain ⟨dr, hr⟩ := D.read.obj
  rw [hasM_of hr (rf_no (by decide +kernel) (by decide +kernel))]
  exact ⟨r, nums, ns, place + i, z, rfl, D.read, get_drop h hz, fun H' R kp => k H' (D.reads R kp) (But.keepD kp)⟩
theorem scNodeA : FnScope ["grammar", "reader", "kind", "a", "b"] ["grammar", "reader"] (defScope (top 55)) := ⟨rfl, rfl, rfl, by decide +kernel, rfl, by decide +kernel, by decide +kernel⟩
theorem ok_answer_node {f fN fA : Addr} {fd fdN fdA : FuncData} (F : Gf K mg "answer_node" (top 55) ["grammar", "reader"] f fd) (T : Tx K mg CN CG) (TR : TxR K mg CR) (FN : Mf K CR "read_number" "Reader.read_number" sReadNum ["self"] fN fdN)
    (FA : Mf K CG "add_node" "Grammar.add_node" sAdd ["self", "kind", "a", "b"] fA fdA) (GA : FnOk P w K mg base CX0 3 fA fdA ["self", "kind", "a", "b"] (spAdd CN CG)) :
    FnOk P w K mg base CX0 4 f fd ["grammar", "reader"] (spAns K CN CG CR P1 P2 1 fun d => ∃ k a b, d = .node k a b) := by
  have GN : FnOk P w K mg base CX0 1 fN fdN _ _ := ok_read_num FN TR
  refine F.F.ok scNodeA (fun vs H Q E h => ?_) (fun cdv A outer s H vs Q E hr h => ?_)
  · obtain ⟨g, ln, lr, r, nums, s, as, ns, place, d, rest, rfl, _⟩ := h
    rfl
  · obtain ⟨g, ln, lr, r, nums, S, as, ns, place, d, rest, rfl, D, hd, dok, ⟨k, a, b, rfl⟩, q⟩ := h
    have hr1 : Room 1 _ := hr.mono (by decide)
    refine ⟨_, pss_cons (ps_set (i := 2) scNodeA.nd rfl (Or.inl rfl) (pe_meth0 (pv 1) TR.cR FN.at_ GN hr1 FN.b .nil pass0)) (pss_cons (ps_set (i := 3) scNodeA.nd rfl (Or.inl rfl) (pe_meth0 (pv 1) TR.cR FN.at_ GN hr1 FN.b .nil pass0))
      (pss_cons (ps_set (i := 4) scNodeA.nd rfl (Or.inl rfl) (pe_meth0 (pv 1) TR.cR FN.at_ GN hr1 FN.b .nil pass0))
      (pss_one (ps_ret (pe_lst (pa_cons (pe_meth (pv 0) T.cG FA.at_ GA hr FA.b .nil pass0 (pa_cons (pv 2) (pa_cons (pv 3) (pa_cons (pv 4) pa_nil)))) pa_nil)))))), ?_⟩
    walk_at "rd"
    refine read_one D hd rfl fun H1 D1 k1 => ?_
    refine read_one D1 hd rfl fun H2 D2 k2 => ?_
    refine read_one D2 hd rfl fun H3 D3 k3 => ?_
    obtain ⟨dg, hg⟩ := D3.gram.obj
    rw [hasM_of hg (gf_no (by decide +kernel) (by decide +kernel))]
    have k123 := (k1.trans k2).trans k3
    have fin : ∀ (z : Int) (H4 : Hp) (as4 : List Addr), (Cl.node k a b).ans S = [z] → DeskAt K CN CG CR P1 P2 H4 g ln lr r nums ((Cl.node k a b).next S) as4 ns (place + 4) → KeepD ln lr r P1 P2 H H4 → 1 ≤ sizeLine ∧ ∀ p, H4 p = none → Q (.ref p) (upd H4 p (.lst [.int z])) := fun z H4 as4 e D4 k4 => by
      refine ⟨by decide, fun p np => ?_⟩
      obtain ⟨n1, n2, _⟩ := D4.ne_of_free np
      exact q _ p as4 (D4.same (Same.upd_new np)) (k4.trans (Same.keepD (Same.upd_new np))) (D4.free_back k4 np) n1 n2 (by rw [upd_same, e]; rfl)
    refine ⟨g, ln, lr, S.g, as, k, a, b, rfl, D3.gram, D3.nl, fun hf => ?_, fun hf hl => ?_, fun hf hl H4 x as4 hx B4 k4 => ?_⟩
    · obtain ⟨e1, e2⟩ := node_no (fits_none hf)
      exact fin _ H3 as e1 (by rw [e2]; exact D3) k123
    · obtain ⟨x, hx, _⟩ := fits_some hf
      obtain ⟨e1, e2⟩ := node_full hx hl
      exact fin _ H3 as e1 (by rw [e2]; exact D3) k123
    · obtain ⟨e1, e2⟩ := node_add hx hl
      obtain ⟨dr, hr3⟩ := D3.read.obj
      have nr : r ≠ ln := ne_of hr3 D3.gram.nodes (fun z => nomatch z)
      refine fin _ H4 as4 e1 ⟨by rw [e2]; exact B4, D3.nl, D3.tabs.keepB (But.tb k4 D3.gram.nodes lst_tb), ⟨⟨dr, k4 _ _ nr hr3⟩, D3.read.list.keep (But.frz k4 D3.gram.nodes (fun _ _ z => nomatch z))⟩⟩ (k123.trans fun c o n1 _ _ _ _ e => k4 c o n1 e)
theorem scRuleA : FnScope ["grammar", "reader", "rule", "number"] ["grammar", "reader"] (defScope (top 56)) := ⟨rfl, rfl, rfl, by decide +kernel, rfl, by decide +kernel, by decide +kernel⟩
theorem ok_answer_rule {f fN fA : Addr} {fd fdN fdA : FuncData} (F : Gf K mg "answer_rule" (top 56) ["grammar", "reader"] f fd) (T : Tx K mg CN CG) (TR : TxR K mg CR) (FN : Mf K CR "read_number" "Reader.read_number" sReadNum ["self"] fN fdN)
    (FA : Mf K CG "set_rule" "Grammar.set_rule" sSet ["self", "rule", "number"] fA fdA) (GA : FnOk P w K mg base CX0 2 fA fdA ["self", "rule", "number"] (spSet CN CG)) :
    FnOk P w K mg base CX0 3 f fd ["grammar", "reader"] (spAns K CN CG CR P1 P2 1 fun d => ∃ r e, d = .rule r e) := by
  have GN : FnOk P w K mg base CX0 1 fN fdN _ _ := ok_read_num FN TR
  refine F.F.ok scRuleA (fun vs H Q E h => ?_) (fun cdv A outer s H vs Q E hr h => ?_)
  · obtain ⟨g, ln, lr, r, nums, s, as, ns, place, d, rest, rfl, _⟩ := h
    rfl
  · obtain ⟨g, ln, lr, r, nums, S, as, ns, place, d, rest, rfl, D, hd, dok, ⟨ru, e, rfl⟩, q⟩ := h
    have hr1 : Room 1 _ := hr.mono (by decide)
    refine ⟨_, pss_cons (ps_set (i := 2) scRuleA.nd rfl (Or.inl rfl) (pe_meth0 (pv 1) TR.cR FN.at_ GN hr1 FN.b .nil pass0)) (pss_cons (ps_set (i := 3) scRuleA.nd rfl (Or.inl rfl) (pe_meth0 (pv 1) TR.cR FN.at_ GN hr1 FN.b .nil pass0))
      (pss_one (ps_ret (pe_lst (pa_cons (pe_meth (pv 0) T.cG FA.at_ GA hr FA.b .nil pass0 (pa_cons (pv 2) (pa_cons (pv 3) pa_nil))) pa_nil))))), ?_⟩
    walk_at "rd"
    refine read_one D hd rfl fun H1 D1 k1 => ?_
    refine read_one D1 hd rfl fun H3 D3 k3 => ?_
    obtain ⟨dg, hg⟩ := D3.gram.obj
    rw [hasM_of hg (gf_no (by decide +kernel) (by decide +kernel))]
    have k123 := k1.trans k3
    have fin : ∀ (z : Int) (H4 : Hp) (as4 : List Addr), (Cl.rule ru e).ans S = [z] → DeskAt K CN CG CR P1 P2 H4 g ln lr r nums ((Cl.rule ru e).next S) as4 ns (place + 3) → KeepD ln lr r P1 P2 H H4 → 1 ≤ sizeLine ∧ ∀ p, H4 p = none → Q (.ref p) (upd H4 p (.lst [.int z])) := fun z H4 as4 e D4 k4 => by
      refine ⟨by decide, fun p np => ?_⟩
      obtain ⟨n1, n2, _⟩ := D4.ne_of_free np
      exact q _ p as4 (D4.same (Same.upd_new np)) (k4.trans (Same.keepD (Same.upd_new np))) (D4.free_back k4 np) n1 n2 (by rw [upd_same, e]; rfl)
    refine ⟨g, ln, lr, S.g, as, ru, e, rfl, D3.gram, D3.nl, fun hf => ?_, fun hf H4 B4 k4 => ?_⟩
    · obtain ⟨e1, e2⟩ := rule_no hf
      exact fin _ H3 as e1 (by rw [e2]; exact D3) k123
    · obtain ⟨e1, e2⟩ := rule_set hf
      obtain ⟨dr, hr3⟩ := D3.read.obj
      have nr : r ≠ lr := ne_of hr3 D3.gram.rules (fun z => nomatch z)
      refine fin _ H4 as e1 ⟨by rw [e2]; exact B4, D3.nl, D3.tabs.keepB (But.tb k4 D3.gram.rules lst_tb), ⟨⟨dr, k4 _ _ nr hr3⟩, D3.read.list.keep (But.frz k4 D3.gram.rules (fun _ _ z => nomatch z))⟩⟩ (k123.trans fun c o _ n2 _ _ _ e => k4 c o n2 e)
end
end Ow
set_option Elab.async false
set_option linter.all false
set_option maxRecDepth 100000
set_option maxHeartbeats 2000000
namespace Ow
open PySem PySem.Spec PyProof.Rows L2
local macro_rules | `(tactic| walk_at "rd") => `(tactic| simp only [tSeq, tIfS, tTest, tB, tOp, tUn, tVar, tC, tRet, tRetN, tDrop, tAsg, gName, gSub, tNext, tAnd, tOr, tNot, tAndV, tOrV, tNotV, tIf, tChain, tChain3, rI, rI0, rEq, rNe, scal, tCons, tNil, tLst, tTup, tCall, tMeth_eq, tFld_eq, tMake, tCB, tBM, TruV, tIsN, tNotN,
  L2.start, List.map_cons, List.map_nil, List.cons_append, List.nil_append, List.append_nil, List.length_cons, List.length_nil, List.replicate, List.getElem?_cons_zero, List.getElem?_cons_succ, List.set_cons_zero, List.set_cons_succ, Option.some.injEq, exists_and_left, exists_eq_left', exists_eq_left, V.int.injEq, V.bl.injEq, V.ref.injEq, V.str.injEq,
  true_and, and_true, exists_const, cxOf_K, nox_K, if_true, if_false, reduceIte, decide_eq_true_eq, Bool.not_eq_true, decide_eq_false_iff_not, List.cons.injEq, Nat.reduceAdd, Nat.reduceSub])
theorem toldC_len : ∀ (ds : List Cl) (s : Rd02.Abs), (toldC s ds).length = lensC s ds + ds.length
  | [], _ => rfl
  | d :: r, s => by
    show ((d.ans s ++ toldC (d.next s) r).length + 1) = (d.ans s).length + lensC (d.next s) r + (r.length + 1)
    rw [List.length_append, toldC_len r]
    omega
theorem Same.made' {H H1 : Hp} {x dx C : Addr} (nx : H x = Option.none) (nd : H dx = Option.none) (k : ∀ b o, b ≠ x → (upd (upd H dx (.own x)) x (.ins C dx [])) b = some o → H1 b = some o) : Same H H1 := fun b o e =>
  k b o (ne_of_none e nx) (by rw [upd_ne (ne_of_none e nx), upd_ne (ne_of_none e nd)]; exact e)
theorem DeskAt.butL {K : PySem.W.Frag} {CN CG CR P1 P2 : Addr} {H H' : Hp} {g ln lr r nums gv : Addr} {s : Rd02.Abs} {as : List Addr} {ns : List Int} {place : Nat} {xs : List V} (D : DeskAt K CN CG CR P1 P2 H g ln lr r nums s as ns place) (h : H gv = some (.lst xs)) (n1 : gv ≠ ln) (n2 : gv ≠ lr) (k : But gv H H') :
    DeskAt K CN CG CR P1 P2 H' g ln lr r nums s as ns place := by
  have A := D.gram
  refine ⟨⟨A.ok, ?_, k _ _ n1.symm A.nodes, k _ _ n2.symm A.rules, A.len, fun i a x h1 h2 => ?_⟩, D.nl, D.tabs.keepB (k.tb h lst_tb), ⟨?_, D.read.list.keep (k.frz h (fun _ _ z => nomatch z))⟩⟩
  · obtain ⟨dg, e⟩ := A.obj
    exact ⟨dg, k _ _ (ne_of e h (fun z => nomatch z)) e⟩
  · obtain ⟨d', k', p', q', e, rr⟩ := A.node i a x h1 h2
    exact ⟨d', k', p', q', k _ _ (ne_of e h (fun z => nomatch z)) e, rr⟩
  · obtain ⟨d, e⟩ := D.read.obj
    exact ⟨d, k _ _ (ne_of e h (fun z => nomatch z)) e⟩
section
variable {P : Program} {w : World} {K : PySem.W.Frag} {mg : Str → Option Value} {base : Heap} {CN CG CR P1 P2 : Addr}
abbrev spCall (K : PySem.W.Frag) (CN CG CR P1 P2 : Addr) : Sp := spAns K CN CG CR P1 P2 0 fun _ => True
def spAnswers (K : PySem.W.Frag) (P1 P2 : Addr) : Sp := fun vs H Q _ => ∃ (a : Addr) (ds : List Cl), vs = [.ref a] ∧ SqF K H a ((flats ds).map V.int) ∧ Tabs H P1 P2 ∧ (∀ d ∈ ds, d.ok) ∧ lensC {} ds < 1000000 ∧ ds.length ≤ 120 ∧
  ∀ (H' : Hp) (p : Addr), H' p = some (.lst ((toldC {} ds).map V.int)) → Q (.ref p) H'
theorem scAnswers : FnScope ["calls", "grammar", "reader", "given", "answer"] ["calls"] (defScope (top 53)) := ⟨rfl, rfl, rfl, by decide +kernel, rfl, by decide +kernel, by decide +kernel⟩
theorem ok_answers {f fG fR fE fC : Addr} {fd fdG fdR fdE fdC : FuncData} {k : Nat} (F : Gf K mg "answers" (top 53) ["calls"] f fd) (T : Tx K mg CN CG) (TR : TxR K mg CR) (MG : Mk K CG fG) (FG : Fun K "__init__" "Grammar.__init__" sGramInit fG fdG) (bG : Binds K fdG ["self"] [])
    (MR : Mk K CR fR) (FR : Fun K "__init__" "Reader.__init__" sReadInit fR fdR) (bR : Binds K fdR ["self", "numbers"] []) (FE : Mf K CR "at_end" "Reader.at_end" sAtEnd ["self"] fE fdE)
    (FC : Gf K mg "answer_call" (top 54) ["grammar", "reader"] fC fdC) (GC : FnOk P w K mg base CX0 (k + 2) fC fdC ["grammar", "reader"] (spCall K CN CG CR P1 P2)) : FnOk P w K mg base CX0 (k + 3) f fd ["calls"] (spAnswers K P1 P2) := by
  have GG : FnOk P w K mg base CX0 1 fG fdG _ _ := ok_gram_init FG T
  have GR : FnOk P w K mg base CX0 1 fR fdR _ _ := ok_read_init FR TR
  have GE : FnOk P w K mg base CX0 1 fE fdE _ _ := ok_at_end FE TR
  refine F.F.ok scAnswers (fun vs H Q E h => ?_) (fun cdv A outer s H vs Q E hr h => ?_)
  · obtain ⟨a, ds, rfl, _⟩ := h
    rfl
  · obtain ⟨a, ds, rfl, hl, tb, dok, hsz, hn, q⟩ := h
    have hr2 : Room 2 _ := hr.mono (by omega)
    have hr1 : Room 1 _ := hr.mono (by omega)
    refine ⟨_, pss_cons (ps_set (i := 1) scAnswers.nd rfl (Or.inl rfl) (pe_make0 MG GG hr2 rfl T.mG bG .nil pass0))
      (pss_cons (ps_set (i := 2) scAnswers.nd rfl (Or.inl rfl) (pe_make MR GR hr2 rfl TR.mR bR .nil pass0 (pa_cons (pv 0) pa_nil)))
      (pss_cons (ps_set (i := 3) scAnswers.nd rfl (Or.inl rfl) (pe_lst pa_nil))
      (pss_cons (ps_while PassesOwn.never (pt_not (pt_val (pe_meth0 (pv 2) TR.cR FE.at_ GE hr1 FE.b .nil pass0)))
        (pss_cons (ps_set (i := 4) scAnswers.nd rfl (Or.inl rfl) (pe_call GC hr rfl FC.g FC.F.kp FC.b .nil pass0 (pa_cons (pv 1) (pa_cons (pv 2) pa_nil))))
        (pss_cons (ps_expr (pe_bm PySem.F.plainAttrs_list PySem.F.slot_list_append PySem.F.type_list_append mt_append (pv 3) (pa_cons (pe_callB call_lenT (by rfl) T.len PySem.boot_len (pa_cons (pv 4) pa_nil)) pa_nil)))
        (pss_one (ps_expr (pe_bm PySem.F.plainAttrs_list PySem.F.slot_list_extend PySem.F.type_list_extend mt_extend (pv 3) (pa_cons (pv 4) pa_nil)))))))
      (pss_one (ps_ret (pv 3)))))), ?_⟩
    intro g dg ng ndg neg
    refine ⟨g, dg, rfl, upd_same, fun H1 ln lr B1 nl k1 f1 f2 => ⟨rfl, ?_⟩⟩
    have s1 : Same H H1 := Same.made' ng ndg k1
    refine ⟨_, rfl, fun r dr nr ndr ner => ⟨r, dr, a, rfl, upd_same, rfl, ?_⟩⟩
    rw [upd_upd]
    have s2 : Same H1 (upd (upd H1 dr (.own r)) r (.ins CR dr (rf a 0))) := fun b o e => by
      rw [upd_ne (ne_of_none e nr), upd_ne (ne_of_none e ndr)]
      exact e
    refine ⟨Nat.zero_le _, fun gv ngv => ?_⟩
    have s3 := Same.upd_new (o := HO.lst []) ngv
    have s123 : Same H (upd (upd (upd H1 dr (.own r)) r (.ins CR dr (rf a 0))) gv (.lst [])) := (s1.trans s2).trans s3
    have hrH : upd (upd (upd H1 dr (.own r)) r (.ins CR dr (rf a 0))) gv (.lst []) r = some (.ins CR dr (rf a 0)) := s3 _ _ upd_same
    have D3 : DeskAt K CN CG CR P1 P2 (upd (upd (upd H1 dr (.own r)) r (.ins CR dr (rf a 0))) gv (.lst [])) g ln lr r a {} [] (flats ds) 0 :=
      ⟨B1.same (s2.trans s3), nl, tb.keepB (fun b o _ e => s123 b o e), ⟨⟨dr, hrH⟩, hl.keep fun b o u e => s123 b _ e⟩⟩
    have gln : gv ≠ ln := fun z => by
      have := s2 _ _ B1.nodes
      rw [← z, ngv] at this
      cases this
    have glr : gv ≠ lr := fun z => by
      have := s2 _ _ B1.rules
      rw [← z, ngv] at this
      cases this
    have big : (2000000 : Nat) ≤ sizeLine := by decide
    have tot := toldC_len ds {}
    -- while not reader.at_end()
    refine ⟨fun m σ H' => ∃ (S : Rd02.Abs) (as : List Addr) (todo : List Cl) (out : List Int) (place : Nat) (v4 : Option V), σ = [some (.ref a), some (.ref g), some (.ref r), some (.ref gv), v4] ∧ DeskAt K CN CG CR P1 P2 H' g ln lr r a S as (flats ds) place ∧
      H' gv = some (.lst (out.map V.int)) ∧ (flats ds).drop place = flats todo ∧ (∀ d ∈ todo, d.ok) ∧ out ++ toldC S todo = toldC {} ds ∧ m = todo.length, ⟨_, {}, [], ds, [], 0, none, rfl, D3, upd_same, rfl, dok, rfl, rfl⟩, ?_⟩
    rintro m σ H4 ⟨S, as, todo, out, place, v4, rfl, D, hgv, hdr, tok, ho, rfl⟩
    obtain ⟨d4, hr4⟩ := D.read.obj
    have hend : (flats ds).length ≤ place ↔ todo = [] := by
      have e := congrArg List.length hdr
      rw [List.length_drop] at e
      constructor
      · intro h
        cases todo with
        | nil => rfl
        | cons d t =>
          have := flat_pos d
          have e2 : (flats (d :: t)).length = d.flat.length + (flats t).length := by
            show (d.flat ++ flats t).length = _
            rw [List.length_append]
          omega
      · rintro rfl
        have e3 : (flats ([] : List Cl)).length = 0 := rfl
        omega
    refine ⟨_, rfl, r, d4, _, rfl, hr4, rf_no (by decide +kernel) (by decide +kernel), r, a, flats ds, place, rfl, D.read, _, rfl, ?_⟩
    cases todo with
    | nil =>
      rw [decide_eq_true (hend.mpr rfl)]
      refine ⟨_, rfl, q H4 gv ?_⟩
      have e : out = toldC {} ds := by
        have e1 : toldC S [] = [] := rfl
        rw [e1, List.append_nil] at ho
        exact ho
      rw [← e]
      exact hgv
    | cons d t =>
      rw [decide_eq_false (fun z => nomatch (hend.mp z))]
      refine ⟨_, fun σ' H' z => z, ?_⟩
      refine ⟨_, rfl, _, rfl, g, ln, lr, r, a, S, as, flats ds, place, d, flats t, rfl, D, hdr, tok d List.mem_cons_self, trivial, fun H5 p as5 D5 k5 np pl pr hp => ?_⟩
      have gr : gv ≠ r := ne_of hgv hr4 (fun z => nomatch z)
      obtain ⟨t1, ht1⟩ := tab_tbl D.tabs.may
      obtain ⟨t2, ht2⟩ := tab_tbl D.tabs.good
      have g1 : gv ≠ P1 := ne_of hgv ht1 (fun z => nomatch z)
      have g2 : gv ≠ P2 := ne_of hgv ht2 (fun z => nomatch z)
      have hgv5 : H5 gv = some (.lst (out.map V.int)) := k5 gv _ gln glr gr g1 g2 hgv
      have gp : gv ≠ p := ne_of_none hgv np
      have tl : toldC S (d :: t) = ((d.ans S).length : Int) :: (d.ans S ++ toldC (d.next S) t) := rfl
      have szo : out.length + (d.ans S).length + 1 ≤ 1000120 := by
        have e := congrArg List.length ho
        rw [List.length_append, tl, List.length_cons, List.length_append, tot] at e
        omega
      refine ⟨_, rfl, .inl ⟨rfl, _, SqL.of hgv5⟩, _, rfl, p, _, rfl, hp, gv, _, _, rfl, rfl, hgv5, ?_, ?_⟩
      · rw [List.length_map]
        omega
      refine ⟨_, rfl, .inl ⟨rfl, _, SqL.of upd_same⟩, _, rfl, gv, p, _, _, rfl, rfl, upd_same, (by rw [upd_ne gp.symm]; exact hp), ?_, ?_⟩
      · rw [List.length_append, List.length_map, List.length_map, List.length_singleton]
        omega
      rw [upd_upd]
      refine ⟨t.length, Nat.lt_succ_self _, d.next S, as5, t, out ++ (((d.ans S).length : Int) :: d.ans S), place + d.flat.length, _, rfl, ?_, ?_, ?_, fun e he => tok e (List.mem_cons_of_mem _ he), ?_, rfl⟩
      · exact D5.butL hgv5 gln glr fun b o hb e => by rw [upd_ne hb]; exact e
      · rw [upd_same, List.length_map, List.map_append, List.map_cons, List.append_assoc]
        rfl
      · rw [← List.drop_drop, hdr]
        show (d.flat ++ flats t).drop d.flat.length = flats t
        simp
      · rw [List.append_assoc]
        exact ho
end
end Ow
set_option Elab.async false
set_option linter.all false
set_option maxRecDepth 100000
set_option maxHeartbeats 2000000
namespace Ow
open PySem PySem.Spec PyProof.Rows L2
section
variable {Goal : Prop} {K : PySem.W.Frag} {h : Heap} {mg : Str → Option Value}
theorem with_gf (X : K.In h) (G : h.Ns mainGlobals mg) {x : Str} {st : Stmt} {ps : List Str} {f : Addr} {oc : Value} {od an : Option Addr} {osl : Array (Option Value)} {kV doc pm cdv ct : Value}
    (a : PySem.W.nsIn K mainGlobals x = some (some (.ref f))) (l : K.lookup f = some ⟨oc, od, .func (PySem.W.fnOf x x (defArgs st) (defBody st) (defScope st) .none kV doc pm an cdv ct), osl⟩) (c : PySem.W.codeIn K cdv x = true) (k : PySem.W.keepIn K (.ref f) = true)
    (hb : ∀ (kV doc pm : Value) (an : Option Addr) (cdv ct : Value) (us : List Value), us.length = ps.length → bindArgs (PySem.W.fnOf x x (defArgs st) (defBody st) (defScope st) .none kV doc pm an cdv ct) ⟨us, []⟩ = pure (ps.zip us))
    (cont : Gf K mg x st ps f (PySem.W.fnOf x x (defArgs st) (defBody st) (defScope st) .none kV doc pm an cdv ct) → Goal) : Goal :=
  cont ⟨fun_mk l c k, (fun_mk (st := st) l c k).binds hb, PySem.W.mg_of X G a⟩
theorem with_mf {C : Addr} {m qual : Str} {st : Stmt} {ps : List Str} {f : Addr} {oc : Value} {od an : Option Addr} {osl : Array (Option Value)} {kV doc pm cdv ct : Value}
    (cl : Cls K C) (a : PySem.W.findIn K (.ref C) m = some (some (.ref f))) (i : PySem.W.isFn K (.ref f) = true) (l : K.lookup f = some ⟨oc, od, .func (PySem.W.fnOf m qual (defArgs st) (defBody st) (defScope st) .none kV doc pm an cdv ct), osl⟩) (c : PySem.W.codeIn K cdv qual = true) (k : PySem.W.keepIn K (.ref f) = true)
    (hb : ∀ (kV doc pm : Value) (an : Option Addr) (cdv ct : Value) (us : List Value), us.length = ps.length → bindArgs (PySem.W.fnOf m qual (defArgs st) (defBody st) (defScope st) .none kV doc pm an cdv ct) ⟨us, []⟩ = pure (ps.zip us))
    (cont : Mf K C m qual st ps f (PySem.W.fnOf m qual (defArgs st) (defBody st) (defScope st) .none kV doc pm an cdv ct) → Goal) : Goal :=
  cont ⟨fun_mk l c k, (fun_mk (st := st) l c k).binds hb, ⟨a, i, k⟩⟩
theorem with_init {C : Addr} {qual : Str} {st : Stmt} {ps : List Str} {f : Addr} {oc : Value} {od an : Option Addr} {osl : Array (Option Value)} {kV doc pm cdv ct : Value}
    (cl : Cls K C) (a : PySem.W.findIn K (.ref C) "__init__" = some (some (.ref f))) (i : PySem.W.isFn K (.ref f) = true) (l : K.lookup f = some ⟨oc, od, .func (PySem.W.fnOf "__init__" qual (defArgs st) (defBody st) (defScope st) .none kV doc pm an cdv ct), osl⟩) (c : PySem.W.codeIn K cdv qual = true) (k : PySem.W.keepIn K (.ref f) = true)
    (m : PySem.W.makesIn K C = true) (kc : PySem.W.keepIn K (.ref C) = true)
    (hb : ∀ (kV doc pm : Value) (an : Option Addr) (cdv ct : Value) (us : List Value), us.length = ps.length → bindArgs (PySem.W.fnOf "__init__" qual (defArgs st) (defBody st) (defScope st) .none kV doc pm an cdv ct) ⟨us, []⟩ = pure (ps.zip us))
    (cont : Mk K C f → Fun K "__init__" qual st f (PySem.W.fnOf "__init__" qual (defArgs st) (defBody st) (defScope st) .none kV doc pm an cdv ct) → Binds K (PySem.W.fnOf "__init__" qual (defArgs st) (defBody st) (defScope st) .none kV doc pm an cdv ct) ps [] → Goal) : Goal :=
  cont ⟨m, a, i, kc⟩ (fun_mk l c k) ((fun_mk (st := st) l c k).binds hb)
theorem with_cls (X : K.In h) (G : h.Ns mainGlobals mg) {x : Str} {C : Addr} (a : PySem.W.nsIn K mainGlobals x = some (some (.ref C))) (pg : PySem.W.plainGet K C Str.empty = true) (hd : PySem.W.hasDictIn K C = true) (po : PySem.W.plainOver K C = true)
    (sa : PySem.W.findIn K (.ref C) "__setattr__" = some (some (.builtin "object.__setattr__"))) (cont : Cls K C → mg x = some (.ref C) → Goal) : Goal := cont ⟨pg, hd, po, sa⟩ (PySem.W.mg_of X G a)
theorem cst_mk (X : K.In h) (G : h.Ns mainGlobals mg) {x : Str} {i : Int} {t : Tok} (a : PySem.W.nsIn K mainGlobals x = some (some (.int i t))) : Cst mg x i := ⟨t, PySem.W.mg_of X G a⟩
end
theorem with_txt {Goal : Prop} {K : PySem.W.Frag} {mg : Str → Option Value} {CN CG : Addr} (c : ∀ p ∈ consts, Cst mg p.1 p.2) (cN : Cls K CN) (nk : PySem.W.findIn K (.ref CN) "kind" = some none) (na : PySem.W.findIn K (.ref CN) "a" = some none) (nb : PySem.W.findIn K (.ref CN) "b" = some none) (cG : Cls K CG)
    (nn : PySem.W.findIn K (.ref CG) "nodes" = some none) (nr : PySem.W.findIn K (.ref CG) "rules" = some none) (mN : mg "Node" = some (.ref CN)) (mG : mg "Grammar" = some (.ref CG)) (len : mg "len" = none) (enu : mg "enumerate" = none) (all : mg "all" = none) (cont : Tx K mg CN CG → Goal) : Goal :=
  cont ⟨c, cN, nk, na, nb, cG, nn, nr, mN, mG, len, enu, all⟩
theorem with_txr {Goal : Prop} {K : PySem.W.Frag} {mg : Str → Option Value} {CR : Addr} (cR : Cls K CR) (nn : PySem.W.findIn K (.ref CR) "numbers" = some none) (np : PySem.W.findIn K (.ref CR) "place" = some none) (mR : mg "Reader" = some (.ref CR)) (len : mg "len" = none) (cont : TxR K mg CR → Goal) : Goal :=
  cont ⟨cR, nn, np, mR, len⟩
theorem onlyT_lst {ts : List Addr} {H : Hp} (hO : OnlyT ts H) {a : Addr} : ∀ ys, H a ≠ some (.lst ys) := fun ys e => by
  by_cases h : a ∈ ts
  · rw [hO.2 a h] at e; cases e
  · rcases hO.1 a h with z | ⟨o, u, z⟩
    · rw [z] at e; cases e
    · rw [z] at e; cases e
theorem fin_mk {K : PySem.W.Frag} {mg : Str → Option Value} {x : Str} {st : Stmt} {ps : List Str} {f : Addr} {fd : FuncData} {R : FuncData → Heap → Prop} (F : Gf K mg x st ps f fd) (hb : ∀ (s : Shared) (us : List Value), us.length = ps.length → BindsTo s fd ⟨us, []⟩ (ps.zip us))
    (h : ∀ base : Heap, K.In base → base.Ns mainGlobals mg → Bm mg base → R fd base) : ∃ fd : FuncData, (∀ (s : Shared) (us : List Value), us.length = ps.length → BindsTo s fd ⟨us, []⟩ (ps.zip us)) ∧ ∀ base : Heap, K.In base → base.Ns mainGlobals mg → Bm mg base → R fd base := ⟨fd, hb, h⟩
theorem fa_nil {α : Type} {p : α → Prop} : ∀ x ∈ ([] : List α), p x := fun _ h => nomatch h
theorem fa_cons {α : Type} {p : α → Prop} {a : α} {l : List α} (h : p a) (t : ∀ x ∈ l, p x) : ∀ x ∈ a :: l, p x := fun x hx => by
  rcases List.mem_cons.mp hx with rfl | hx
  · exact h
  · exact t x hx
theorem tab_get {p : Program} {loose : List Str} {mean : ExcName → Option Value} {mg mb : Str → Option Value} {h : Heap} {K : PySem.W.Frag} {x : Str} {c P : Addr} (T : Top p loose mean mg mb h) (X : K.In h) (hs : ((recsOf p).find? (fun e => e.name == x)).isSome = true) (ht : PySem.W.tabIn K x = some (c, P)) :
    PySem.W.CodeHd h c P ∧ h.get? P = some (PySem.W.tabObj #[]) := by
  obtain ⟨d, hr⟩ := Option.isSome_iff_exists.mp hs
  exact PySem.W.tab_of T X hr ht
end Ow
set_option Elab.async false
set_option linter.all false
set_option maxRecDepth 100000
set_option maxHeartbeats 2000000
namespace Ow
open PySem PySem.Spec PyProof.Rows
section
variable {prog : Program} {w : World} {K : Type} [DecidableEq K] (knd : PySem.KeyKind prog w K)
def masks : List Nat := [7, 31, 127, 511, 2047, 8191]
structure ElT (h : Heap) (es : List (Int × Value)) (ks : List (List K)) : Prop where
  len : es.length = ks.length
  at_ : ∀ (i : Nat) (k : List K), ks[i]? = some k → ∃ b, es[i]? = some (tupleKeyHash knd k, Value.ref b) ∧ IsTupleKey knd h k b
structure TabT (t : SetTable) (es : List (Int × Value)) : Prop where
  ok : TOk t (es.map (·.1))
  mask : t.mask ∈ masks
  low : es.length * 5 < t.mask * 3
variable {knd}
variable {A : Around} {E : Value → Shared → Prop} {s : Shared}
theorem mask_pow {m : Nat} (h : m ∈ masks) : ∃ k, m + 1 = 2 ^ k := by
  simp only [masks, List.mem_cons, List.not_mem_nil, or_false] at h
  rcases h with rfl | rfl | rfl | rfl | rfl | rfl
  · exact ⟨3, rfl⟩
  · exact ⟨5, rfl⟩
  · exact ⟨7, rfl⟩
  · exact ⟨9, rfl⟩
  · exact ⟨11, rfl⟩
  · exact ⟨13, rfl⟩
theorem mask_le {m : Nat} (h : m ∈ masks) : m ≤ 8191 ∧ 7 ≤ m ∧ (m % 2 == 0) = false := by
  simp only [masks, List.mem_cons, List.not_mem_nil, or_false] at h
  rcases h with rfl | rfl | rfl | rfl | rfl | rfl <;> decide
theorem TabT.fits {t : SetTable} {es : Array (Int × Value)} (T : TabT t es.toList) : t.fits es.size = true := by
  have h1 := T.ok.len
  rw [List.length_map, Array.length_toList] at h1
  have h2 := T.low
  rw [Array.length_toList] at h2
  unfold SetTable.fits SetTable.fill
  rw [T.ok.dm, h1, beq_self_eq_true, Bool.true_and, decide_eq_true_eq]
  show es.size + 0 ≤ t.mask
  omega
theorem class_tuple {ks : List K} {b : Addr} {Q : Bool → Shared → Prop} (hk : IsTupleKey knd s.heap ks b) (h : Q false s) : wpAny (model prog w) A (ofAClassStatement 8 (.ref b)) Q E s := by
  have hT := hk.typeIs
  obtain ⟨o, items, n, ho, hc, hd, hi⟩ := hk
  unfold ofAClassStatement
  refine wpAny_bind (wpAny_typeOf hT ?_)
  dsimp only
  rw [if_pos (show ("tuple" == "tuple") = true by decide)]
  refine wpAny_bind (wpAny_pure ?_)
  simp only [Bool.not_true, Bool.false_eq_true, if_false]
  refine wpAny_bind (wpAny_seqItems ho hd ?_)
  dsimp only
  refine wpAny_bind ?_
  rw [← Array.forIn_toList]
  refine wpAny_forIn_list _ (fun rest r s' => r.1 = none ∧ s' = s ∧ ∀ v ∈ rest, carriedByValue v = true) _ ?_ ?_ _ _ ⟨rfl, rfl, hi.byValue⟩
  · rintro v rest r s' ⟨hr, rfl, hall⟩
    have hv := hall v List.mem_cons_self
    have e : ofAClassStatement 7 v = pure false := by
      cases v with
      | ref a => cases hv
      | _ => rfl
    rw [e]
    refine wpAny_bind (wpAny_pure ?_)
    simp only [Bool.false_eq_true, if_false]
    exact wpAny_pure ⟨rfl, rfl, fun u hu => hall u (List.mem_cons_of_mem _ hu)⟩
  · rintro ⟨r1, r2⟩ s' ⟨hr, rfl, _⟩
    simp only at hr
    subst hr
    exact wpAny_pure h
theorem seen_no {k : List K} {b : Addr} (hk : IsTupleKey knd s.heap k b) : ∀ (l : List Value), (∀ v ∈ l, ∃ k' b', v = .ref b' ∧ IsTupleKey knd s.heap k' b') → ∀ {Q : Bool → Shared → Prop}, Q false s → wpAny (model prog w) A (searchCouldBeSeen (.ref b) l) Q E s := by
  intro l hl Q h
  unfold searchCouldBeSeen
  refine wpAny_bind ?_
  refine wpAny_forIn_list _ (fun rest r s' => r.1 = none ∧ s' = s ∧ ∀ v ∈ rest, ∃ k' b', v = .ref b' ∧ IsTupleKey knd s.heap k' b') _ ?_ ?_ _ _ ⟨rfl, rfl, hl⟩
  · rintro v rest r s' ⟨hr, rfl, hall⟩
    obtain ⟨k', b', rfl, hk'⟩ := hall v List.mem_cons_self
    have tl : ∀ u ∈ rest, ∃ k' b', u = .ref b' ∧ IsTupleKey knd s'.heap k' b' := fun u hu => hall u (List.mem_cons_of_mem _ hu)
    dsimp only
    split
    · exact wpAny_pure ⟨rfl, rfl, tl⟩
    · refine wpAny_bind (wpAny_eqIsQuiet_tuple hk ?_)
      simp only [Bool.not_true, Bool.false_eq_true, if_false]
      refine wpAny_bind (wpAny_eqIsQuiet_tuple hk' ?_)
      simp only [Bool.not_true, Bool.false_eq_true, if_false]
      refine wpAny_bind (class_tuple hk ?_)
      simp only [Bool.false_eq_true, if_false]
      refine wpAny_bind (class_tuple hk' ?_)
      simp only [Bool.false_eq_true, if_false]
      exact wpAny_pure ⟨rfl, rfl, tl⟩
  · rintro ⟨r1, r2⟩ s' ⟨hr, rfl, _⟩
    simp only at hr
    subst hr
    exact wpAny_pure h
theorem probe_case {t : SetTable} {es : List (Int × Value)} (T : TabT t es) {h : Int} {N n : Nat} (hN : pj t.mask h N ∉ t.place.toList) (hB : ∀ m, m < N → pj t.mask h m ∈ t.place.toList) (hl : N < 10 * SetTable.turns t.mask) (hn : n ≤ N) {hashAt : Nat → Int} {r : Option SetTable.Met} (hp : t.probe hashAt h (ch t.mask h n) = r)
    (hh : ∀ (i : Nat) (e : Int × Value), es[i]? = some e → hashAt i = e.1) : ∃ e, n ≤ e ∧ e ≤ N ∧ (∀ (m i : Nat) (x : Int × Value), n ≤ m → m < e → t.place.toList[i]? = some (pj t.mask h m) → es[i]? = some x → x.1 ≠ h) ∧
      ((e = N ∧ r = some (.empty (pj t.mask h N) none)) ∨ (e < N ∧ ∃ i : Nat, t.place.toList[i]? = some (pj t.mask h e) ∧ r = some (.candidate (pj t.mask h e) i (ch t.mask h (e + 1))))) := by
  obtain ⟨e, a, b, c, d⟩ := go_probe T.ok hN hB hashAt (10 * SetTable.turns t.mask) n hn (by omega)
  refine ⟨e, a, b, fun m i x h1 h2 h3 h4 => by rw [← hh i x h4]; exact c m i h1 h2 h3, ?_⟩
  subst hp
  rcases d with ⟨d1, d2⟩ | ⟨d1, i, d2, _, d3⟩
  · exact .inl ⟨d1, d2⟩
  · exact .inr ⟨d1, i, d2, d3⟩
theorem search_ok {a b : Addr} {o : Obj} {es : Array (Int × Value)} {ep : Nat} {t : SetTable} {ks : List (List K)} {k : List K} (hu : A.units < cLine) (ho : s.heap.get? a = some o) (hd : o.data = .set es ep t) (T : TabT t es.toList) (L : ElT knd s.heap es.toList ks)
    (hk : IsTupleKey knd s.heap k b) {N : Nat} (hN : pj t.mask (tupleKeyHash knd k) N ∉ t.place.toList) (hB : ∀ m, m < N → pj t.mask (tupleKeyHash knd k) m ∈ t.place.toList) (hl : N < 10 * SetTable.turns t.mask) {Q : SetFound → Shared → Prop}
    (h1 : k ∈ ks → Q (.there none) s) (h2 : k ∉ ks → Q (.free (pj t.mask (tupleKeyHash knd k) N) false) s) : ∀ (f n : Nat) (stand : Option SetTable.Probe), n ≤ N → N - n < f → stand.getD (t.probeStart (tupleKeyHash knd k)) = ch t.mask (tupleKeyHash knd k) n →
      (∀ (m i : Nat), m < n → t.place.toList[i]? = some (pj t.mask (tupleKeyHash knd k) m) → ks[i]? ≠ some k) → wpAny (model prog w) A (setSearchFrom a (.ref b) (tupleKeyHash knd k) true f stand) Q E s
  | 0, n, stand, _, hf, _, _ => absurd hf (Nat.not_lt_zero _)
  | f + 1, n, stand, hn, hf, hst, hno => by
    unfold setSearchFrom
    refine wpAny_bind (wpAny_setState_of ho hd T.fits ?_)
    dsimp only
    rw [show t.gaveWay = false from (mask_le T.mask).2.2]
    simp only [Bool.false_eq_true, if_false]
    rw [hst]
    generalize hp : SetTable.probe t _ _ _ = r
    obtain ⟨e, he1, he2, he3, he4⟩ := probe_case T hN hB hl hn hp (fun i x hx => by
      show ((es[i]?).map (·.1)).getD 0 = x.1
      rw [← Array.getElem?_toList, hx]
      rfl)
    have lt_of : ∀ {i j : Nat}, t.place.toList[i]? = some j → ∃ k', ks[i]? = some k' := fun {i j} hi => by
      have := (List.getElem?_eq_some_iff.mp hi).1
      rw [Array.length_toList, T.ok.len, List.length_map, L.len] at this
      exact ⟨_, List.getElem?_eq_getElem this⟩
    have no : ∀ (m i : Nat), m < e → t.place.toList[i]? = some (pj t.mask (tupleKeyHash knd k) m) → ks[i]? ≠ some k := fun m i hm hi z => by
      by_cases q : m < n
      · exact hno m i q hi z
      · obtain ⟨b', eb, _⟩ := L.at_ i k z
        exact he3 m i _ (by omega) hm hi eb rfl
    rcases he4 with ⟨rfl, rfl⟩ | ⟨hlt, i, hi, rfl⟩
    · dsimp only
      refine wpAny_pure (h2 fun z => ?_)
      obtain ⟨i, hi⟩ := List.mem_iff_getElem?.mp z
      obtain ⟨b', eb, _⟩ := L.at_ i k hi
      have hi' := (List.getElem?_eq_some_iff.mp hi).1
      have hpl : i < t.place.toList.length := by rw [Array.length_toList, T.ok.len, List.length_map, L.len]; exact hi'
      obtain ⟨n', e1, e2⟩ := T.ok.reach i _ (tupleKeyHash knd k) (List.getElem?_eq_getElem hpl) (by rw [List.getElem?_map, eb]; rfl)
      have hne : n' < e := by
        rcases Nat.lt_trichotomy n' e with q | q | q
        · exact q
        · rw [q] at e1
          exact absurd (e1 ▸ List.getElem_mem hpl) hN
        · exact absurd (e2 e q) hN
      exact no n' i hne (by rw [e1]; exact List.getElem?_eq_getElem hpl) hi
    · obtain ⟨k', hk'⟩ := lt_of hi
      obtain ⟨b', eb, kb'⟩ := L.at_ i k' hk'
      have eb' : es[i]? = some (tupleKeyHash knd k', Value.ref b') := by rw [← Array.getElem?_toList]; exact eb
      dsimp only
      have body : wpAny (model prog w) A (do
            let equal ← holding [Value.ref b'] (eqBool (Value.ref b') (Value.ref b))
            let x ← setState a
            if (true && equal) = true then pure (SetFound.there none)
            else match x.2.snd.sameMemory t.moves t.mask with
              | some same => match if same = true then x.2.snd.slot (pj t.mask (tupleKeyHash knd k) e) else SetTable.Slot.empty with
                | SetTable.Slot.live i' => match x.fst[i']? with
                  | some (_, y') => do
                    let l ← isSame y' (Value.ref b')
                    let still ← pure (if l = true then some i' else none)
                    match still with
                      | none => do
                        rule "set.search.anew"
                        setSearchFrom a (Value.ref b) (tupleKeyHash knd k) true f none
                      | some i' => if equal = true then pure (SetFound.there (some i')) else setSearchFrom a (Value.ref b) (tupleKeyHash knd k) true f (some (ch t.mask (tupleKeyHash knd k) (e + 1)))
                  | none => do
                    let still ← pure none
                    match still with
                      | none => do
                        rule "set.search.anew"
                        setSearchFrom a (Value.ref b) (tupleKeyHash knd k) true f none
                      | some i' => if equal = true then pure (SetFound.there (some i')) else setSearchFrom a (Value.ref b) (tupleKeyHash knd k) true f (some (ch t.mask (tupleKeyHash knd k) (e + 1)))
                | _ => do
                  let still ← pure none
                  match still with
                    | none => do
                      rule "set.search.anew"
                      setSearchFrom a (Value.ref b) (tupleKeyHash knd k) true f none
                    | some i' => if equal = true then pure (SetFound.there (some i')) else setSearchFrom a (Value.ref b) (tupleKeyHash knd k) true f (some (ch t.mask (tupleKeyHash knd k) (e + 1)))
              | _ => unsupported "set.changed-during-lookup:is-the-new-block-at-the-old-address") Q E s := by
        refine wpAny_bind (wpAny_holding (wpAny_eqBool_tuple hu kb' hk ?_))
        refine wpAny_bind (wpAny_setState_of ho hd T.fits ?_)
        dsimp only
        by_cases q : k' = k
        · subst q
          rw [if_pos (by rw [decide_eq_true rfl]; rfl)]
          exact wpAny_pure (h1 (List.mem_of_getElem? hk'))
        · rw [if_neg (by rw [decide_eq_false q]; exact Bool.false_ne_true)]
          have em : t.sameMemory t.moves t.mask = some true := by
            unfold SetTable.sameMemory
            rw [if_pos (beq_self_eq_true _)]
          rw [em]
          dsimp only
          rw [if_pos rfl, slot_live T.ok hi]
          dsimp only
          rw [eb']
          dsimp only
          refine wpAny_bind (wpAny_isSame_ref_self ?_)
          refine wpAny_bind (wpAny_pure ?_)
          rw [if_pos rfl]
          dsimp only
          rw [if_neg (by rw [decide_eq_false q]; exact Bool.false_ne_true)]
          refine search_ok hu ho hd T L hk hN hB hl h1 h2 f (e + 1) _ (by omega) (by omega) rfl fun m i' hm hi' => ?_
          by_cases z : m = e
          · subst z
            have : i' = i := (below_at T.ok.srt hi').symm.trans (below_at T.ok.srt hi)
            rw [this, hk']
            exact fun z => q (Option.some.inj z)
          · exact no m i' (by omega) hi'
      rw [eb']
      dsimp only
      by_cases hled : (!t.led) = true
      · rw [if_pos hled]
        refine wpAny_bind (seen_no hk _ (fun v hv => ?_) ?_)
        · obtain ⟨x, hx, rfl⟩ := List.mem_map.mp hv
          obtain ⟨i', hi'⟩ := List.mem_iff_getElem?.mp (Array.mem_toList_iff.mpr (Array.mem_filter.mp (Array.mem_toList_iff.mp hx)).1)
          have := (List.getElem?_eq_some_iff.mp hi').1
          rw [L.len] at this
          obtain ⟨b2, e2, k2⟩ := L.at_ i' _ (List.getElem?_eq_getElem this)
          rw [hi'] at e2
          cases e2
          exact ⟨_, b2, rfl, k2⟩
        · rw [if_neg Bool.false_ne_true]
          exact body
      · rw [if_neg hled]
        exact body
end
end Ow
set_option Elab.async false
set_option linter.all false
set_option maxRecDepth 100000
set_option maxHeartbeats 2000000
namespace Ow
open PySem PySem.Spec PyProof.Rows
section
variable {prog : Program} {w : World} {K : Type} [DecidableEq K] (knd : PySem.KeyKind prog w K)
def SetT (h : Heap) (a : Addr) (l : List (List K)) : Prop :=
  ∃ o es ep t ks, h.get? a = some o ∧ o.ExactSet ∧ o.data = .set es ep t ∧ TabT t es.toList ∧ ElT knd h es.toList ks ∧ ks.Nodup ∧ ∀ k, k ∈ ks ↔ k ∈ l
variable {knd}
variable {A : Around} {E : Value → Shared → Prop} {s : Shared}
theorem nd_ix' {α : Type} {l : List α} (h : l.Nodup) {i j : Nat} {x : α} (a : l[i]? = some x) (b : l[j]? = some x) : i = j := by
  obtain ⟨h1, e1⟩ := List.getElem?_eq_some_iff.mp a
  obtain ⟨h2, e2⟩ := List.getElem?_eq_some_iff.mp b
  rcases Nat.lt_trichotomy i j with q | q | q
  · exact absurd (e1.trans e2.symm) (List.pairwise_iff_getElem.mp h i j h1 h2 q)
  · exact q
  · exact absurd (e2.trans e1.symm) (List.pairwise_iff_getElem.mp h j i h2 h1 q)
theorem hash_by {n : Nat} {v : Value} (h : carriedByValue v = true) : ∃ c, hashByValue n v = pure c := by
  cases v with
  | ref a => cases h
  | _ => cases n <;> exact ⟨_, rfl⟩
theorem hbv_tuple {ks : List K} {b : Addr} {Q : Bool → Shared → Prop} (hk : IsTupleKey knd s.heap ks b) (h : ∀ c, Q c s) : wpAny (model prog w) A (hashByValue 8 (.ref b)) Q E s := by
  have hT := hk.typeIs
  obtain ⟨o, items, n, ho, hc, hd, hi⟩ := hk
  unfold hashByValue
  refine wpAny_bind (wpAny_specialOf hT F.slot_tuple_hash.lookup ?_)
  dsimp only
  refine wpAny_bind (wpAny_seqItems ho hd ?_)
  refine wpAny_bind ?_
  show wpAny _ _ (forIn items _ _) _ _ s
  rw [← Array.forIn_toList]
  refine wpAny_forIn_list _ (fun rest r s' => r.1 = none ∧ s' = s ∧ ∀ v ∈ rest, carriedByValue v = true) _ ?_ ?_ _ _ ⟨rfl, rfl, hi.byValue⟩
  · rintro v rest r s' ⟨hr, rfl, hall⟩
    obtain ⟨c, e⟩ := hash_by (n := 7) (hall v List.mem_cons_self)
    rw [e]
    refine wpAny_bind (wpAny_pure ?_)
    cases c
    · exact wpAny_pure (wpAny_pure (h false))
    · exact wpAny_pure ⟨rfl, rfl, fun u hu => hall u (List.mem_cons_of_mem _ hu)⟩
  · rintro ⟨r1, r2⟩ s' ⟨hr, rfl, _⟩
    simp only at hr
    subst hr
    exact wpAny_pure (h true)
theorem key_keep {h h' : Heap} {a b : Addr} {o : Obj} {es : Array (Int × Value)} {ep : Nat} {t : SetTable} {k : List K} (ho : h.get? a = some o) (hd : o.data = .set es ep t) (sb : Heap.SameBut a h h') (x : IsTupleKey knd h k b) : IsTupleKey knd h' k b := by
  obtain ⟨o', items, n, ho', hc, hd', hi⟩ := x
  have hne : b ≠ a := fun e => by
    subst e
    rw [ho] at ho'
    cases ho'
    rw [hd] at hd'
    cases hd'
  exact ⟨o', items, n, (sb.2 b hne).trans ho', hc, hd', hi⟩
theorem ElT.keep {h h' : Heap} {l : List (Int × Value)} {ks : List (List K)} (L : ElT knd h l ks) (kk : ∀ k b, IsTupleKey knd h k b → IsTupleKey knd h' k b) : ElT knd h' l ks :=
  ⟨L.len, fun i k hi => let ⟨b, e, q⟩ := L.at_ i k hi; ⟨b, e, kk k b q⟩⟩
theorem ElT.ins {h : Heap} {l : List (Int × Value)} {ks : List (List K)} {k : List K} {b : Addr} (L : ElT knd h l ks) {p : Nat} (hp : p ≤ l.length) (hk : IsTupleKey knd h k b) :
    ElT knd h (l.take p ++ (tupleKeyHash knd k, Value.ref b) :: l.drop p) (ks.take p ++ k :: ks.drop p) := by
  have hp' : p ≤ ks.length := by rw [← L.len]; exact hp
  refine ⟨?_, fun i k' hi => ?_⟩
  · rw [List.length_append, List.length_append, List.length_cons, List.length_cons, List.length_take, List.length_take, List.length_drop, List.length_drop, L.len]
  · rw [ins_get hp'] at hi
    rw [ins_get hp]
    split at hi
    · rename_i q
      rw [if_pos q]
      exact L.at_ i k' hi
    · rename_i q
      rw [if_neg q]
      split at hi
      · rename_i q2
        cases hi
        rw [if_pos q2]
        exact ⟨b, rfl, hk⟩
      · rename_i q2
        rw [if_neg q2]
        exact L.at_ _ k' hi
theorem nodup_ins {α : Type} {l : List α} {p : Nat} {x : α} (h : l.Nodup) (hx : x ∉ l) : (l.take p ++ x :: l.drop p).Nodup := by
  refine (List.perm_middle.nodup_iff).mpr (List.nodup_cons.mpr ⟨?_, ?_⟩)
  · rw [List.take_append_drop]
    exact hx
  · rw [List.take_append_drop]
    exact h
theorem grown_case {m n : Nat} (hm : m ∈ masks) (h1 : n * 5 < m * 3) (h2 : m * 3 ≤ (n + 1) * 5) (h3 : n ≤ 4096) : SetTable.sizeAbove (SetTable.grown (n + 1)) - 1 ∈ masks ∧ SetTable.sizeAbove (SetTable.grown (n + 1)) ≤ sizeLine ∧ (n + 1) * 5 < (SetTable.sizeAbove (SetTable.grown (n + 1)) - 1) * 3 := by
  simp only [masks, List.mem_cons, List.not_mem_nil, or_false] at hm
  rcases hm with rfl | rfl | rfl | rfl | rfl | rfl
  · have : n = 4 := by omega
    subst this
    decide
  · have : n = 18 := by omega
    subst this
    decide
  · have : n = 76 := by omega
    subst this
    decide
  · have : n = 306 := by omega
    subst this
    decide
  · have : n = 1228 := by omega
    subst this
    decide
  · omega
theorem set_at {h : Heap} {a : Addr} {o : Obj} {es es' : Array (Int × Value)} {ep : Nat} {t t' : SetTable} (ho : h.get? a = some o) (hd : o.data = .set es ep t) : (h.update a (Obj.putSet es' t')).get? a = some { o with data := .set es' (ep + 1) t' } := by
  have := Heap.get?_update_self (Obj.putSet es' t') ho (by rw [putSet_of es' t' hd]; rfl)
  rw [putSet_of es' t' hd] at this
  exact this
theorem relay_ok {a : Addr} {o : Obj} {es : Array (Int × Value)} {ep : Nat} {t : SetTable} {ks : List (List K)} (ho : s.heap.get? a = some o) (hex : o.ExactSet) (hd : o.data = .set es ep t) (hf : t.fits es.size = true) (L : ElT knd s.heap es.toList ks) (hn : ks.Nodup) {wanted : Nat}
    (hz : SetTable.sizeAbove wanted ≤ sizeLine) (hm : SetTable.sizeAbove wanted - 1 ∈ masks) (hl : es.size * 5 < (SetTable.sizeAbove wanted - 1) * 3) {Q : Unit → Shared → Prop}
    (h : ∀ h', Heap.SameBut a s.heap h' → SetT knd h' a ks → Q () { s with heap := h' }) : wpAny (model prog w) A (setRelay a wanted) Q E s := by
  unfold setRelay
  refine wpAny_bind (wpAny_setState_of ho hd hf ?_)
  dsimp only
  rw [if_neg (Nat.not_lt.mpr hz)]
  have mp := mask_le hm
  obtain ⟨k, hk⟩ := mask_pow hm
  obtain ⟨t', order, e1, e2, e3, e4, e5⟩ := laid_ok hk (es.map (·.1)) (by rw [Array.size_map]; omega) t.finger (t.movedTo (SetTable.sizeAbove wanted - 1)) t.led t.plain
  have er : t.relaid (es.map (·.1)) wanted = some (t', order) := e1
  rw [er]
  have inl : ∀ i ∈ order.toList, i < es.toList.length := fun i hi => by
    have := (e4 i).mp hi
    rw [Array.size_map] at this
    rw [Array.length_toList]
    exact this
  obtain ⟨p1, p2⟩ := pick_get (l := es.toList) inl
  have ef : (order.filterMap (es[·]?)).toList = order.toList.filterMap (es.toList[·]?) := by
    rw [Array.toList_filterMap]
    congr 1
    exact funext fun x => (Array.getElem?_toList (xs := es) (i := x)).symm
  have ol : order.toList.length = es.size := by
    have : order.toList.length = (List.range es.size).length := length_same e3 List.nodup_range fun i => by rw [e4, Array.size_map, List.mem_range]
    rw [List.length_range] at this
    exact this
  have esz : (order.filterMap (es[·]?)).size = es.size := by rw [← Array.length_toList, ef, p1, ol]
  refine wpAny_bind ?_
  show wpAny _ _ (if ((order.filterMap (es[·]?)).size != es.size) = true then _ else _) _ _ _
  rw [if_neg (by rw [esz]; simp)]
  refine wpAny_pure ?_
  dsimp only
  have sb := Heap.SameBut.update s.heap a (Obj.putSet (order.filterMap (es[·]?)) t')
  have hs : (order.filterMap (es[·]?)).size ≤ sizeLine := by
    have : (8191 : Nat) ≤ sizeLine := by decide
    omega
  refine wpAny_storeSet_of ho hd (h _ sb ?_) hs
  have q1 : ∀ i ∈ order.toList, i < ks.length := fun i hi => by rw [← L.len]; exact inl i hi
  obtain ⟨r1, r2⟩ := pick_get (l := ks) q1
  refine ⟨_, _, _, _, order.toList.filterMap (ks[·]?), set_at ho hd, hex, rfl, ⟨?_, ?_, ?_⟩, ⟨?_, fun i k' hi => ?_⟩, ?_, fun k' => ?_⟩
  · rw [ef, List.map_filterMap]
    have : (fun x => ((es.toList[x]?).map (·.1) : Option Int)) = fun x : Nat => (es.map (·.1)).toList[x]? := funext fun x => by rw [Array.toList_map, List.getElem?_map]
    rw [this]
    exact e5
  · rw [e2]; exact hm
  · rw [Array.length_toList, esz, e2]; exact hl
  · rw [ef, p1, r1]
  · rw [ef, p2]
    rw [r2] at hi
    cases q : order.toList[i]? with
    | none => rw [q] at hi; cases hi
    | some x =>
      rw [q] at hi
      have hi : ks[x]? = some k' := hi
      obtain ⟨b, eb, kb⟩ := L.at_ x k' hi
      exact ⟨b, eb, key_keep ho hd sb kb⟩
  · refine List.pairwise_filterMap.mpr (List.Pairwise.imp_of_mem (fun {x y} hx hy ne u hu v hv z => ne ?_) e3)
    subst z
    exact nd_ix' hn hu hv
  · rw [List.mem_filterMap]
    constructor
    · rintro ⟨x, _, hx⟩
      exact List.mem_of_getElem? hx
    · intro hk'
      obtain ⟨x, hx⟩ := List.mem_iff_getElem?.mp hk'
      refine ⟨x, (e4 x).mpr ?_, hx⟩
      have := (List.getElem?_eq_some_iff.mp hx).1
      rw [← L.len, Array.length_toList] at this
      rw [Array.size_map]
      exact this
theorem off_plain {t : SetTable} {l : List (Int × Value)} (T : TOk t (l.map (·.1))) : TOk { t with plain := false } (l.map (·.1)) := ⟨T.dm, T.len, T.srt, T.le, T.reach⟩
theorem add_ok {a b : Addr} {k : List K} {l : List (List K)} (hu : A.units < cLine) (hS : SetT knd s.heap a l) (hk : IsTupleKey knd s.heap k b) (hroom : l.length ≤ 4096) {Q : Bool → Shared → Prop}
    (h : ∀ c h', Heap.SameBut a s.heap h' → SetT knd h' a (l ++ [k]) → Q c { s with heap := h' }) : wpAny (model prog w) A (setAddHashed a (.ref b) (tupleKeyHash knd k)) Q E s := by
  obtain ⟨o, es, ep, t, ks, ho, hex, hd, T, L, hn, hmem⟩ := hS
  have kl : ks.length ≤ l.length := length_sub hn fun x hx => (hmem x).mp hx
  have el : es.size = ks.length := by rw [← Array.length_toList]; exact L.len
  obtain ⟨m, hm⟩ := mask_pow T.mask
  have low := T.low
  rw [Array.length_toList] at low
  obtain ⟨N, n1, n2, n3⟩ := first_free T.ok hm (by rw [List.length_map, Array.length_toList]; omega) (tupleKeyHash knd k)
  have mle := (mask_le T.mask).1
  unfold setAddHashed setAddHashedIn
  refine wpAny_holding (wpAny_bind (wpAny_setState_of ho hd T.fits ?_))
  dsimp only
  rw [if_neg (show ¬ (byScan (.ref b) es = true) from fun z => nomatch z)]
  unfold setSearch
  refine wpAny_bind (search_ok hu ho hd T L hk n2 n3 n1 (fun hin => ?_) (fun hout => ?_) 100000 0 none (Nat.zero_le _) (by unfold SetTable.turns at n1; omega) rfl fun m i hm => absurd hm (Nat.not_lt_zero _))
  · dsimp only
    refine wpAny_pure ?_
    have e : s = { s with heap := s.heap } := by cases s; rfl
    rw [e]
    refine h _ _ (Heap.SameBut.refl a s.heap) ⟨o, es, ep, t, ks, ho, hex, hd, T, L, hn, fun k' => ?_⟩
    rw [List.mem_append, List.mem_singleton]
    constructor
    · exact fun z => .inl ((hmem k').mp z)
    · rintro (z | rfl)
      · exact (hmem k').mpr z
      · exact hin
  · dsimp only
    refine wpAny_bind (wpAny_setState_of ho hd T.fits ?_)
    obtain ⟨b1, b2, b3⟩ := put_ok T.ok n2 n3
    rw [List.length_map, Array.length_toList] at b1
    dsimp only
    rw [b2]
    have fin : ∀ t1 : SetTable, t1.mask = t.mask → t1.place = (t.put (pj t.mask (tupleKeyHash knd k) N)).1.place → t1.dummies = (t.put (pj t.mask (tupleKeyHash knd k) N)).1.dummies → wpAny (model prog w) A (do
        storeSet a (SetTable.insertAt es (SetTable.below t.place (pj t.mask (tupleKeyHash knd k) N)) (tupleKeyHash knd k, Value.ref b)) t1
        if (!false && t1.tooFull) = true then do
          setRelay a (SetTable.grown (es.size + 1))
          pure true
        else pure true) Q E s := fun t1 m1 m2 m3 => by
      have ei : (SetTable.insertAt es (SetTable.below t.place (pj t.mask (tupleKeyHash knd k) N)) (tupleKeyHash knd k, Value.ref b)).toList = _ := toList_ins es _ _ b1
      have T1 : TOk t1 ((es.toList.take (SetTable.below t.place (pj t.mask (tupleKeyHash knd k) N)) ++ (tupleKeyHash knd k, Value.ref b) :: es.toList.drop (SetTable.below t.place (pj t.mask (tupleKeyHash knd k) N))).map (·.1)) := by
        have := b3
        rw [← List.map_take, ← List.map_drop] at this
        rw [List.map_append, List.map_cons]
        obtain ⟨x1, x2, x3, x4, x5⟩ := this
        refine ⟨by rw [m3]; exact x1, by rw [m2]; exact x2, by rw [m2]; exact x3, by rw [m2, m1]; exact x4, by rw [m2, m1]; exact x5⟩
      generalize SetTable.below t.place (pj t.mask (tupleKeyHash knd k) N) = p at *
      have isz : (SetTable.insertAt es p (tupleKeyHash knd k, Value.ref b)).size = es.size + 1 := by
        rw [← Array.length_toList, ei, List.length_append, List.length_cons, List.length_take, List.length_drop, Array.length_toList]
        omega
      have sb := Heap.SameBut.update s.heap a (Obj.putSet (SetTable.insertAt es p (tupleKeyHash knd k, Value.ref b)) t1)
      have kk : ∀ k' b', IsTupleKey knd s.heap k' b' → IsTupleKey knd (s.heap.update a (Obj.putSet (SetTable.insertAt es p (tupleKeyHash knd k, Value.ref b)) t1)) k' b' := fun k' b' q => key_keep ho hd sb q
      have L1 := (L.keep kk).ins (p := p) (by rw [Array.length_toList]; exact b1) (kk _ _ hk)
      have nd : (ks.take p ++ k :: ks.drop p).Nodup := nodup_ins hn hout
      have big : (8191 : Nat) ≤ sizeLine := by decide
      refine wpAny_bind (wpAny_storeSet_of ho hd ?_ (by rw [isz]; omega))
      have mem' : ∀ k', k' ∈ ks.take p ++ k :: ks.drop p ↔ k' ∈ l ++ [k] := fun k' => by
        rw [mem_ins, List.mem_append, List.mem_singleton, hmem]
        exact Or.comm
      have fl : t1.fill = es.size + 1 := by
        unfold SetTable.fill
        rw [T1.dm, T1.len, List.length_map, ← ei, Array.length_toList, isz]
        rfl
      have ho1 := set_at (es' := SetTable.insertAt es p (tupleKeyHash knd k, Value.ref b)) (t' := t1) ho hd
      by_cases q : t1.tooFull = true
      · rw [q, if_pos (show (!false && true) = true from rfl)]
        unfold SetTable.tooFull at q
        rw [fl, m1, decide_eq_true_eq] at q
        obtain ⟨g1, g2, g3⟩ := grown_case T.mask low q (by omega)
        refine wpAny_bind (relay_ok (ks := ks.take p ++ k :: ks.drop p) (s := { s with heap := _ }) ho1 hex rfl ?_ (by rw [ei]; exact L1) nd g2 g1 (by rw [isz]; exact g3) fun h' sb' S' => wpAny_pure ?_)
        · unfold SetTable.fits
          rw [T1.len, List.length_map, ← ei, Array.length_toList, beq_self_eq_true, Bool.true_and, decide_eq_true_eq, fl, m1]
          omega
        · obtain ⟨o', es', ep', t', ks', y1, y2, y3, y4, y5, y6, y7⟩ := S'
          exact h true h' (sb.trans sb') ⟨o', es', ep', t', ks', y1, y2, y3, y4, y5, y6, fun k' => (y7 k').trans (mem' k')⟩
      · rw [Bool.not_eq_true] at q
        rw [q, if_neg (by decide)]
        unfold SetTable.tooFull at q
        rw [fl, m1, decide_eq_false_iff_not] at q
        refine wpAny_pure (h true _ sb ⟨_, _, _, _, ks.take p ++ k :: ks.drop p, ho1, hex, rfl, ⟨by rw [ei]; exact T1, by rw [m1]; exact T.mask, by rw [Array.length_toList, isz, m1]; omega⟩, by rw [ei]; exact L1, nd, mem'⟩)
    split
    · refine wpAny_bind (hbv_tuple hk fun c => ?_)
      cases c
      · exact fin _ rfl rfl rfl
      · exact fin _ rfl rfl rfl
    · refine wpAny_bind (wpAny_pure ?_)
      exact fin _ rfl rfl rfl
end
end Ow
set_option Elab.async false
set_option linter.all false
set_option maxRecDepth 100000
set_option maxHeartbeats 4000000
namespace Ow
open PySem PySem.Spec PyProof.Rows
section
variable {prog : Program} {w : World} {K : Type} [DecidableEq K] {knd : PySem.KeyKind prog w K}
variable {A : Around} {R : Result → Shared → Prop} {I : Addr} {fp wr : List Addr} {G : Array GenState → Array GenState → Prop} {n : Nat} {P : Nat → Value → Prop} {St : Nat → Shared → Prop}
theorem SetT.keep {h h' : Heap} {a : Addr} {l : List (List K)} (S : SetT knd h a l) (k : ∀ o, h.get? a = some o → h'.get? a = some o) (kk : ∀ k b, IsTupleKey knd h k b → IsTupleKey knd h' k b) : SetT knd h' a l := by
  obtain ⟨o, es, ep, t, ks, y1, y2, y3, y4, y5, y6, y7⟩ := S
  exact ⟨o, es, ep, t, ks, k o y1, y2, y3, y4, y5.keep kk, y6, y7⟩
theorem set_loop (W : WalksS prog w A.in1 I fp wr G n P St) (hu : A.units + 1 < cLine) (S : Addr) (hSf : S ∉ fp) (ks : List (List K)) (kn : ks.length = n) (hb : n ≤ 4096)
    (tup : ∀ i s, St i s → ∀ b, b ∈ wr → ∀ k, ¬ IsTupleKey knd s.heap k b) :
    ∀ (j i : Nat) (s : Shared), n - i = j → i ≤ n → St i s → SetT knd s.heap S (ks.take i) → (∀ (i : Nat) v k, P i v → ks[i]? = some k → ∃ b, v = .ref b ∧ IsTupleKey knd s.heap k b) →
      (∀ s', Moved (S :: wr) G s s' → SetT knd s'.heap S ks → R (.ok (.ret .none)) s') → codeAny (model prog w) A (.builtin "set.update.loop" ⟨[.ref S, .ref I], []⟩) R s := by
  have hSw : S ∉ wr := fun h => hSf (W.sub _ h)
  have mv : ∀ {i : Nat} {s s' : Shared}, St i s → Moved wr G s s' → ∀ k b, IsTupleKey knd s.heap k b → IsTupleKey knd s'.heap k b := fun {i s s'} st hm k b x => by
    have hb : b ∉ wr := fun z => tup i s st b z k x
    obtain ⟨o', items, m, ho', hc, hd', hi⟩ := x
    exact ⟨o', items, m, hm.heap b _ hb ho', hc, hd', hi⟩
  intro j
  induction j with
  | zero =>
    intro i s hj hi hst hS hval hR
    obtain rfl : i = n := by omega
    refine codeAny_builtin PyProof.Rows.F.entry_set_update_loop ?_
    rw [Around.under_plainId PyProof.Rows.F.plain_set_update_loop _]; show wpAny _ A.in1 (pyNext (.ref I) >>= _) _ _ s
    refine wpAny_bind (W.done s _ _ hst fun s' hm => ?_); show wpAny _ A.in1 (ret Value.none) _ _ s'
    refine wpAny_pure (hR s' (hm.mono fun b hb => List.mem_cons_of_mem _ hb) ?_)
    rw [List.take_of_length_le (by omega)] at hS
    exact hS.keep (fun o e => hm.heap S o hSw e) (mv hst hm)
  | succ j ih =>
    intro i s hj hi hst hS hval hR
    have hlt : i < n := by omega
    refine codeAny_builtin PyProof.Rows.F.entry_set_update_loop ?_
    rw [Around.under_plainId PyProof.Rows.F.plain_set_update_loop _]; show wpAny _ A.in1 (pyNext (.ref I) >>= _) _ _ s
    refine wpAny_bind (W.item i s _ _ hlt hst fun v s' hP hst' hm => ?_)
    have hki : ks[i]? = some (ks[i]'(by omega)) := List.getElem?_eq_getElem (by omega)
    obtain ⟨b, rfl, kb⟩ := hval i v _ hP hki
    have kb := mv hst hm _ _ kb
    generalize ks[i]'(by omega) = k at hki kb
    have hS' : SetT knd s'.heap S (ks.take i) := hS.keep (fun o e => hm.heap S o hSw e) (mv hst hm)
    show wpAny _ A.in1 (holding [Value.ref b] (setAdd S (.ref b)) >>= _) _ _ s'
    refine wpAny_bind (wpAny_holding ?_)
    unfold setAdd
    refine wpAny_holding (wpAny_bind (wpAny_pyHash_tuple (knd := knd) hu kb ?_))
    refine add_ok (s := { s' with toks := s'.toks + (k.length + 1) }) (l := ks.take i) hu hS' kb (by rw [List.length_take]; omega) fun c h' sb S2 => ?_
    have tk : ks.take i ++ [k] = ks.take (i + 1) := by rw [List.take_add_one, hki]; rfl
    rw [tk] at S2
    refine wpAny_pure ⟨plainId_quiet PyProof.Rows.F.plain_set_update_loop _, ih (i + 1) _ (by omega) hlt (W.frame _ s' _ _ hst' (Nat.le_add_right _ _) fun b' hb' o e => ?_) S2 (fun i' v' k' hp' hk' => ?_) fun s'' hm'' S3 => ?_⟩
    · rw [sb.2 b' (fun h : b' = S => hSf (by rw [← h]; exact hb'))]
      exact e
    · obtain ⟨b2, rfl, kb2⟩ := hval i' v' k' hp' hk'
      obtain ⟨o1, es1, ep1, t1, ks1, z1, _, z3, _⟩ := hS'
      exact ⟨b2, rfl, key_keep z1 z3 sb (mv hst hm _ _ kb2)⟩
    · refine hR s'' (Moved.trans W.gtrans ((hm.mono fun b hb => List.mem_cons_of_mem _ hb).then_heap (Nat.le_add_right _ _) fun b' o hb' e => ?_) hm'') S3
      rw [sb.2 b' (fun h : b' = S => hb' (by rw [h]; exact List.mem_cons_self))]
      exact e
end
section
variable {prog : Program} {w : World} {K : Type} [DecidableEq K] {knd : PySem.KeyKind prog w K} {A : Around} {E : Value → Shared → Prop} {s : Shared}
abbrev freshSet (led : Bool) : Obj := { cls := .type "set", dict := none, data := .set #[] 0 (.fresh 0 0 led) }
theorem SetT.fresh {h : Heap} {a : Addr} {led : Bool} (e : h.get? a = some (freshSet led)) : SetT knd h a [] := by
  refine ⟨_, #[], 0, _, [], e, ⟨rfl, rfl, rfl⟩, rfl, ⟨⟨rfl, rfl, List.Pairwise.nil, (fun j hj => nomatch hj), fun i j h hi => ?_⟩, by show 7 ∈ masks; decide, by show 0 * 5 < 7 * 3; decide⟩, ⟨rfl, fun i k hi => ?_⟩, List.Pairwise.nil, fun k => Iff.rfl⟩
  · have hi : ([] : List Nat)[i]? = some j := hi
    rw [List.getElem?_nil] at hi
    cases hi
  · rw [List.getElem?_nil] at hi
    cases hi
end
end Ow
set_option Elab.async false
set_option linter.all false
set_option maxRecDepth 100000
set_option maxHeartbeats 4000000
namespace Ow
open PySem PySem.Spec PyProof.Rows
section
variable {prog : Program} {w : World} {K : Type} [DecidableEq K] {knd : PySem.KeyKind prog w K} {A : Around} {E : Value → Shared → Prop} {s : Shared}
theorem call_set_tuples {l : Addr} {items : Array Value} {ks : List (List K)} {Q : Value → Shared → Prop} (hh : A.handled = none) (hu : A.units + 8 < cLine) (hl : s.heap.IsList l items) (kn : ks.length = items.size)
    (hk : ∀ (i : Nat) v k, items[i]? = some v → ks[i]? = some k → ∃ b, v = .ref b ∧ IsTupleKey knd s.heap k b) (hb : ks.length ≤ 4096)
    (h : ∀ (h' : Heap) (tk : Nat), SetT knd h' s.heap.objs.size ks → (∀ b o, b < s.heap.objs.size → s.heap.get? b = some o → h'.get? b = some o) → Q (.ref s.heap.objs.size) { s with heap := h', toks := tk }) :
    wpAny (model prog w) A (call (.type "set") [.ref l]) Q E s := by
  have ft := F.called_set; obtain ⟨c, tl, hmro⟩ := ft.mro
  have m1 := ft.made; have m2 := ft.sub; have m3 := ft.notType; have m4 := ft.canCreate; have m5 := F.typeCall_set_1 (.ref l)
  refine wpAny_call (codeAny_of_tree (show wpAny _ _ (callAny (.type "set") _) _ _ _ from wpAny_pure ⟨Code.quiet_builtin _ (by decide +kernel), codeAny_builtin F.entry_type_call ?_⟩))
  rw [Around.under_plain (weight_type_call_type "set" [Value.ref l] []) rfl]; repeat (any_goals (first | assumption | wp_step))
  refine codeAny_mono (code_set_new_1 (.ref l) (E := E) (Q₁ := fun obj s₁ => ∃ led : Bool, obj = .ref s.heap.objs.size ∧ s₁ = { s with heap := s.heap.push (freshSet led) }) fun led => ⟨led, rfl, rfl⟩) fun r s₁ hr => ?_
  cases r with
  | error e => exact hr
  | ok fl =>
    cases fl with
    | ret obj =>
      obtain ⟨led, rfl, rfl⟩ := hr
      have hS : (s.heap.push (freshSet led)).get? s.heap.objs.size = some (freshSet led) := Heap.get?_push_size _ rfl
      have hT : Shared.TypeIs { s with heap := s.heap.push (freshSet led) } (.ref s.heap.objs.size) "set" := ⟨_, hS, rfl⟩
      have m6 := ft.init.lookup; have m7 := ft.init.bind (.ref s.heap.objs.size); repeat (any_goals (first | assumption | wp_step))
      refine codeAny_mono (codeAny_call_builtin (R := wants (fun r s₂ => r = .none ∧ ∃ h' tk, s₂ = { s with heap := h', toks := tk } ∧ SetT knd h' s.heap.objs.size ks ∧ (∀ b o, b < s.heap.objs.size → s.heap.get? b = some o → h'.get? b = some o)) E)
        F.called_set.init.plain F.entry_set_init (check_set_init_1 hT ?_)) fun r₂ s₂ hr₂ => ?_
      · obtain ⟨⟨ocls, odict, odata, oslots⟩, hol, hcl, nl, hdl⟩ := hl
        simp only at hcl hdl
        subst hcl hdl
        have hol' : (s.heap.push (freshSet led)).get? l = some { cls := .type "list", dict := odict, data := .seq items nl, slots := oslots } := Heap.get?_push_of_some _ hol
        have no1 := F.sub_list_set; have no2 := F.sub_list_frozenset; have no3 : (Value.type "list" == Value.type "dict") = false := rfl
        have hl1 : (s.heap.push (freshSet led)).IsList l items := ⟨_, hol', rfl, nl, rfl⟩
        unfold Builtin.«set.__init__»; unfold noKeywords Builtin.Frozenset.updateFrom; generalize hPI : pyIter = PI; wp_walk; subst hPI
        refine wpAny_pyIter_list hl1 (wpAny_bind (wpAny_runValue ?_))
        have hlS := Heap.lt_size hol; have hh3 : A.in1.in1.in1.handled = none := by simp [hh]
        have sz1 : (s.heap.push (freshSet led)).objs.size = s.heap.objs.size + 1 := Heap.size_push _ _
        have hneI : l ≠ (s.heap.push (freshSet led)).objs.size := by rw [sz1]; exact Nat.ne_of_lt (Nat.lt_succ_of_lt hlS)
        have hSf : s.heap.objs.size ∉ [(s.heap.push (freshSet led)).objs.size, l] := by
          rw [sz1]
          simp only [List.mem_cons, List.mem_singleton, List.not_mem_nil, or_false, not_or]
          exact And.intro (Nat.ne_of_lt (Nat.lt_succ_self _)) (Nat.ne_of_gt hlS)
        refine set_loop (knd := knd) ((Walks.list hh3 _ l hneI items).toS) (by show A.in1.in1.units + 1 < cLine; exact Nat.lt_of_le_of_lt (by show A.units + 1 + 1 + 1 ≤ A.units + 8; omega) hu) s.heap.objs.size hSf ks kn (by omega) (fun i s' st b hb k x => ?_)
          (items.size - 0) 0 _ (by omega) (Nat.zero_le _) ⟨⟨_, Heap.get?_push_size _ rfl, rfl, rfl⟩, (hl1.push _)⟩ ?hS0 (fun i v k hv hki => ?_) ?hR
        case hS0 => exact SetT.fresh (led := led) (Heap.get?_push_of_some _ hS)
        case hR =>
          intro s' hm hS'
          rw [Moved.eq_with hm]
          refine wpAny_pure (show wpAny _ _ (ret Value.none) _ _ _ from wpAny_pure ⟨rfl, s'.heap, s'.toks, rfl, hS', fun b o hb e => ?_⟩)
          have hb2 : b ≠ (s.heap.push (freshSet led)).objs.size := by rw [sz1]; exact Nat.ne_of_lt (Nat.lt_succ_of_lt hb)
          exact hm.heap b o (by simp only [List.mem_cons, List.mem_singleton, List.not_mem_nil, or_false, not_or]; exact ⟨Nat.ne_of_lt hb, hb2⟩) (Heap.get?_push_of_some _ (Heap.get?_push_of_some _ e))
        · obtain rfl := List.mem_singleton.mp hb
          obtain ⟨⟨oi, hoi, _, hdi⟩, _⟩ := st
          obtain ⟨o2, items2, n2, ho2, _, hd2, _⟩ := x
          rw [hoi] at ho2
          cases ho2
          rw [hdi] at hd2
          cases hd2
        · obtain ⟨b, rfl, kb⟩ := hk i v k hv hki
          obtain ⟨o2, items2, n2, ho2, hc2, hd2, hi2⟩ := kb
          exact ⟨b, rfl, o2, items2, n2, Heap.get?_push_of_some _ (Heap.get?_push_of_some _ ho2), hc2, hd2, hi2⟩
      · cases r₂ with
        | error e => exact hr₂
        | ok fl₂ =>
          cases fl₂ with
          | ret r =>
            obtain ⟨rfl, h', tk, rfl, hS', hk'⟩ := hr₂
            repeat (any_goals (first | assumption | wp_step))
            exact h _ _ hS' hk'
          | _ => exact hr₂.elim
    | _ => exact hr.elim
end
end Ow
set_option Elab.async false
set_option linter.all false
set_option maxRecDepth 100000
set_option maxHeartbeats 4000000
namespace Ow
open PySem PySem.Spec PyProof.Rows L2
section
variable {prog : Program} {w : World} {A : Around} {E : Value → Shared → Prop} {s : Shared}
theorem lri_no_len : typeLookup (.type "list_reverseiterator") "__len__" = pure none := by rw [typeLookup_type, builtinLookup_eq_fast]; kernel_rfl
theorem lri_hint : typeLookup (.type "list_reverseiterator") "__length_hint__" = pure (some (.builtin "list_reverseiterator.__length_hint__")) := by rw [typeLookup_type, builtinLookup_eq_fast]; kernel_rfl
theorem lri_self : isSubtype (.type "list_reverseiterator") (.type "list_reverseiterator") = pure true := by rw [isSubtype_type]; kernel_rfl
theorem lri_split : splitId "list_reverseiterator.__length_hint__" = some ("list_reverseiterator", "__length_hint__") := by decide +kernel
theorem hint_rev {r l : Addr} {i : Int} {Q : Bool → Shared → Prop} (hr : s.heap.IsRevIter r l i) (h : Q false s) : wpAny (model prog w) A (Builtin.List.listLengthHint (.ref r)) Q E s := by
  unfold Builtin.List.listLengthHint
  refine wpAny_bind (wpAny_specialOf hr.typeIs lri_no_len ?_)
  dsimp only
  rw [if_neg (by exact Bool.false_ne_true)]
  rw [if_neg (by exact Bool.false_ne_true)]
  refine wpAny_bind (wpAny_specialOf hr.typeIs lri_hint ?_)
  dsimp only
  rw [lri_split]
  dsimp only
  refine wpAny_bind (wpAny_isInstance hr.typeIs lri_self ?_)
  refine wpAny_ite_split (fun hab => absurd hab (by decide)) (fun _ => ?_)
  refine wpAny_ite_split (fun _ => ?_) (fun hab => absurd (by decide +kernel) hab)
  refine wpAny_ite_split (fun hab => absurd hab (by decide +kernel)) (fun _ => ?_)
  exact wpAny_pure h
theorem items_rev {items acc : Array Value} (h : ItemsOf (fun i v => items[items.size - 1 - i]? = some v) acc items.size) : acc.toList = items.toList.reverse := by
  obtain ⟨h1, h2⟩ := h
  refine List.ext_getElem? fun i => ?_
  by_cases hi : i < acc.size
  · have e : acc[i]? = some acc[i] := Array.getElem?_eq_getElem hi
    have e2 := h2 i _ e
    rw [Array.getElem?_toList, e, List.getElem?_reverse (by rw [Array.length_toList]; omega), Array.length_toList, Array.getElem?_toList]
    exact e2.symm
  · rw [List.getElem?_eq_none (by rw [Array.length_toList]; omega), List.getElem?_eq_none (by rw [List.length_reverse, Array.length_toList]; omega)]
theorem call_list_rev {r l : Addr} {items : Array Value} {Q : Value → Shared → Prop} (hh : A.handled = none) (hr : s.heap.IsRevIter r l ((items.size : Int) - 1)) (hl : s.heap.IsList l items) (hlen : items.size ≤ sizeLine)
    (hQ : ∀ h' tk acc' c', (∀ b o, b ≠ r → s.heap.get? b = some o → h'.get? b = some o) → h'.get? s.heap.objs.size = some { cls := .type "list", dict := none, data := .seq acc' c', slots := #[] } → acc'.toList = items.toList.reverse → Q (.ref s.heap.objs.size) { s with heap := h', toks := tk }) :
    wpAny (model prog w) A (call (.type "list") [.ref r]) Q E s := by
  have hne : l ≠ r := fun e => by
    subst e
    obtain ⟨o1, a1, b1, c1⟩ := hr
    obtain ⟨o2, a2, b2, n2, c2⟩ := hl
    rw [a1] at a2
    cases a2
    rw [c1] at c2
    cases c2
  have lr : r < s.heap.objs.size := let ⟨o, ho, _⟩ := hr; Heap.lt_size ho
  have ll : l < s.heap.objs.size := let ⟨o, ho, _⟩ := hl; Heap.lt_size ho
  have hSf : s.heap.objs.size ∉ [r, l] := by
    simp only [List.mem_cons, List.not_mem_nil, or_false, not_or]
    exact ⟨Nat.ne_of_gt lr, Nat.ne_of_gt ll⟩
  have W := (Walks.listRev (prog := prog) (w := w) (A := A.in1.in1) (by simp [hh]) r l hne items).toS
  have keyS : ∀ h2 : Heap, (∀ b ∈ [r, l], ∀ o, s.heap.get? b = some o → h2.get? b = some o) → 0 ≤ items.size ∧ h2.IsRevIter r l ((items.size : Int) - 1 - ((0 : Nat) : Int)) ∧ h2.IsList l items := fun h2 k2 => by
    refine ⟨Nat.zero_le _, ?_, hl.at fun o e => k2 l (by simp) o e⟩
    have e : (items.size : Int) - 1 - ((0 : Nat) : Int) = (items.size : Int) - 1 := by omega
    rw [e]
    exact hr.at fun o e => k2 r (by simp) o e
  refine callType_codes (Q₁ := fun obj s₁ => obj = .ref s.heap.objs.size ∧ s₁ = { s with heap := s.heap.push { cls := .type "list", data := .seq #[] } }) F.called_list (F.typeCall_list_1 _) F.entry_list_init (code_list_new _ ⟨rfl, rfl⟩) fun obj s₁ h₁ => ?_
  obtain ⟨rfl, rfl⟩ := h₁
  have hS : (s.heap.push { cls := .type "list", data := .seq #[] }).get? s.heap.objs.size = some { cls := .type "list", data := .seq #[] } := Heap.get?_push_size _ rfl
  refine ⟨⟨_, hS, rfl⟩, F.args_list_init_2 _ _, ?_⟩
  show wpAny _ _ (do let old ← Builtin.List.listItems (.ref s.heap.objs.size); Builtin.List.listUpdate (.ref s.heap.objs.size) (fun _ => #[]); letGo old.toList.reverse; Builtin.List.listExtendWith (.ref s.heap.objs.size) (.ref r) .none) _ _ _
  refine wpAny_bind ?_
  unfold Builtin.List.listItems
  refine wpAny_bind (wpAny_seqItems hS rfl (wpAny_pure ?_))
  show wpAny _ _ (updateSeq s.heap.objs.size (fun _ => #[]) >>= fun _ => letGo (#[] : Array Value).toList.reverse >>= fun _ => Builtin.List.listExtendWith (.ref s.heap.objs.size) (.ref r) .none) _ _ _
  refine wpAny_bind (wpAny_updateSeq hS rfl ?_)
  have hS₂ := Heap.get?_update_self (Obj.mapSeq (fun _ => (#[] : Array Value))) hS rfl
  refine wpAny_bind (wpAny_letGo ?_)
  have k2 : ∀ b o, b ≠ s.heap.objs.size → s.heap.get? b = some o → ((s.heap.push { cls := .type "list", data := .seq #[] }).update s.heap.objs.size (Obj.mapSeq (fun _ => (#[] : Array Value)))).get? b = some o := fun b o hb e => (Heap.get?_update_other _ _ (Ne.symm hb)).trans (Heap.get?_push_of_some _ e)
  generalize (s.heap.push { cls := .type "list", data := .seq #[] }).update s.heap.objs.size (Obj.mapSeq (fun _ => (#[] : Array Value))) = h2 at hS₂ k2 ⊢
  have st2 := keyS h2 fun b hb o e => k2 b o (fun z => hSf (z ▸ hb)) e
  unfold Builtin.List.listExtendWith
  refine wpAny_bind (wpAny_typeOf (s := { s with heap := h2 }) st2.2.1.typeIs ?_)
  have g1 : Builtin.List.listSameRef (.ref s.heap.objs.size) (.ref r) = false := by simp [Builtin.List.listSameRef]; exact Nat.ne_of_gt lr
  have g2 : (Value.type "list_reverseiterator" == Value.type "list") = false := by decide
  have g3 : (Value.type "list_reverseiterator" == Value.type "tuple") = false := by decide
  simp only [g1, g2, g3, Bool.or_false, Bool.false_eq_true, if_false]
  refine wpAny_bind (wpAny_pyIter_revIter (s := { s with heap := h2 }) st2.2.1 ?_)
  refine wpAny_bind (wpAny_holding (hint_rev (s := { s with heap := h2 }) st2.2.1 ?_))
  refine wpAny_ite_split (fun hab => absurd hab (by decide)) (fun _ => ?_)
  refine wpAny_pure ⟨plainId_quiet F.plain_extend_loop _, codeAny_extend_loopS W hlen _ hSf _ items.size 0 _ _ _ rfl (Nat.zero_le _) st2 hS₂ (ItemsOf.nil _) fun s' acc' c' hm hS' hacc => ?_⟩
  refine ⟨rfl, ?_⟩
  rw [Moved.eq_with hm]
  refine hQ s'.heap s'.toks acc' c' (fun b o hb e => ?_) hS' (items_rev hacc)
  have hbl : b < s.heap.objs.size := Heap.lt_size e
  exact hm.heap b o (by simp only [List.mem_cons, List.not_mem_nil, or_false, not_or]; exact ⟨Nat.ne_of_lt hbl, hb⟩) (k2 b o (Nat.ne_of_lt hbl) e)
end
end Ow
set_option Elab.async false
set_option linter.all false
set_option maxRecDepth 100000
set_option maxHeartbeats 2000000
namespace Ow
open PySem PySem.Spec PyProof.Rows L2
section
variable {X : Cx} {e : Expr} {te : TE} {p p2 pos pos2 : Pos}
def tListRev (K : PySem.W.Frag) (te : TE) : TE := fun σ H Q => te σ H fun v H1 => ∃ (a : Addr) (xs : List V), v = .ref a ∧ SqL K H1 a xs ∧ ∀ l, H1 l = none → Q (.ref l) (upd H1 l (.lst xs.reverse))
theorem pe_listRev (hc : X.calm = true) (hg : Gl X "list") (hm : X.mg "list" = none) (hg2 : Gl X "reversed") (hm2 : X.mg "reversed" = none) (he : PE X e te) (hs : starEach [e] X.env = [(false, eval e X.env)] := by rfl)
    (hs2 : starEach [.Call (.Name "reversed" p2) [e] [] pos2] X.env = [(false, eval (.Call (.Name "reversed" p2) [e] [] pos2) X.env)] := by rfl) : PE X (.Call (.Name "list" p) [.Call (.Name "reversed" p2) [e] [] pos2] [] pos) (tListRev X.K te) := by
  intro pins s σ H Q I h
  refine wpAny_Call_Name_kw (ld_blt I hg hm PyProof.Rows.boot_list ?_ (by decide) (by decide))
  refine PyProof.Rows.callWith_type1 ?_ hs2 rfl
  rw [hs2]
  show wpAny _ _ (spliced ((false, eval (.Call (.Name "reversed" p2) [e] [] pos2) X.env) :: [])) _ _ s
  refine Calls.spliced_cons ?_
  refine Call_ (ld_blt I hg2 hm2 boot_reversed5 ?_ (by decide) (by decide))
  refine PyProof.Rows.callWith_type1 ?_ hs rfl
  rw [hs]
  show wpAny _ _ (spliced ((false, eval e X.env) :: [])) _ _ s
  refine Calls.spliced_cons (thn (he pins s σ H _ I h) fun u s1 ⟨x, H1, I1, r1, q1⟩ => Calls.spliced_nil ?_)
  obtain ⟨a, xs, rfl, hq, q⟩ := q1
  cases r1
  obtain ⟨its, rv, pl, hz⟩ := I1.list hq
  have hl := rv.length
  refine call_reversed_list pl.isList (Calls.spliced_nil ?_)
  refine call_list_rev (s := { s1 with heap := _ }) (items := its.toArray) (I.ok.hd hc) (l := a) ⟨_, Heap.get?_push_size _ rfl, rfl, rfl⟩ (pl.isList.push _) (by simp only [List.size_toArray]; omega) fun h' tk acc' c' kp e1 e2 => ?_
  have ev : acc' = its.reverse.toArray := by
    apply Array.toList_inj.mp
    rw [e2]
  subst ev
  refine ⟨.ref _, _, I1.laid (t' := tk) (a := (s1.heap.push (revObj a (((its.toArray.size : Nat) : Int) - 1))).objs.size) (o := .lst xs.reverse) (fun b o z => kp b o (Nat.ne_of_lt (Heap.lt_size z)) (Heap.get?_push_of_some _ z)) (by rw [Heap.size_push]; exact Nat.le_succ _) ⟨by rw [List.length_reverse]; exact hz, its.reverse, c', rv.reverse, e1⟩, rfl, q _ (I1.hok.fresh (by rw [Heap.size_push]; exact Nat.le_succ _))⟩
def SetN (a : Addr) (n : Nat) : HO := .ext fun h => ∃ o es ep t, h.get? a = some o ∧ o.ExactSet ∧ o.data = .set es ep t ∧ t.fits es.size = true ∧ es.size = n
def rSetT (K : PySem.W.Frag) : List V → Hp → VK → Prop := fun xs H Q => ∃ (p : Addr) (bs : List Addr) (ks : List (List Key)), xs = [.ref p] ∧ SqL K H p (bs.map V.ref) ∧ bs.length = ks.length ∧
  (∀ (i : Nat) b k, bs[i]? = some b → ks[i]? = some k → H b = some (.tup (k.map kV))) ∧ ks.length ≤ 4096 ∧ ∀ (u : List (List Key)), u.Nodup → (∀ k, k ∈ u ↔ k ∈ ks) → ∀ a, H a = none → Q (.ref a) (upd H a (SetN a u.length))
theorem call_setT (hc : X.calm = true) (hu : X.A.units + 8 < cLine) : CallR X (.type "set") (rSetT X.K) := by
  intro pins s σ H xs us Q I rv h
  obtain ⟨p, bs, ks, rfl, hq, hl, ht, hb, q⟩ := h
  cases rv with
  | cons r rr =>
    cases rr
    cases r
    obtain ⟨its, rb, pl, hz⟩ := I.list hq
    have ei := refs_at rb
    subst ei
    refine call_set_tuples (knd := mixKind X.prog X.w) (ks := ks) (I.ok.hd hc) hu pl.isList (by simp only [List.size_toArray, List.length_map]; omega) (fun i v k hv hk => ?_) hb fun h' tk S kp => ?_
    · rw [List.getElem?_toArray, List.getElem?_map] at hv
      cases hbi : bs[i]? with
      | none => rw [hbi] at hv; cases hv
      | some b =>
        rw [hbi] at hv
        cases hv
        exact ⟨b, rfl, key_of I.hok (ht i b k hbi hk)⟩
    · obtain ⟨o, es, ep, t, ks', y1, y2, y3, y4, y5, y6, y7⟩ := S
      have en : es.size = ks'.length := by rw [← Array.length_toList]; exact y5.len
      refine ⟨.ref _, _, I.laid (t' := tk) (o := SetN s.heap.objs.size ks'.length) (fun b o z => kp b o (Heap.lt_size z) z) (Nat.le_refl _) ⟨⟨o, es, ep, t, y1, y2, y3, y4.fits, en⟩, ⟨o, y1⟩, fun h1 h2 ⟨o', es', ep', t', z1, z2⟩ k => ⟨o', es', ep', t', k o' z1, z2⟩⟩, rfl, q ks' y6 y7 _ (I.hok.fresh (Nat.le_refl _))⟩
theorem call_lenN : CallR X (.builtin "len") (fun xs H Q => ∃ (p : Addr) (n : Nat), xs = [.ref p] ∧ H p = some (SetN p n) ∧ n ≤ 1000000 ∧ Q (.int n) H) := by
  intro pins s σ H xs us Q I rv h
  obtain ⟨p, n, rfl, hp, hn, q⟩ := h
  cases rv with
  | cons r rr =>
    cases rr
    cases r
    obtain ⟨⟨o, es, ep, t, y1, y2, y3, y4, y5⟩, _⟩ := I.hok p _ hp
    exact call_len_set y1 y2 y3 y4 (by omega) ⟨.int n, H, I.tok _, ⟨s.toks + 1, by rw [y5]⟩, q⟩
end
end Ow
set_option Elab.async false
set_option linter.all false
set_option maxRecDepth 100000
set_option maxHeartbeats 2000000
namespace Ow
open PySem PySem.Spec PyProof.Rows L2
def rdf (g tx st kn wt : Addr) : List (Str × V) := [("grammar", .ref g), ("text", .ref tx), ("start", .ref st), ("known", .ref kn), ("waiting", .ref wt)]
theorem rdf_grammar {g tx st kn wt : Addr} : (rdf g tx st kn wt).lookup ("grammar" : Str) = some (.ref g) := lk_hit rfl
theorem rdf_text {g tx st kn wt : Addr} : (rdf g tx st kn wt).lookup ("text" : Str) = some (.ref tx) := (lk_miss (by decide +kernel)).trans (lk_hit rfl)
theorem rdf_start {g tx st kn wt : Addr} : (rdf g tx st kn wt).lookup ("start" : Str) = some (.ref st) := (lk_miss (by decide +kernel)).trans ((lk_miss (by decide +kernel)).trans (lk_hit rfl))
theorem rdf_known {g tx st kn wt : Addr} : (rdf g tx st kn wt).lookup ("known" : Str) = some (.ref kn) := (lk_miss (by decide +kernel)).trans ((lk_miss (by decide +kernel)).trans ((lk_miss (by decide +kernel)).trans (lk_hit rfl)))
theorem rdf_waiting {g tx st kn wt : Addr} : (rdf g tx st kn wt).lookup ("waiting" : Str) = some (.ref wt) := (lk_miss (by decide +kernel)).trans ((lk_miss (by decide +kernel)).trans ((lk_miss (by decide +kernel)).trans ((lk_miss (by decide +kernel)).trans (lk_hit rfl))))
theorem rdf_no {g tx st kn wt : Addr} {m : Str} (h : m ∉ (["grammar", "text", "start", "known", "waiting"] : List Str)) : (rdf g tx st kn wt).lookup m = none := by
  simp only [List.mem_cons, List.not_mem_nil, or_false, not_or] at h
  exact (lk_miss h.1).trans ((lk_miss h.2.1).trans ((lk_miss h.2.2.1).trans ((lk_miss h.2.2.2.1).trans ((lk_miss h.2.2.2.2).trans rfl))))
theorem rdf_ne_gf {g tx st kn wt l m : Addr} : rdf g tx st kn wt ≠ gf l m := fun h => by
  have := (List.cons.inj h).1
  exact absurd (Prod.mk.inj this).1 (by decide +kernel)
structure TxD (K : PySem.W.Frag) (mg : Str → Option Value) (CD : Addr) : Prop where
  cD : Cls K CD
  ng : NoAttr K CD "grammar"
  nt : NoAttr K CD "text"
  ns : NoAttr K CD "start"
  nk : NoAttr K CD "known"
  nw : NoAttr K CD "waiting"
  mD : mg "Reading" = some (.ref CD)
  len : mg "len" = none
  list : mg "list" = none
  rev : mg "reversed" = none
  set : mg "set" = none
def keyOf (z : Nat × Nat) : List Key := [Sum.inl (z.1 : Int), Sum.inl (z.2 : Int)]
theorem keyOf_inj {y z : Nat × Nat} (h : keyOf y = keyOf z) : y = z := by
  obtain ⟨h1, h2⟩ := List.cons.inj h
  have h2 := (List.cons.inj h2).1
  have h1 := Sum.inl.inj h1
  have h2 := Sum.inl.inj h2
  exact Prod.ext (by omega) (by omega)
def ptv (z : Nat × Nat) : List V := [.int (z.1 : Int), .int (z.2 : Int)]
theorem ptv_key (z : Nat × Nat) : (keyOf z).map kV = ptv z := rfl
def kvs (f : Nat × Nat → Int) (K : List (Nat × Nat)) : List (List Key × V) := K.map fun z => (keyOf z, V.int (f z))
theorem valV_kvs {f : Nat × Nat → Int} {z : Nat × Nat} : ∀ {K : List (Nat × Nat)}, valV (kvs f K) (keyOf z) = if z ∈ K then some (.int (f z)) else none
  | [] => rfl
  | y :: K => by
    by_cases h : y = z
    · subst h
      rw [if_pos List.mem_cons_self]
      exact valV_pos rfl
    · have e : valV (kvs f (y :: K)) (keyOf z) = valV (kvs f K) (keyOf z) := valV_neg fun q => h (keyOf_inj q)
      rw [e, valV_kvs]
      by_cases hz : z ∈ K
      · rw [if_pos hz, if_pos (List.mem_cons_of_mem _ hz)]
      · rw [if_neg hz, if_neg fun q => by
          rcases List.mem_cons.mp q with q | q
          · exact h q.symm
          · exact hz q]
theorem kvs_put {f : Nat × Nat → Int} {z : Nat × Nat} {K : List (Nat × Nat)} (h : z ∉ K) : putK (kvs f K) (keyOf z) (.int (f z)) = kvs f (K ++ [z]) := by
  rw [putK_new _ (by rw [valV_kvs, if_neg h])]
  unfold kvs
  rw [List.map_append]
  rfl
theorem kvs_len {f : Nat × Nat → Int} {K : List (Nat × Nat)} : (kvs f K).length = K.length := List.length_map ..
structure RdAt (CN CG CD : Addr) (H : Hp) (r g ln lr tx st kn wt : Addr) (G : Rd02.Gram) (as : List Addr) (t : List Int) (e : Nat) (Kn Pl : List (Nat × Nat)) (ws : List Addr) : Prop where
  obj : ∃ d, H r = some (.ins CD d (rdf g tx st kn wt))
  gram : GramAt CN CG H g ln lr G as
  text : H tx = some (.lst (t.map V.int))
  start : H st = some (.tup (ptv (e, 0)))
  known : H kn = some (.dT (kvs (valR G (Rd02Neutral.nats t)) Kn))
  wait : H wt = some (.lst (ws.map V.ref))
  wl : ws.length = Pl.length
  wat : ∀ (i : Nat) (a : Addr) (z : Nat × Nat), ws[i]? = some a → Pl[i]? = some z → H a = some (.tup (ptv z))
  n1 : wt ≠ ln
  n2 : wt ≠ lr
  n3 : wt ≠ tx
  bt : ∀ c ∈ t, 0 ≤ c ∧ c < 256
section
variable {CN CG CD : Addr} {H H' : Hp} {r g ln lr tx st kn wt : Addr} {G : Rd02.Gram} {as : List Addr} {t : List Int} {e : Nat} {Kn Pl : List (Nat × Nat)} {ws : List Addr}
theorem RdAt.same (D : RdAt CN CG CD H r g ln lr tx st kn wt G as t e Kn Pl ws) (k : Same H H') : RdAt CN CG CD H' r g ln lr tx st kn wt G as t e Kn Pl ws :=
  ⟨let ⟨d, x⟩ := D.obj; ⟨d, k _ _ x⟩, D.gram.same k, k _ _ D.text, k _ _ D.start, k _ _ D.known, k _ _ D.wait, D.wl, fun i a z h1 h2 => k _ _ (D.wat i a z h1 h2), D.n1, D.n2, D.n3, D.bt⟩
theorem GramAt.butL {ob : HO} {b : Addr} (A : GramAt CN CG H g ln lr G as) (hb : H b = some ob) (n1 : b ≠ ln) (n2 : b ≠ lr) (ni : ∀ C d fs, ob ≠ .ins C d fs) (k : But b H H') : GramAt CN CG H' g ln lr G as := by
  refine ⟨A.ok, ?_, k _ _ n1.symm A.nodes, k _ _ n2.symm A.rules, A.len, fun i a x h1 h2 => ?_⟩
  · obtain ⟨dg, x⟩ := A.obj
    exact ⟨dg, k _ _ (ne_of x hb fun z => ni _ _ _ z.symm) x⟩
  · obtain ⟨d', k', p', q', x, rr⟩ := A.node i a x h1 h2
    exact ⟨d', k', p', q', k _ _ (ne_of x hb fun z => ni _ _ _ z.symm) x, rr⟩
theorem RdAt.push (D : RdAt CN CG CD H r g ln lr tx st kn wt G as t e Kn Pl ws) {a : Addr} {z : Nat × Nat} (k : But wt H H') (hw : H' wt = some (.lst ((ws ++ [a]).map V.ref))) (ha : H' a = some (.tup (ptv z))) :
    RdAt CN CG CD H' r g ln lr tx st kn wt G as t e Kn (Pl ++ [z]) (ws ++ [a]) := by
  have hwt := D.wait
  refine ⟨?_, D.gram.butL hwt D.n1 D.n2 (fun _ _ _ z => nomatch z) k, k _ _ D.n3.symm D.text, k _ _ (ne_of D.start hwt fun z => nomatch z) D.start, k _ _ (ne_of D.known hwt fun z => nomatch z) D.known, hw, by rw [List.length_append, List.length_append, D.wl]; rfl, fun i b y h1 h2 => ?_, D.n1, D.n2, D.n3, D.bt⟩
  · obtain ⟨d, x⟩ := D.obj
    exact ⟨d, k _ _ (ne_of x hwt fun z => nomatch z) x⟩
  · by_cases hi : i < ws.length
    · rw [List.getElem?_append_left hi] at h1
      rw [List.getElem?_append_left (by rw [← D.wl]; exact hi)] at h2
      have := D.wat i b y h1 h2
      exact k _ _ (ne_of this hwt fun z => nomatch z) this
    · have e1 := (List.getElem?_eq_some_iff.mp h1).1
      rw [List.length_append, List.length_singleton] at e1
      have e2 : i = ws.length := by omega
      subst e2
      rw [List.getElem?_append_right (Nat.le_refl _), Nat.sub_self] at h1
      rw [D.wl, List.getElem?_append_right (Nat.le_refl _), Nat.sub_self] at h2
      cases h1
      cases h2
      exact ha
end
end Ow
set_option Elab.async false
set_option linter.all false
set_option maxRecDepth 100000
set_option maxHeartbeats 2000000
namespace Ow
open PySem PySem.Spec PyProof.Rows L2
local macro_rules | `(tactic| walk_at "rd") => `(tactic| simp only [tSeq, tIfS, tTest, tB, tOp, tUn, tVar, tC, tRet, tRetN, tDrop, tAsg, gName, gSub, tNext, tAnd, tOr, tNot, tAndV, tOrV, tNotV, tIf, tChain, tChain3, rI, rI0, rEq, rNe, scal, tCons, tNil, tLst, tTup, tCall, tMeth_eq, tFld_eq, tMake, tCB, tBM, tBM0, TruV, tIsN, tNotN, tDGet, tDIn, sDPut,
  L2.start, List.map_cons, List.map_nil, List.cons_append, List.nil_append, List.append_nil, List.length_cons, List.length_nil, List.replicate, List.getElem?_cons_zero, List.getElem?_cons_succ, List.set_cons_zero, List.set_cons_succ, Option.some.injEq, exists_and_left, exists_eq_left', exists_eq_left, V.int.injEq, V.bl.injEq, V.ref.injEq, V.str.injEq,
  true_and, and_true, exists_const, cxOf_K, nox_K, if_true, if_false, reduceIte, decide_eq_true_eq, Bool.not_eq_true, decide_eq_false_iff_not, List.cons.injEq, Nat.reduceAdd, Nat.reduceSub, reduceCtorEq])
section
variable {P : Program} {w : World} {K : PySem.W.Frag} {mg : Str → Option Value} {base : Heap} {CN CG CD : Addr}
abbrev sRdInit : Stmt := inClass (top 19) 0
abbrev sGo : Stmt := inClass (top 19) 1
abbrev sAsk : Stmt := inClass (top 19) 2
abbrev sCome : Stmt := inClass (top 19) 3
abbrev sByte : Stmt := inClass (top 19) 4
abbrev sBoth : Stmt := inClass (top 19) 5
abbrev sEither : Stmt := inClass (top 19) 6
abbrev sAgain : Stmt := inClass (top 19) 7
abbrev sAhead : Stmt := inClass (top 19) 8
abbrev sOut : Stmt := inClass (top 19) 9
abbrev sCount : Stmt := inClass (top 19) 10
def spRdInit (CD : Addr) : Sp := fun vs H Q _ => ∃ (p dx g tx st : Addr), vs = [.ref p, .ref g, .ref tx, .ref st] ∧ H p = some (.ins CD dx []) ∧
  ∀ (H' : Hp) (kn wt : Addr), H' p = some (.ins CD dx (rdf g tx st kn wt)) → H' kn = some (.dT []) → H' wt = some (.lst [.ref st]) → But p H H' → H kn = none → H wt = none → Q .non H'
theorem scRdInit : FnScope ["self", "grammar", "text", "start"] ["self", "grammar", "text", "start"] (defScope sRdInit) := ⟨rfl, rfl, rfl, by decide +kernel, rfl, by decide +kernel, by decide +kernel⟩
theorem ok_rd_init {f : Addr} {fd : FuncData} (F : Fun K "__init__" "Reading.__init__" sRdInit f fd) (T : TxD K mg CD) : FnOk P w K mg base CX0 1 f fd ["self", "grammar", "text", "start"] (spRdInit CD) := by
  refine F.ok scRdInit (fun vs H Q E h => ?_) (fun cdv A outer s H vs Q E hr h => ?_)
  · obtain ⟨p, dx, g, tx, st, rfl, _⟩ := h
    rfl
  · obtain ⟨p, dx, g, tx, st, rfl, hp, q⟩ := h
    refine ⟨_, pss_cons (ps_fld (pv 0) (pv 1) rfl) (pss_cons (ps_fld (pv 0) (pv 2) rfl) (pss_cons (ps_fld (pv 0) (pv 3) rfl) (pss_cons (ps_fld (pv 0) pe_dnewT rfl) (pss_one (ps_fld (pv 0) (pe_lst (pa_cons (pv 3) pa_nil)) rfl))))), ?_⟩
    refine ⟨_, rfl, _, rfl, p, CD, dx, _, rfl, hp, T.cD, T.ng, (by show 0 < 1000; decide), _, rfl, _, rfl, p, CD, dx, _, rfl, upd_same, T.cD, T.nt, (by show 1 < 1000; decide), _, rfl, _, rfl, p, CD, dx, _, rfl, upd_same, T.cD, T.ns, (by show 2 < 1000; decide), fun kn hkn => ?_⟩
    have np : p ≠ kn := fun z => by rw [← z, upd_same] at hkn; cases hkn
    refine ⟨_, rfl, p, CD, dx, _, rfl, by rw [upd_ne np]; exact upd_same, T.cD, T.nk, (by show 3 < 1000; decide), _, rfl, by show 1 ≤ sizeLine; decide, fun wt hwt => ?_⟩
    have np2 : p ≠ wt := fun z => by rw [← z, upd_same] at hwt; cases hwt
    have nkw : kn ≠ wt := fun z => by rw [← z, upd_ne np.symm, upd_same] at hwt; cases hwt
    refine ⟨_, rfl, p, CD, dx, _, rfl, by rw [upd_ne np2]; exact upd_same, T.cD, T.nw, (by show 4 < 1000; decide), ?_⟩
    rw [upd_ne np.symm, upd_ne np.symm, upd_ne np.symm] at hkn
    rw [upd_ne np2.symm, upd_ne nkw.symm, upd_ne np2.symm, upd_ne np2.symm, upd_ne np2.symm] at hwt
    refine q _ kn wt ?_ ?_ ?_ (fun b o hb e => ?_) hkn hwt
    · rw [upd_same]
      rfl
    · rw [upd_ne np.symm, upd_ne nkw, upd_ne np.symm, upd_same]
    · rw [upd_ne np2.symm, upd_same]
    · rw [upd_ne hb, upd_ne (ne_of_none e hwt), upd_ne hb, upd_ne (ne_of_none e hkn), upd_ne hb, upd_ne hb, upd_ne hb]
      exact e
def spCome (CN CG CD : Addr) : Sp := fun vs H Q _ => ∃ (r g ln lr tx st kn wt : Addr) (G : Rd02.Gram) (as : List Addr) (t : List Int) (e : Nat) (Kn Pl : List (Nat × Nat)) (ws : List Addr) (z : Nat × Nat), vs = [.ref r, .int (z.1 : Int), .int (z.2 : Int)] ∧
  RdAt CN CG CD H r g ln lr tx st kn wt G as t e Kn Pl ws ∧ Pl.length ≤ 3000 ∧ (z ∈ Kn → ∀ H', Same H H' → Q (.int (valR G (Rd02Neutral.nats t) z)) H') ∧
  (z ∉ Kn → ∀ H' a, RdAt CN CG CD H' r g ln lr tx st kn wt G as t e Kn (Pl ++ [z]) (ws ++ [a]) → But wt H H' → Q .non H')
theorem scCome : FnScope ["self", "number", "place", "asked"] ["self", "number", "place"] (defScope sCome) := ⟨rfl, rfl, rfl, by decide +kernel, rfl, by decide +kernel, by decide +kernel⟩
theorem ok_come {f : Addr} {fd : FuncData} (F : Mf K CD "come_of" "Reading.come_of" sCome ["self", "number", "place"] f fd) (T : TxD K mg CD) : FnOk P w K mg base CX0 1 f fd ["self", "number", "place"] (spCome CN CG CD) := by
  refine F.F.ok scCome (fun vs H Q E h => ?_) (fun cdv A outer s H vs Q E hr h => ?_)
  · obtain ⟨r, g, ln, lr, tx, st, kn, wt, G, as, t, e, Kn, Pl, ws, z, rfl, _⟩ := h
    rfl
  · obtain ⟨r, g, ln, lr, tx, st, kn, wt, G, as, t, e, Kn, Pl, ws, z, rfl, D, hl, q1, q2⟩ := h
    have hu := hu_of hr
    obtain ⟨d, hd⟩ := D.obj
    refine ⟨_, pss_cons (ps_set (i := 3) scCome.nd rfl (Or.inl rfl) (pe_tup (pa_cons (pv 1) (pa_cons (pv 2) pa_nil)))) (pss_cons (ps_if (pt_cmp (pc_din hu (pv 3) (pe_fld (pv 0) rfl))) (pss_one (ps_ret (pe_dget hu (pe_fld (pv 0) rfl) (pv 3) (fun _ _ => rfl)))) pss_nil)
      (pss_cons (ps_expr (pe_bm PySem.F.plainAttrs_list PySem.F.slot_list_append PySem.F.type_list_append mt_append (pe_fld (pv 0) rfl) (pa_cons (pv 3) pa_nil))) (pss_one (ps_ret pe_non)))), ?_⟩
    walk_at "rd"
    refine ⟨by show 2 ≤ sizeLine; decide, fun p hp => ?_⟩
    have s1 := Same.upd_new (o := HO.tup [.int (z.1 : Int), .int (z.2 : Int)]) hp
    have hd1 := s1 _ _ hd
    have D1 := D.same s1
    have ht : upd H p (.tup [.int (z.1 : Int), .int (z.2 : Int)]) p = some (.tup ((keyOf z).map kV)) := upd_same
    rw [fldAt_of hd1 T.cD T.nk rdf_known]
    refine ⟨kn, rfl, _, DGet.t D1.known ht, ?_⟩
    rw [valV_kvs]
    by_cases hz : z ∈ Kn
    · rw [if_pos hz]
      simp only [Option.isSome_some, if_true, reduceIte]
      rw [fldAt_of hd1 T.cD T.nk rdf_known]
      refine ⟨kn, rfl, _, ?_, q1 hz _ s1⟩
      have := DGet.t (k := keyOf z) D1.known ht
      rw [valV_kvs, if_pos hz] at this
      exact this
    · rw [if_neg hz]
      simp only [Option.isSome_none, if_false, reduceIte, Bool.false_eq_true]
      rw [fldAt_of hd1 T.cD T.nw rdf_waiting]
      refine ⟨.inl ⟨rfl, _, SqL.of D1.wait⟩, wt, _, _, rfl, rfl, D1.wait, ?_, ?_⟩
      · rw [List.length_map, D.wl]
        exact Nat.lt_of_le_of_lt hl (by decide)
      · have kb : But wt H (upd (upd H p (.tup [.int (z.1 : Int), .int (z.2 : Int)])) wt (.lst (ws.map V.ref ++ [.ref p]))) := fun b o hb x => by
          rw [upd_ne hb]
          exact s1 _ _ x
        have pw : p ≠ wt := fun x => by rw [x, D.wait] at hp; cases hp
        refine q2 hz _ p (D.push kb ?_ ?_) kb
        · rw [upd_same, List.map_append]
          rfl
        · rw [upd_ne pw]
          exact upd_same
end
end Ow
set_option Elab.async false
set_option linter.all false
set_option maxRecDepth 100000
set_option maxHeartbeats 2000000
namespace Ow
open PySem PySem.Spec PyProof.Rows L2
local macro_rules | `(tactic| walk_at "rd") => `(tactic| simp only [tSeq, tIfS, tTest, tB, tOp, tUn, tVar, tC, tRet, tRetN, tDrop, tAsg, gName, gSub, tNext, tAnd, tOr, tNot, tAndV, tOrV, tNotV, tIf, tChain, tChain3, rI, rI0, rEq, rNe, scal, tCons, tNil, tLst, tTup, tCall, tMeth_eq, tFld_eq, tMake, tCB, tBM, tBM0, TruV, tIsN, tNotN, tDGet, tDIn, sDPut,
  L2.start, List.map_cons, List.map_nil, List.cons_append, List.nil_append, List.append_nil, List.length_cons, List.length_nil, List.replicate, List.getElem?_cons_zero, List.getElem?_cons_succ, List.set_cons_zero, List.set_cons_succ, Option.some.injEq, exists_and_left, exists_eq_left', exists_eq_left, V.int.injEq, V.bl.injEq, V.ref.injEq, V.str.injEq,
  true_and, and_true, exists_const, cxOf_K, nox_K, if_true, if_false, reduceIte, decide_eq_true_eq, Bool.not_eq_true, decide_eq_false_iff_not, List.cons.injEq, Nat.reduceAdd, Nat.reduceSub, reduceCtorEq])
section
variable {G : Rd02.Gram} {s : List Nat} {z : Nat × Nat}
theorem asks3 (hk : (Rd02.node G z.1).kind = 3) : asksR G s z = ((Rd02.node G z.1).a, z.2) :: (match R1 G s (Rd02.node G z.1).a z.2 with | some j => [((Rd02.node G z.1).b, j)] | none => []) := by
  unfold asksR R1
  simp only []
  rw [if_neg (by omega), if_pos hk]
  cases R G s (Rd02.node G z.1).a z.2 with
  | mk y t => cases y <;> rfl
theorem asks4 (hk : (Rd02.node G z.1).kind = 4) : asksR G s z = ((Rd02.node G z.1).a, z.2) :: (match R1 G s (Rd02.node G z.1).a z.2 with | some j => [] | none => [((Rd02.node G z.1).b, z.2)]) := by
  unfold asksR R1
  simp only []
  rw [if_neg (by omega), if_neg (by omega), if_pos hk]
  cases R G s (Rd02.node G z.1).a z.2 with
  | mk y t => cases y <;> rfl
theorem asks5 (hk : (Rd02.node G z.1).kind = 5) : asksR G s z = ((Rd02.node G z.1).a, z.2) :: (match R1 G s (Rd02.node G z.1).a z.2 with | some j => [(z.1, j)] | none => []) := by
  unfold asksR R1
  simp only []
  rw [if_neg (by omega), if_neg (by omega), if_neg (by omega), if_pos hk]
  cases R G s (Rd02.node G z.1).a z.2 with
  | mk y t => cases y <;> rfl
theorem asks6 (hk : (Rd02.node G z.1).kind = 6) : asksR G s z = [((Rd02.node G z.1).a, z.2)] := by
  unfold asksR
  simp only []
  rw [if_neg (by omega), if_neg (by omega), if_neg (by omega), if_neg (by omega), if_pos hk]
theorem asks7 {d : Nat} (hk : (Rd02.node G z.1).kind = 7) (hd : Rd02.bodyOf G (Rd02.node G z.1).a = some d) : asksR G s z = [(d, z.2)] := by
  unfold asksR
  simp only []
  rw [if_neg (by omega), if_neg (by omega), if_neg (by omega), if_neg (by omega), if_neg (by omega), hd]
theorem asks0 (hk : (Rd02.node G z.1).kind < 3) : asksR G s z = [] := by
  unfold asksR
  simp only []
  rw [if_pos hk]
theorem Reach.one {w : Nat × Nat} (h : w ∈ asksR G s z) : Reach G s z w := .step z w .refl h
theorem cov_of {K : List (Nat × Nat)} (h5 : (Rd02.node G z.1).kind ≠ 5) (h : ∀ w ∈ asksR G s z, w ∈ K) : Cov G s z K := ⟨fun _ => h, fun q => absurd q h5⟩
end
structure Ends' (CN CG CD : Addr) (H : Hp) (r g ln lr tx st kn wt : Addr) (G : Rd02.Gram) (as : List Addr) (t : List Int) (e : Nat) (Kn Pl : List (Nat × Nat)) (ws : List Addr) (rank : Nat → Nat) (z : Nat × Nat) (Q : VK) : Prop where
  done : ∀ H', Same H H' → Cov G (Rd02Neutral.nats t) z Kn → Q (.int (valR G (Rd02Neutral.nats t) z)) H'
  wait : ∀ H' a w, w ∉ Kn → Lt rank w z → Reach G (Rd02Neutral.nats t) z w → RdAt CN CG CD H' r g ln lr tx st kn wt G as t e Kn (Pl ++ [w]) (ws ++ [a]) → But wt H H' → Q .non H'
def spNode (CN CG CD : Addr) (k : Nat) : Sp := fun vs H Q _ => ∃ (r g ln lr tx st kn wt : Addr) (G : Rd02.Gram) (as : List Addr) (t : List Int) (e : Nat) (Kn Pl : List (Nat × Nat)) (ws : List Addr) (rank : Nat → Nat) (z : Nat × Nat) (na : Addr), vs = [.ref r, .ref na, .int (z.2 : Int)] ∧
  RdAt CN CG CD H r g ln lr tx st kn wt G as t e Kn Pl ws ∧ Pl.length ≤ 3000 ∧ Rd02.sound G = true ∧ RankOk G rank ∧ z.1 < G.nodes.length ∧ z.2 ≤ (Rd02Neutral.nats t).length ∧ as[z.1]? = some na ∧ (Rd02.node G z.1).kind = k ∧
  Ends' CN CG CD H r g ln lr tx st kn wt G as t e Kn Pl ws rank z Q
section
variable {P : Program} {w : World} {K : PySem.W.Frag} {mg : Str → Option Value} {base : Heap} {CN CG CD : Addr}
theorem But.after {b : Addr} {H H1 H2 : Hp} (s : Same H H1) (k : But b H1 H2) : But b H H2 := fun c o hc e => k c o hc (s c o e)
theorem scBoth' : FnScope ["self", "node", "place", "middle"] ["self", "node", "place"] (defScope sBoth) := ⟨rfl, rfl, rfl, by decide +kernel, rfl, by decide +kernel, by decide +kernel⟩
theorem ok_ask_both {f fC : Addr} {fd fdC : FuncData} (F : Mf K CD "ask_both" "Reading.ask_both" sBoth ["self", "node", "place"] f fd) (T : Tx K mg CN CG) (TD : TxD K mg CD) (FC : Mf K CD "come_of" "Reading.come_of" sCome ["self", "number", "place"] fC fdC) :
    FnOk P w K mg base CX0 2 f fd ["self", "node", "place"] (spNode CN CG CD 3) := by
  have GC : FnOk P w K mg base CX0 1 fC fdC _ (spCome CN CG CD) := ok_come FC TD
  refine F.F.ok scBoth' (fun vs H Q E h => ?_) (fun cdv A outer s H vs Q E hr h => ?_)
  · obtain ⟨r, g, ln, lr, tx, st, kn, wt, G, as, t, e, Kn, Pl, ws, rank, z, na, rfl, _⟩ := h
    rfl
  · obtain ⟨r, g, ln, lr, tx, st, kn, wt, G, as, t, e, Kn, Pl, ws, rank, z, na, rfl, D, hl, S, RK, he, hi, hna, hk, q⟩ := h
    have W := D.gram.ok.toWf
    obtain ⟨d, hd⟩ := D.obj
    obtain ⟨dn, k, pa, pb, hn, rel⟩ := D.gram.node z.1 na _ hna (node_at he)
    obtain ⟨rfl, rfl⟩ := rel.two (.inr (.inl hk))
    obtain ⟨la, lb⟩ := W.two z.1 _ (node_at he) (.inl hk)
    refine ⟨_, pss_cons (ps_set (i := 3) scBoth'.nd rfl (Or.inl rfl) (pe_meth (pv 0) TD.cD FC.at_ GC hr FC.b .nil pass0 (pa_cons (pe_fld (pv 1) rfl) (pa_cons (pv 2) pa_nil))))
      (pss_cons (ps_if (PW.pt (pw_or (pt_cmp (pc_isN (pv 3))) (pw_or1 (pt_cmpR op_eq (pv 3) (pcst (T.k "FAILED" (-2))) (nomark _))))) (pss_one (ps_ret (pv 3))) pss_nil)
      (pss_one (ps_ret (pe_meth (pv 0) TD.cD FC.at_ GC hr FC.b .nil pass0 (pa_cons (pe_fld (pv 1) rfl) (pa_cons (pv 3) pa_nil)))))), ?_⟩
    walk_at "rd"
    rw [hasM_of hd (rdf_no (by decide +kernel)), fldAt_of hn T.cN T.na nf_a]
    refine ⟨r, g, ln, lr, tx, st, kn, wt, G, as, t, e, Kn, Pl, ws, ((Rd02.node G z.1).a, z.2), rfl, D, hl, fun hin H1 s1 => ?_, fun hout H1 a D1 k1 => ?_⟩
    · walk_at "rd"
      have D1 := D.same s1
      obtain ⟨d1, hd1⟩ := D1.obj
      obtain ⟨t1, t2⟩ := r_three W S he hi hk
      by_cases hf : R1 G (Rd02Neutral.nats t) (Rd02.node G z.1).a z.2 = none
      · have ev : valR G (Rd02Neutral.nats t) ((Rd02.node G z.1).a, z.2) = -2 := codeR_fail.mpr hf
        have ev2 : valR G (Rd02Neutral.nats t) z = -2 := codeR_fail.mpr (by show (R G _ z.1 z.2).1 = none; rw [t1 hf])
        rw [ev, if_pos rfl]
        have := q.done H1 s1 (cov_of (by omega) fun w hw => by
          rw [asks3 hk, hf] at hw
          rw [List.mem_singleton.mp hw]
          exact hin)
        rw [ev2] at this
        exact this
      · obtain ⟨j, hj⟩ := Option.ne_none_iff_exists'.mp hf
        have ev : valR G (Rd02Neutral.nats t) ((Rd02.node G z.1).a, z.2) = (j : Int) := by unfold valR; rw [hj]; rfl
        rw [ev, if_neg (by omega)]
        have hjl := r1_le W S la hi hj
        rw [hasM_of hd1 (rdf_no (by decide +kernel)), fldAt_of (s1 _ _ hn) T.cN T.nb nf_b]
        have as3 := asks3 (s := Rd02Neutral.nats t) hk
        rw [hj] at as3
        refine ⟨r, g, ln, lr, tx, st, kn, wt, G, as, t, e, Kn, Pl, ws, ((Rd02.node G z.1).b, j), rfl, D1, hl, fun hin2 H2 s2 => ?_, fun hout2 H2 a D2 k2 => ?_⟩
        · have ev2 : valR G (Rd02Neutral.nats t) z = valR G (Rd02Neutral.nats t) ((Rd02.node G z.1).b, j) := by
            unfold valR
            congr 1
            show (R G _ z.1 z.2).1 = R1 G _ (Rd02.node G z.1).b j
            cases qb : R1 G (Rd02Neutral.nats t) (Rd02.node G z.1).b j with
            | none => rw [(t2 j hj).1 qb]
            | some y => rw [(t2 j hj).2 y qb]
          rw [← ev2]
          refine q.done H2 (s1.trans s2) (cov_of (by omega) fun w hw => ?_)
          rw [as3] at hw
          rcases List.mem_cons.mp hw with rfl | hw
          · exact hin
          · rw [List.mem_singleton.mp hw]
            exact hin2
        · refine q.wait H2 a _ hout2 ?_ (.one (by rw [as3]; exact List.mem_cons_of_mem _ (List.mem_singleton.mpr rfl))) D2 (But.after s1 k2)
          by_cases hz : j = z.2
          · refine .inr ⟨hz, ?_⟩
            rw [hz] at hj
            exact three_low W S RK he hi hk hj
          · exact .inl (by show z.2 < j; omega)
    · walk_at "rd"
      exact q.wait H1 a _ hout (.inr ⟨rfl, (RK.three z.1 he hk).1⟩) (.one (by rw [asks3 hk]; exact List.mem_cons_self)) D1 k1
theorem scEither' : FnScope ["self", "node", "place", "first"] ["self", "node", "place"] (defScope sEither) := ⟨rfl, rfl, rfl, by decide +kernel, rfl, by decide +kernel, by decide +kernel⟩
theorem ok_ask_either {f fC : Addr} {fd fdC : FuncData} (F : Mf K CD "ask_either" "Reading.ask_either" sEither ["self", "node", "place"] f fd) (T : Tx K mg CN CG) (TD : TxD K mg CD) (FC : Mf K CD "come_of" "Reading.come_of" sCome ["self", "number", "place"] fC fdC) :
    FnOk P w K mg base CX0 2 f fd ["self", "node", "place"] (spNode CN CG CD 4) := by
  have GC : FnOk P w K mg base CX0 1 fC fdC _ (spCome CN CG CD) := ok_come FC TD
  refine F.F.ok scEither' (fun vs H Q E h => ?_) (fun cdv A outer s H vs Q E hr h => ?_)
  · obtain ⟨r, g, ln, lr, tx, st, kn, wt, G, as, t, e, Kn, Pl, ws, rank, z, na, rfl, _⟩ := h
    rfl
  · obtain ⟨r, g, ln, lr, tx, st, kn, wt, G, as, t, e, Kn, Pl, ws, rank, z, na, rfl, D, hl, S, RK, he, hi, hna, hk, q⟩ := h
    have W := D.gram.ok.toWf
    obtain ⟨d, hd⟩ := D.obj
    obtain ⟨dn, k, pa, pb, hn, rel⟩ := D.gram.node z.1 na _ hna (node_at he)
    obtain ⟨rfl, rfl⟩ := rel.two (.inr (.inr hk))
    obtain ⟨la, lb⟩ := W.two z.1 _ (node_at he) (.inr hk)
    obtain ⟨ra, rb⟩ := RK.four z.1 he hk
    refine ⟨_, pss_cons (ps_set (i := 3) scEither'.nd rfl (Or.inl rfl) (pe_meth (pv 0) TD.cD FC.at_ GC hr FC.b .nil pass0 (pa_cons (pe_fld (pv 1) rfl) (pa_cons (pv 2) pa_nil))))
      (pss_cons (ps_if (pt_cmpR op_eq (pv 3) (pcst (T.k "FAILED" (-2))) (nomark _)) (pss_one (ps_ret (pe_meth (pv 0) TD.cD FC.at_ GC hr FC.b .nil pass0 (pa_cons (pe_fld (pv 1) rfl) (pa_cons (pv 2) pa_nil))))) pss_nil)
      (pss_one (ps_ret (pv 3)))), ?_⟩
    walk_at "rd"
    rw [hasM_of hd (rdf_no (by decide +kernel)), fldAt_of hn T.cN T.na nf_a]
    refine ⟨r, g, ln, lr, tx, st, kn, wt, G, as, t, e, Kn, Pl, ws, ((Rd02.node G z.1).a, z.2), rfl, D, hl, fun hin H1 s1 => ?_, fun hout H1 a D1 k1 => ?_⟩
    · walk_at "rd"
      have D1 := D.same s1
      obtain ⟨d1, hd1⟩ := D1.obj
      obtain ⟨t1, t2⟩ := r_four W S he hi hk
      have as4 := asks4 (s := Rd02Neutral.nats t) hk
      by_cases hf : R1 G (Rd02Neutral.nats t) (Rd02.node G z.1).a z.2 = none
      · have ev : valR G (Rd02Neutral.nats t) ((Rd02.node G z.1).a, z.2) = -2 := codeR_fail.mpr hf
        rw [hf] at as4
        rw [ev, if_pos rfl]
        rw [hasM_of hd1 (rdf_no (by decide +kernel)), fldAt_of (s1 _ _ hn) T.cN T.nb nf_b]
        refine ⟨r, g, ln, lr, tx, st, kn, wt, G, as, t, e, Kn, Pl, ws, ((Rd02.node G z.1).b, z.2), rfl, D1, hl, fun hin2 H2 s2 => ?_, fun hout2 H2 a D2 k2 => ?_⟩
        · have ev2 : valR G (Rd02Neutral.nats t) z = valR G (Rd02Neutral.nats t) ((Rd02.node G z.1).b, z.2) := by
            unfold valR
            congr 1
            show (R G _ z.1 z.2).1 = _
            rw [t1 hf]
          rw [← ev2]
          refine q.done H2 (s1.trans s2) (cov_of (by omega) fun w hw => ?_)
          rw [as4] at hw
          rcases List.mem_cons.mp hw with rfl | hw
          · exact hin
          · rw [List.mem_singleton.mp hw]
            exact hin2
        · exact q.wait H2 a _ hout2 (.inr ⟨rfl, rb⟩) (.one (by rw [as4]; exact List.mem_cons_of_mem _ (List.mem_singleton.mpr rfl))) D2 (But.after s1 k2)
      · obtain ⟨j, hj⟩ := Option.ne_none_iff_exists'.mp hf
        rw [hj] at as4
        have ev : valR G (Rd02Neutral.nats t) ((Rd02.node G z.1).a, z.2) = valR G (Rd02Neutral.nats t) z := by
          unfold valR
          congr 1
          show _ = (R G _ z.1 z.2).1
          rw [t2 j hj]
        have ev2 : valR G (Rd02Neutral.nats t) ((Rd02.node G z.1).a, z.2) ≠ -2 := fun x => hf (codeR_fail.mp x)
        rw [if_neg ev2, ev]
        refine q.done H1 s1 (cov_of (by omega) fun w hw => ?_)
        rw [as4] at hw
        rw [List.mem_singleton.mp hw]
        exact hin
    · walk_at "rd"
      exact q.wait H1 a _ hout (.inr ⟨rfl, ra⟩) (.one (by rw [asks4 hk]; exact List.mem_cons_self)) D1 k1
theorem scAhead' : FnScope ["self", "node", "place", "behind"] ["self", "node", "place"] (defScope sAhead) := ⟨rfl, rfl, rfl, by decide +kernel, rfl, by decide +kernel, by decide +kernel⟩
theorem ok_ask_ahead {f fC : Addr} {fd fdC : FuncData} (F : Mf K CD "ask_not_ahead" "Reading.ask_not_ahead" sAhead ["self", "node", "place"] f fd) (T : Tx K mg CN CG) (TD : TxD K mg CD) (FC : Mf K CD "come_of" "Reading.come_of" sCome ["self", "number", "place"] fC fdC) :
    FnOk P w K mg base CX0 2 f fd ["self", "node", "place"] (spNode CN CG CD 6) := by
  have GC : FnOk P w K mg base CX0 1 fC fdC _ (spCome CN CG CD) := ok_come FC TD
  refine F.F.ok scAhead' (fun vs H Q E h => ?_) (fun cdv A outer s H vs Q E hr h => ?_)
  · obtain ⟨r, g, ln, lr, tx, st, kn, wt, G, as, t, e, Kn, Pl, ws, rank, z, na, rfl, _⟩ := h
    rfl
  · obtain ⟨r, g, ln, lr, tx, st, kn, wt, G, as, t, e, Kn, Pl, ws, rank, z, na, rfl, D, hl, S, RK, he, hi, hna, hk, q⟩ := h
    have W := D.gram.ok.toWf
    obtain ⟨d, hd⟩ := D.obj
    obtain ⟨dn, k, pa, pb, hn, rel⟩ := D.gram.node z.1 na _ hna (node_at he)
    obtain rfl := rel.one (.inr (.inl hk))
    have la := W.one z.1 _ (node_at he) (.inr hk)
    have ra := RK.six z.1 he hk
    refine ⟨_, pss_cons (ps_set (i := 3) scAhead'.nd rfl (Or.inl rfl) (pe_meth (pv 0) TD.cD FC.at_ GC hr FC.b .nil pass0 (pa_cons (pe_fld (pv 1) rfl) (pa_cons (pv 2) pa_nil))))
      (pss_cons (ps_if (pt_cmp (pc_isN (pv 3))) (pss_one (ps_ret pe_non)) pss_nil)
      (pss_one (ps_ret (pe_ifExp (pt_cmpR op_eq (pv 3) (pcst (T.k "FAILED" (-2))) (nomark _)) (pv 2) (pcst (T.k "FAILED" (-2))))))), ?_⟩
    walk_at "rd"
    rw [hasM_of hd (rdf_no (by decide +kernel)), fldAt_of hn T.cN T.na nf_a]
    refine ⟨r, g, ln, lr, tx, st, kn, wt, G, as, t, e, Kn, Pl, ws, ((Rd02.node G z.1).a, z.2), rfl, D, hl, fun hin H1 s1 => ?_, fun hout H1 a D1 k1 => ?_⟩
    · walk_at "rd"
      obtain ⟨t1, t2⟩ := r_six W S he hi hk
      have cv : Cov G (Rd02Neutral.nats t) z Kn := cov_of (by omega) fun w hw => by
        rw [asks6 hk] at hw
        rw [List.mem_singleton.mp hw]
        exact hin
      have := q.done H1 s1 cv
      by_cases hf : R1 G (Rd02Neutral.nats t) (Rd02.node G z.1).a z.2 = none
      · have ev : valR G (Rd02Neutral.nats t) ((Rd02.node G z.1).a, z.2) = -2 := codeR_fail.mpr hf
        have ev2 : valR G (Rd02Neutral.nats t) z = (z.2 : Int) := by
          unfold valR
          show codeR (R G _ z.1 z.2).1 = _
          rw [t1 hf]
          rfl
        rw [ev2] at this
        rw [ev]
        rw [if_pos rfl]
        exact this
      · obtain ⟨j, hj⟩ := Option.ne_none_iff_exists'.mp hf
        have ev2 : valR G (Rd02Neutral.nats t) z = -2 := by
          unfold valR
          show codeR (R G _ z.1 z.2).1 = _
          rw [t2 j hj]
          rfl
        have ev : valR G (Rd02Neutral.nats t) ((Rd02.node G z.1).a, z.2) ≠ -2 := fun x => hf (codeR_fail.mp x)
        rw [ev2] at this
        rw [if_neg ev]
        exact this
    · walk_at "rd"
      exact q.wait H1 a _ hout (.inr ⟨rfl, ra⟩) (.one (by rw [asks6 hk]; exact List.mem_cons_self)) D1 k1
end
end Ow
set_option Elab.async false
set_option linter.all false
set_option maxRecDepth 100000
set_option maxHeartbeats 2000000
namespace Ow
open PySem PySem.Spec PyProof.Rows L2
local macro_rules | `(tactic| walk_at "rd") => `(tactic| simp only [tSeq, tIfS, tTest, tB, tOp, tUn, tVar, tC, tRet, tRetN, tDrop, tAsg, gName, gSub, tNext, tAnd, tOr, tNot, tAndV, tOrV, tNotV, tIf, tChain, tChain3, rI, rI0, rEq, rNe, scal, tCons, tNil, tLst, tTup, tCall, tMeth_eq, tFld_eq, tMake, tCB, tBM, tBM0, TruV, tIsN, tNotN, tDGet, tDIn, sDPut,
  L2.start, List.map_cons, List.map_nil, List.cons_append, List.nil_append, List.append_nil, List.length_cons, List.length_nil, List.replicate, List.getElem?_cons_zero, List.getElem?_cons_succ, List.set_cons_zero, List.set_cons_succ, Option.some.injEq, exists_and_left, exists_eq_left', exists_eq_left, V.int.injEq, V.bl.injEq, V.ref.injEq, V.str.injEq,
  true_and, and_true, exists_const, cxOf_K, nox_K, if_true, if_false, reduceIte, decide_eq_true_eq, Bool.not_eq_true, decide_eq_false_iff_not, List.cons.injEq, Nat.reduceAdd, Nat.reduceSub, reduceCtorEq])
section
variable {P : Program} {w : World} {K : PySem.W.Frag} {mg : Str → Option Value} {base : Heap} {CN CG CD : Addr}
theorem nats_len (t : List Int) : (Rd02Neutral.nats t).length = t.length := List.length_map ..
theorem nats_at {t : List Int} {i : Nat} {c : Int} (h : t[i]? = some c) : (Rd02Neutral.nats t)[i]? = some c.toNat := by
  unfold Rd02Neutral.nats
  rw [List.getElem?_map, h]
  rfl
def spByte (CN CG CD : Addr) : Sp := fun vs H Q _ => ∃ (r g ln lr tx st kn wt : Addr) (G : Rd02.Gram) (as : List Addr) (t : List Int) (e : Nat) (Kn Pl : List (Nat × Nat)) (ws : List Addr) (lo hi p : Nat), vs = [.ref r, .int (lo : Int), .int (hi : Int), .int (p : Int)] ∧
  RdAt CN CG CD H r g ln lr tx st kn wt G as t e Kn Pl ws ∧ Q (.int (codeR (if ((Rd02Neutral.nats t)[p]?).any (fun c => decide (lo ≤ c) && decide (c ≤ hi)) = true then some (p + 1) else none))) H
theorem scByte : FnScope ["self", "low", "high", "place"] ["self", "low", "high", "place"] (defScope sByte) := ⟨rfl, rfl, rfl, by decide +kernel, rfl, by decide +kernel, by decide +kernel⟩
theorem ok_byte {f : Addr} {fd : FuncData} (F : Mf K CD "ask_byte" "Reading.ask_byte" sByte ["self", "low", "high", "place"] f fd) (T : Tx K mg CN CG) (TD : TxD K mg CD) : FnOk P w K mg base CX0 1 f fd ["self", "low", "high", "place"] (spByte CN CG CD) := by
  refine F.F.ok scByte (fun vs H Q E h => ?_) (fun cdv A outer s H vs Q E hr h => ?_)
  · obtain ⟨r, g, ln, lr, tx, st, kn, wt, G, as, t, e, Kn, Pl, ws, lo, hi, p, rfl, _⟩ := h
    rfl
  · obtain ⟨r, g, ln, lr, tx, st, kn, wt, G, as, t, e, Kn, Pl, ws, lo, hi, p, rfl, D, q⟩ := h
    obtain ⟨d, hd⟩ := D.obj
    refine ⟨_, pss_cons (ps_if (PW.pt (pw_and (pt_cmpR op_lt (pv 3) (pe_callB call_lenT (by rfl) TD.len PySem.boot_len (pa_cons (pe_fld (pv 0) rfl) pa_nil)) (nomark _)) (pw_and1 (pt_chain op_le op_le (pv 1) (pe_ix ix_H (pe_fld (pv 0) rfl) (pv 3) (fun _ _ => rfl)) (pv 2)))))
      (pss_one (ps_ret (pe_op op_add (pv 3) pe_int))) pss_nil) (pss_one (ps_ret (pcst (T.k "FAILED" (-2))))), ?_⟩
    walk_at "rd"
    rw [fldAt_of hd TD.cD TD.nt rdf_text, rLenT_of D.text]
    walk_at "rd"
    rw [List.length_map]
    have no : ∀ b : Bool, b = false → Q (.int (codeR (if b = true then some (p + 1) else none))) H → Q (.int (-2)) H := fun b hb x => by
      rw [hb] at x
      exact x
    refine ifp (fun h => ?_) fun h => ?_
    · have hp : p < t.length := by omega
      have hc : t[p]? = some t[p] := List.getElem?_eq_getElem hp
      have hb := D.bt _ (List.getElem_mem hp)
      generalize t[p] = c at hc hb
      rw [fldAt_of hd TD.cD TD.nt rdf_text, rIxH_of D.text (v := .int c) (atI_nat (by rw [List.getElem?_map, hc]; rfl))]
      walk_at "rd"
      rw [nats_at hc] at q
      have ea : (some c.toNat).any (fun c => decide (lo ≤ c) && decide (c ≤ hi)) = (decide ((lo : Int) ≤ c) && decide (c ≤ (hi : Int))) := by
        show (decide (lo ≤ c.toNat) && decide (c.toNat ≤ hi)) = _
        congr 1
        · exact decide_eq_decide.mpr (by omega)
        · exact decide_eq_decide.mpr (by omega)
      rw [ea] at q
      refine ifp (fun h1 => ?_) fun h1 => ?_
      · refine ifp (fun h2 => ?_) fun h2 => ?_
        · rw [decide_eq_true h1, decide_eq_true h2] at q
          exact q
        · rw [decide_eq_false h2, Bool.and_false] at q
          exact no _ rfl q
      · rw [decide_eq_false h1, Bool.false_and] at q
        exact no _ rfl q
    · have hc : (Rd02Neutral.nats t)[p]? = none := List.getElem?_eq_none (by rw [nats_len]; omega)
      rw [hc] at q
      exact no _ rfl q
theorem scAgain : FnScope ["self", "node", "place", "reached", "behind"] ["self", "node", "place"] (defScope sAgain) := ⟨rfl, rfl, rfl, by decide +kernel, rfl, by decide +kernel, by decide +kernel⟩
theorem ok_ask_again {f fC : Addr} {fd fdC : FuncData} (F : Mf K CD "ask_again" "Reading.ask_again" sAgain ["self", "node", "place"] f fd) (T : Tx K mg CN CG) (TD : TxD K mg CD) (FC : Mf K CD "come_of" "Reading.come_of" sCome ["self", "number", "place"] fC fdC) :
    FnOk P w K mg base CX0 2 f fd ["self", "node", "place"] (spNode CN CG CD 5) := by
  have GC : FnOk P w K mg base CX0 1 fC fdC _ (spCome CN CG CD) := ok_come FC TD
  refine F.F.ok scAgain (fun vs H Q E h => ?_) (fun cdv A outer s H vs Q E hr h => ?_)
  · obtain ⟨r, g, ln, lr, tx, st, kn, wt, G, as, t, e, Kn, Pl, ws, rank, z, na, rfl, _⟩ := h
    rfl
  · obtain ⟨r, g, ln, lr, tx, st, kn, wt, G, as, t, e, Kn, Pl, ws, rank, z, na, rfl, D, hl, S, RK, he, hi, hna, hk, q⟩ := h
    have W := D.gram.ok.toWf
    obtain ⟨d, hd⟩ := D.obj
    obtain ⟨dn, k, pa, pb, hn, rel⟩ := D.gram.node z.1 na _ hna (node_at he)
    obtain rfl := rel.one (.inl hk)
    have la := W.one z.1 _ (node_at he) (.inl hk)
    have ra := (RK.five z.1 he hk).1
    refine ⟨_, pss_cons (ps_set (i := 3) scAgain.nd rfl (Or.inl rfl) (pv 2)) (pss_cons (ps_set (i := 4) scAgain.nd rfl (Or.inl rfl) (pe_meth (pv 0) TD.cD FC.at_ GC hr FC.b .nil pass0 (pa_cons (pe_fld (pv 1) rfl) (pa_cons (pv 3) pa_nil))))
      (pss_cons (ps_while PassesOwn.never (PW.pt (pw_and (pt_cmp (pc_notN (pv 4))) (pw_and1 (pt_cmpR op_ne (pv 4) (pcst (T.k "FAILED" (-2))) (nomark _)))))
        (pss_cons (ps_set (i := 3) scAgain.nd rfl (Or.inl rfl) (pv 4)) (pss_one (ps_set (i := 4) scAgain.nd rfl (Or.inl rfl) (pe_meth (pv 0) TD.cD FC.at_ GC hr FC.b .nil pass0 (pa_cons (pe_fld (pv 1) rfl) (pa_cons (pv 3) pa_nil)))))))
      (pss_one (ps_ret (pe_ifExp (pt_cmp (pc_isN (pv 4))) pe_non (pv 3)))))), ?_⟩
    walk_at "rd"
    rw [hasM_of hd (rdf_no (by decide +kernel)), fldAt_of hn T.cN T.na nf_a]
    let Wv : Nat → L2.St → Hp → Prop := fun m σ H1 => ∃ j : Nat, (z.2 ≤ j ∧ j ≤ (Rd02Neutral.nats t).length ∧ Reach G (Rd02Neutral.nats t) z (z.1, j) ∧ R1 G (Rd02Neutral.nats t) z.1 z.2 = R1 G (Rd02Neutral.nats t) z.1 j ∧
        (∀ q', Chain G (Rd02Neutral.nats t) (Rd02.node G z.1).a z.2 q' → ((Rd02.node G z.1).a, q') ∈ Kn ∨ Chain G (Rd02Neutral.nats t) (Rd02.node G z.1).a j q')) ∧
      ((m = (Rd02Neutral.nats t).length - j + 1 ∧ ((Rd02.node G z.1).a, j) ∈ Kn ∧ Same H H1 ∧ σ = [some (.ref r), some (.ref na), some (.int (z.2 : Int)), some (.int (j : Int)), some (.int (valR G (Rd02Neutral.nats t) ((Rd02.node G z.1).a, j)))]) ∨
       (m = 0 ∧ ((Rd02.node G z.1).a, j) ∉ Kn ∧ (∃ a, RdAt CN CG CD H1 r g ln lr tx st kn wt G as t e Kn (Pl ++ [((Rd02.node G z.1).a, j)]) (ws ++ [a])) ∧ But wt H H1 ∧ σ = [some (.ref r), some (.ref na), some (.int (z.2 : Int)), some (.int (j : Int)), some .non]))
    have base0 : z.2 ≤ z.2 ∧ z.2 ≤ (Rd02Neutral.nats t).length ∧ Reach G (Rd02Neutral.nats t) z (z.1, z.2) ∧ R1 G (Rd02Neutral.nats t) z.1 z.2 = R1 G (Rd02Neutral.nats t) z.1 z.2 ∧
        (∀ q', Chain G (Rd02Neutral.nats t) (Rd02.node G z.1).a z.2 q' → ((Rd02.node G z.1).a, q') ∈ Kn ∨ Chain G (Rd02Neutral.nats t) (Rd02.node G z.1).a z.2 q') := ⟨Nat.le_refl _, hi, .refl, rfl, fun q' x => .inr x⟩
    have turn : ∀ (m : Nat) (σ : L2.St) (H1 : Hp), Wv m σ H1 → tAnd (tB (tNotN (tVar 4))) (tTest (tOp rNe (tVar 4) (tC (V.int (-2))))) σ H1 fun b H2 => if b = true then ∃ N : L2.St → Hp → Prop, (∀ σ' H', N σ' H' → ∃ m', m' < m ∧ Wv m' σ' H') ∧
        tSeq (tAsg (tVar 4) (gName 3)) (tAsg (fun σ H Q => ∃ v, σ[0]? = some (some v) ∧ hasM CD "come_of" v H (∃ v_1, σ[1]? = some (some v_1) ∧ fldAt K "a" v_1 H fun x H1 => ∃ v_2, σ[3]? = some (some v_2) ∧ spCome CN CG CD [v, x, v_2] H1 Q E0)) (gName 4))
          { nx := N, ct := N, bk := tRet (tIf (tB (tIsN (tVar 4))) (tC V.non) (tVar 3)) { nx := fun x H' => Q V.non H', rt := Q }, rt := Q } σ H2
        else tRet (tIf (tB (tIsN (tVar 4))) (tC V.non) (tVar 3)) { nx := fun x H' => Q V.non H', rt := Q } σ H2 := by
      rintro m σ H1 ⟨j, ⟨j1, j2, j3, j4, j5⟩, ⟨rfl, hin, s1, rfl⟩ | ⟨rfl, hout, ⟨a, D1⟩, k1, rfl⟩⟩
      · walk_at "rd"
        have D1 := D.same s1
        obtain ⟨d1, hd1⟩ := D1.obj
        obtain ⟨t1, t2⟩ := r_five W S he j2 hk
        by_cases hf : R1 G (Rd02Neutral.nats t) (Rd02.node G z.1).a j = none
        · have ev : valR G (Rd02Neutral.nats t) ((Rd02.node G z.1).a, j) = -2 := codeR_fail.mpr hf
          rw [ev]
          simp only [decide_true, Bool.not_true, Bool.false_eq_true, decide_false, Bool.not_false, if_true, if_false, reduceIte]
          have ev2 : valR G (Rd02Neutral.nats t) z = (j : Int) := by
            unfold valR
            rw [j4]
            show codeR (R G _ z.1 j).1 = _
            rw [t1 hf]
            rfl
          rw [← ev2]
          refine q.done H1 s1 ⟨fun x => absurd hk x, fun _ q' hq' => ?_⟩
          rcases j5 q' hq' with h | h
          · exact h
          · cases h with
            | refl => exact hin
            | step _ j' _ h1 _ => rw [hf] at h1; cases h1
        · obtain ⟨j', hj'⟩ := Option.ne_none_iff_exists'.mp hf
          have ev : valR G (Rd02Neutral.nats t) ((Rd02.node G z.1).a, j) = (j' : Int) := by unfold valR; rw [hj']; rfl
          have jp := five_pos W S RK he j2 hk hj'
          have jl := r1_le W S la j2 hj'
          rw [ev]
          have nz : ¬ ((j' : Int) = -2) := by omega
          simp only [nz, decide_true, Bool.not_true, Bool.false_eq_true, decide_false, Bool.not_false, if_true, if_false, reduceIte]
          refine ⟨fun σ' H' => ∃ m', m' < (Rd02Neutral.nats t).length - j + 1 ∧ Wv m' σ' H', fun σ' H' x => x, ?_⟩
          rw [hasM_of hd1 (rdf_no (by decide +kernel)), fldAt_of (s1 _ _ hn) T.cN T.na nf_a]
          have cont : z.2 ≤ j' ∧ j' ≤ (Rd02Neutral.nats t).length ∧ Reach G (Rd02Neutral.nats t) z (z.1, j') ∧ R1 G (Rd02Neutral.nats t) z.1 z.2 = R1 G (Rd02Neutral.nats t) z.1 j' ∧
              (∀ q', Chain G (Rd02Neutral.nats t) (Rd02.node G z.1).a z.2 q' → ((Rd02.node G z.1).a, q') ∈ Kn ∨ Chain G (Rd02Neutral.nats t) (Rd02.node G z.1).a j' q') := by
            refine ⟨by omega, jl.2, .step _ _ j3 ?_, ?_, fun q' hq' => ?_⟩
            · rw [asks5 (z := (z.1, j)) hk]
              show _ ∈ _ :: (match R1 G _ (Rd02.node G z.1).a j with | some j => _ | none => _)
              rw [hj']
              exact List.mem_cons_of_mem _ (List.mem_singleton.mpr rfl)
            · rw [j4]
              show (R G _ z.1 j).1 = _
              rw [t2 j' hj']
            · rcases j5 q' hq' with h | h
              · exact .inl h
              · cases h with
                | refl => exact .inl hin
                | step _ j'' _ h1 h2 =>
                  rw [hj'] at h1
                  cases h1
                  exact .inr h2
          refine ⟨r, g, ln, lr, tx, st, kn, wt, G, as, t, e, Kn, Pl, ws, ((Rd02.node G z.1).a, j'), rfl, D1, hl, fun hin2 H2 s2 => ?_, fun hout2 H2 a D2 k2 => ?_⟩
          · exact ⟨_, by omega, j', cont, .inl ⟨rfl, hin2, s1.trans s2, rfl⟩⟩
          · exact ⟨0, by omega, j', cont, .inr ⟨rfl, hout2, ⟨a, D2⟩, But.after s1 k2, rfl⟩⟩
      · walk_at "rd"
        simp only [decide_true, Bool.not_true, Bool.false_eq_true, decide_false, Bool.not_false, if_true, if_false, reduceIte]
        refine q.wait H1 a _ hout ?_ (.step _ _ j3 (by rw [asks5 (z := (z.1, j)) hk]; exact List.mem_cons_self)) D1 k1
        by_cases hz : j = z.2
        · exact .inr ⟨hz, ra⟩
        · exact .inl (by show z.2 < j; omega)
    refine ⟨r, g, ln, lr, tx, st, kn, wt, G, as, t, e, Kn, Pl, ws, ((Rd02.node G z.1).a, z.2), rfl, D, hl, fun hin H1 s1 => ?_, fun hout H1 a D1 k1 => ?_⟩
    · exact ⟨Wv, ⟨_, z.2, base0, .inl ⟨rfl, hin, s1, rfl⟩⟩, turn⟩
    · exact ⟨Wv, ⟨_, z.2, base0, .inr ⟨rfl, hout, ⟨a, D1⟩, k1, rfl⟩⟩, turn⟩
end
end Ow
set_option Elab.async false
set_option linter.all false
set_option maxRecDepth 100000
set_option maxHeartbeats 2000000
namespace Ow
open PySem PySem.Spec PyProof.Rows L2
local macro_rules | `(tactic| walk_at "rd") => `(tactic| simp only [tSeq, tIfS, tTest, tB, tOp, tUn, tVar, tC, tRet, tRetN, tDrop, tAsg, gName, gSub, tNext, tAnd, tOr, tNot, tAndV, tOrV, tNotV, tIf, tChain, tChain3, rI, rI0, rEq, rNe, scal, tCons, tNil, tLst, tTup, tCall, tMeth_eq, tFld_eq, tMake, tCB, tBM, tBM0, TruV, tIsN, tNotN, tDGet, tDIn, sDPut,
  L2.start, List.map_cons, List.map_nil, List.cons_append, List.nil_append, List.append_nil, List.length_cons, List.length_nil, List.replicate, List.getElem?_cons_zero, List.getElem?_cons_succ, List.set_cons_zero, List.set_cons_succ, Option.some.injEq, exists_and_left, exists_eq_left', exists_eq_left, V.int.injEq, V.bl.injEq, V.ref.injEq, V.str.injEq,
  true_and, and_true, exists_const, cxOf_K, nox_K, if_true, if_false, reduceIte, decide_eq_true_eq, Bool.not_eq_true, decide_eq_false_iff_not, List.cons.injEq, Nat.reduceAdd, Nat.reduceSub, reduceCtorEq])
section
variable {P : Program} {w : World} {K : PySem.W.Frag} {mg : Str → Option Value} {base : Heap} {CN CG CD : Addr}
structure RdM (K : PySem.W.Frag) (CD : Addr) (fC fB f3 f4 f5 f6 : Addr) (dC dB d3 d4 d5 d6 : FuncData) : Prop where
  c : Mf K CD "come_of" "Reading.come_of" sCome ["self", "number", "place"] fC dC
  b : Mf K CD "ask_byte" "Reading.ask_byte" sByte ["self", "low", "high", "place"] fB dB
  m3 : Mf K CD "ask_both" "Reading.ask_both" sBoth ["self", "node", "place"] f3 d3
  m4 : Mf K CD "ask_either" "Reading.ask_either" sEither ["self", "node", "place"] f4 d4
  m5 : Mf K CD "ask_again" "Reading.ask_again" sAgain ["self", "node", "place"] f5 d5
  m6 : Mf K CD "ask_not_ahead" "Reading.ask_not_ahead" sAhead ["self", "node", "place"] f6 d6
def spAsk (CN CG CD : Addr) : Sp := fun vs H Q _ => ∃ (r g ln lr tx st kn wt : Addr) (G : Rd02.Gram) (as : List Addr) (t : List Int) (e : Nat) (Kn Pl : List (Nat × Nat)) (ws : List Addr) (rank : Nat → Nat) (z : Nat × Nat), vs = [.ref r, .int (z.1 : Int), .int (z.2 : Int)] ∧
  RdAt CN CG CD H r g ln lr tx st kn wt G as t e Kn Pl ws ∧ Pl.length ≤ 3000 ∧ Rd02.sound G = true ∧ RankOk G rank ∧ z.1 < G.nodes.length ∧ z.2 ≤ (Rd02Neutral.nats t).length ∧ Ends' CN CG CD H r g ln lr tx st kn wt G as t e Kn Pl ws rank z Q
theorem scAsk : FnScope ["self", "number", "place", "node"] ["self", "number", "place"] (defScope sAsk) := ⟨rfl, rfl, rfl, by decide +kernel, rfl, by decide +kernel, by decide +kernel⟩
theorem ok_ask {f fC fB f3 f4 f5 f6 : Addr} {fd dC dB d3 d4 d5 d6 : FuncData} (F : Mf K CD "ask" "Reading.ask" sAsk ["self", "number", "place"] f fd) (T : Tx K mg CN CG) (TD : TxD K mg CD) (M : RdM K CD fC fB f3 f4 f5 f6 dC dB d3 d4 d5 d6) :
    FnOk P w K mg base CX0 3 f fd ["self", "number", "place"] (spAsk CN CG CD) := by
  have GC : FnOk P w K mg base CX0 1 fC dC _ (spCome CN CG CD) := ok_come M.c TD
  have GB : FnOk P w K mg base CX0 1 fB dB _ (spByte CN CG CD) := ok_byte M.b T TD
  have G3 : FnOk P w K mg base CX0 2 f3 d3 _ (spNode CN CG CD 3) := ok_ask_both M.m3 T TD M.c
  have G4 : FnOk P w K mg base CX0 2 f4 d4 _ (spNode CN CG CD 4) := ok_ask_either M.m4 T TD M.c
  have G5 : FnOk P w K mg base CX0 2 f5 d5 _ (spNode CN CG CD 5) := ok_ask_again M.m5 T TD M.c
  have G6 : FnOk P w K mg base CX0 2 f6 d6 _ (spNode CN CG CD 6) := ok_ask_ahead M.m6 T TD M.c
  refine F.F.ok scAsk (fun vs H Q E h => ?_) (fun cdv A outer s H vs Q E hr h => ?_)
  · obtain ⟨r, g, ln, lr, tx, st, kn, wt, G, as, t, e, Kn, Pl, ws, rank, z, rfl, _⟩ := h
    rfl
  · obtain ⟨r, g, ln, lr, tx, st, kn, wt, G, as, t, e, Kn, Pl, ws, rank, z, rfl, D, hl, S, RK, he, hi, q⟩ := h
    have W := D.gram.ok.toWf
    have hr1 : Room 1 _ := hr.mono (by decide)
    obtain ⟨d, hd⟩ := D.obj
    obtain ⟨dg, hg⟩ := D.gram.obj
    have hna : as[z.1]? = some (as[z.1]'(by rw [D.gram.len]; exact he)) := List.getElem?_eq_getElem _
    generalize as[z.1]'(by rw [D.gram.len]; exact he) = na at hna
    obtain ⟨dn, k, pa, pb, hn, rel⟩ := D.gram.node z.1 na _ hna (node_at he)
    refine ⟨_, pss_cons (ps_set (i := 3) scAsk.nd rfl (Or.inl rfl) (pe_ix ix_H (pe_fld (pe_fld (pv 0) rfl) rfl) (pv 1) (fun _ _ => rfl)))
      (pss_cons (ps_if (pt_cmpR op_eq (pe_fld (pv 3) rfl) (pcst (T.k "NO_BYTE" 0)) (nomark _)) (pss_one (ps_ret (pv 2))) pss_nil)
      (pss_cons (ps_if (pt_cmpR op_eq (pe_fld (pv 3) rfl) (pcst (T.k "ANY_BYTE" 1)) (nomark _)) (pss_one (ps_ret (pe_meth (pv 0) TD.cD M.b.at_ GB hr1 M.b.b .nil pass0 (pa_cons pe_int (pa_cons (pcst (T.k "LARGEST_BYTE" 255)) (pa_cons (pv 2) pa_nil)))))) pss_nil)
      (pss_cons (ps_if (pt_cmpR op_eq (pe_fld (pv 3) rfl) (pcst (T.k "BYTE_BETWEEN" 2)) (nomark _)) (pss_one (ps_ret (pe_meth (pv 0) TD.cD M.b.at_ GB hr1 M.b.b .nil pass0 (pa_cons (pe_fld (pv 3) rfl) (pa_cons (pe_fld (pv 3) rfl) (pa_cons (pv 2) pa_nil)))))) pss_nil)
      (pss_cons (ps_if (pt_cmpR op_eq (pe_fld (pv 3) rfl) (pcst (T.k "BOTH" 3)) (nomark _)) (pss_one (ps_ret (pe_meth (pv 0) TD.cD M.m3.at_ G3 hr M.m3.b .nil pass0 (pa_cons (pv 3) (pa_cons (pv 2) pa_nil))))) pss_nil)
      (pss_cons (ps_if (pt_cmpR op_eq (pe_fld (pv 3) rfl) (pcst (T.k "EITHER" 4)) (nomark _)) (pss_one (ps_ret (pe_meth (pv 0) TD.cD M.m4.at_ G4 hr M.m4.b .nil pass0 (pa_cons (pv 3) (pa_cons (pv 2) pa_nil))))) pss_nil)
      (pss_cons (ps_if (pt_cmpR op_eq (pe_fld (pv 3) rfl) (pcst (T.k "AGAIN" 5)) (nomark _)) (pss_one (ps_ret (pe_meth (pv 0) TD.cD M.m5.at_ G5 hr M.m5.b .nil pass0 (pa_cons (pv 3) (pa_cons (pv 2) pa_nil))))) pss_nil)
      (pss_cons (ps_if (pt_cmpR op_eq (pe_fld (pv 3) rfl) (pcst (T.k "NOT_AHEAD" 6)) (nomark _)) (pss_one (ps_ret (pe_meth (pv 0) TD.cD M.m6.at_ G6 hr M.m6.b .nil pass0 (pa_cons (pv 3) (pa_cons (pv 2) pa_nil))))) pss_nil)
      (pss_one (ps_ret (pe_meth (pv 0) TD.cD M.c.at_ GC hr1 M.c.b .nil pass0 (pa_cons (pe_ix ix_H (pe_fld (pe_fld (pv 0) rfl) rfl) (pe_fld (pv 3) rfl) (fun _ _ => rfl)) (pa_cons (pv 2) pa_nil)))))))))))), ?_⟩
    walk_at "rd"
    have fg := fldAt_of hd TD.cD TD.ng rdf_grammar
    have fn := fldAt_of hg T.cG T.nn gf_nodes
    have fr := fldAt_of hg T.cG T.nr gf_rules
    rw [fg, fn, rIxH_of D.gram.nodes (v := .ref na) (atI_nat (by rw [List.getElem?_map, hna]; rfl))]
    try walk_at "rd"
    have fk := fldAt_of hn T.cN T.nk nf_kind
    have fa := fldAt_of hn T.cN T.na nf_a
    have fb := fldAt_of hn T.cN T.nb nf_b
    simp only [fk]
    have hx := W.kind z.1 _ (node_at he)
    have same : Same H H := Same.refl H
    have node : ∀ k', (Rd02.node G z.1).kind = k' → spNode CN CG CD k' [.ref r, .ref na, .int (z.2 : Int)] H Q E0 := fun k' hk => ⟨r, g, ln, lr, tx, st, kn, wt, G, as, t, e, Kn, Pl, ws, rank, z, na, rfl, D, hl, S, RK, he, hi, hna, hk, q⟩
    have leaf : (Rd02.node G z.1).kind < 3 → Cov G (Rd02Neutral.nats t) z Kn := fun hk => cov_of (by omega) fun w hw => by
      rw [asks0 hk] at hw
      cases hw
    rcases (by omega : (Rd02.node G z.1).kind = 0 ∨ (Rd02.node G z.1).kind = 1 ∨ (Rd02.node G z.1).kind = 2 ∨ (Rd02.node G z.1).kind = 3 ∨ (Rd02.node G z.1).kind = 4 ∨ (Rd02.node G z.1).kind = 5 ∨ (Rd02.node G z.1).kind = 6 ∨ (Rd02.node G z.1).kind = 7) with h | h | h | h | h | h | h | h
    · obtain rfl : k = 0 := by rw [rel.kind, h]; rfl
      simp only [reduceIte, Int.reduceEq, true_and, V.int.injEq]
      have := q.done H same (leaf (by omega))
      rw [show valR G (Rd02Neutral.nats t) z = (z.2 : Int) by unfold valR; show codeR (R G _ z.1 z.2).1 = _; rw [r_zero W S he hi h]; rfl] at this
      exact this
    · obtain rfl : k = 1 := by rw [rel.kind, h]; rfl
      simp only [reduceIte, Int.reduceEq, true_and, V.int.injEq]
      rw [hasM_of hd (rdf_no (by decide +kernel))]
      refine ⟨r, g, ln, lr, tx, st, kn, wt, G, as, t, e, Kn, Pl, ws, 0, 255, z.2, rfl, D, ?_⟩
      have := q.done H same (leaf (by omega))
      have ev : valR G (Rd02Neutral.nats t) z = codeR (if ((Rd02Neutral.nats t)[z.2]?).any (fun c => decide (0 ≤ c) && decide (c ≤ 255)) = true then some (z.2 + 1) else none) := by
        unfold valR
        show codeR (R G _ z.1 z.2).1 = _
        rw [r_one W S he hi h]
        congr 1
        by_cases hz : z.2 < (Rd02Neutral.nats t).length
        · rw [if_pos hz, if_pos]
          have hz' : z.2 < t.length := by rw [← nats_len]; exact hz
          rw [nats_at (List.getElem?_eq_getElem hz')]
          have hb := D.bt _ (List.getElem_mem hz')
          generalize t[z.2] = c at hb
          show (decide (0 ≤ c.toNat) && decide (c.toNat ≤ 255)) = true
          rw [decide_eq_true (Nat.zero_le _), decide_eq_true (by omega)]
          rfl
        · rw [if_neg hz, List.getElem?_eq_none (by omega)]
          rfl
      rw [ev] at this
      exact this
    · obtain rfl : k = 2 := by rw [rel.kind, h]; rfl
      obtain ⟨rfl, rfl⟩ := rel.two (.inl h)
      simp only [reduceIte, Int.reduceEq, true_and, V.int.injEq]
      rw [hasM_of hd (rdf_no (by decide +kernel)), fa, fb]
      refine ⟨r, g, ln, lr, tx, st, kn, wt, G, as, t, e, Kn, Pl, ws, (Rd02.node G z.1).a, (Rd02.node G z.1).b, z.2, rfl, D, ?_⟩
      have := q.done H same (leaf (by omega))
      rw [show valR G (Rd02Neutral.nats t) z = _ by unfold valR; show codeR (R G _ z.1 z.2).1 = _; rw [r_two W S he hi h]] at this
      exact this
    · obtain rfl : k = 3 := by rw [rel.kind, h]; rfl
      simp only [reduceIte, Int.reduceEq, true_and, V.int.injEq]
      rw [hasM_of hd (rdf_no (by decide +kernel))]
      exact node 3 h
    · obtain rfl : k = 4 := by rw [rel.kind, h]; rfl
      simp only [reduceIte, Int.reduceEq, true_and, V.int.injEq]
      rw [hasM_of hd (rdf_no (by decide +kernel))]
      exact node 4 h
    · obtain rfl : k = 5 := by rw [rel.kind, h]; rfl
      simp only [reduceIte, Int.reduceEq, true_and, V.int.injEq]
      rw [hasM_of hd (rdf_no (by decide +kernel))]
      exact node 5 h
    · obtain rfl : k = 6 := by rw [rel.kind, h]; rfl
      simp only [reduceIte, Int.reduceEq, true_and, V.int.injEq]
      rw [hasM_of hd (rdf_no (by decide +kernel))]
      exact node 6 h
    · obtain rfl : k = 7 := by rw [rel.kind, h]; rfl
      obtain rfl := rel.one (.inr (.inr h))
      simp only [reduceIte, Int.reduceEq, true_and, V.int.injEq]
      obtain ⟨d7, hd7, ld, rd⟩ := RK.seven z.1 he h
      have h16 := D.gram.ok.seven z.1 _ (node_at he) h
      have hru : G.rules[(Rd02.node G z.1).a]? = some d7 := by
        have hl16 : (Rd02.node G z.1).a < G.rules.length := by rw [D.gram.ok.rlen]; exact h16
        have e0 := List.getElem?_eq_getElem hl16
        have e1 := hd7
        rw [bodyOf_eq e0] at e1
        unfold ruleO at e1
        split at e1
        · rw [e0, Option.some.inj e1]
        · cases e1
      rw [hasM_of hd (rdf_no (by decide +kernel)), fg, fr, fa, rIxH_of D.gram.rules (v := .int (d7 : Int)) (atI_nat (by rw [List.getElem?_map, hru]; show some (if d7 < _ then _ else _) = _; rw [if_pos ld]))]
      refine ⟨r, g, ln, lr, tx, st, kn, wt, G, as, t, e, Kn, Pl, ws, (d7, z.2), rfl, D, hl, fun hin H1 s1 => ?_, fun hout H1 a D1 k1 => ?_⟩
      · have := q.done H1 s1 (cov_of (by omega) fun w hw => by
          rw [asks7 h hd7] at hw
          rw [List.mem_singleton.mp hw]
          exact hin)
        rw [show valR G (Rd02Neutral.nats t) z = valR G (Rd02Neutral.nats t) (d7, z.2) by unfold valR; rw [(r_seven W S he hi h hd7).1]] at this
        exact this
      · exact q.wait H1 a _ hout (.inr ⟨rfl, rd⟩) (.one (by rw [asks7 h hd7]; exact List.mem_singleton.mpr rfl)) D1 k1
end
end Ow
set_option Elab.async false
set_option linter.all false
set_option maxRecDepth 100000
set_option maxHeartbeats 2000000
namespace Ow
open PySem PySem.Spec PyProof.Rows L2
local macro_rules | `(tactic| walk_at "rd") => `(tactic| simp only [tSeq, tIfS, tTest, tB, tOp, tUn, tVar, tC, tRet, tRetN, tDrop, tAsg, gName, gSub, tNext, tAnd, tOr, tNot, tAndV, tOrV, tNotV, tIf, tChain, tChain3, rI, rI0, rEq, rNe, scal, tCons, tNil, tLst, tTup, tCall, tMeth_eq, tFld_eq, tMake, tCB, tBM, tBM0, TruV, tIsN, tNotN, tDGet, tDIn, sDPut,
  L2.start, List.map_cons, List.map_nil, List.cons_append, List.nil_append, List.append_nil, List.length_cons, List.length_nil, List.replicate, List.getElem?_cons_zero, List.getElem?_cons_succ, List.set_cons_zero, List.set_cons_succ, Option.some.injEq, exists_and_left, exists_eq_left', exists_eq_left, V.int.injEq, V.bl.injEq, V.ref.injEq, V.str.injEq,
  true_and, and_true, exists_const, cxOf_K, nox_K, if_true, if_false, reduceIte, decide_eq_true_eq, Bool.not_eq_true, decide_eq_false_iff_not, List.cons.injEq, Nat.reduceAdd, Nat.reduceSub, reduceCtorEq])
section
variable {CN CG CD : Addr} {H H' : Hp} {r g ln lr tx st kn wt : Addr} {G : Rd02.Gram} {as : List Addr} {t : List Int} {e : Nat} {Kn Pl : List (Nat × Nat)} {ws : List Addr}
def But2 (kn wt : Addr) (H H' : Hp) : Prop := ∀ b o, b ≠ kn → b ≠ wt → H b = some o → H' b = some o
theorem But2.trans {H1 H2 : Hp} (a : But2 kn wt H H1) (b : But2 kn wt H1 H2) : But2 kn wt H H2 := fun c o h1 h2 x => b c o h1 h2 (a c o h1 h2 x)
theorem RdAt.pop {a : Addr} {z : Nat × Nat} (D : RdAt CN CG CD H r g ln lr tx st kn wt G as t e Kn (Pl ++ [z]) (ws ++ [a])) (k : But2 kn wt H H') (hk : H' kn = some (.dT (kvs (valR G (Rd02Neutral.nats t)) (Kn ++ [z])))) (hw : H' wt = some (.lst (ws.map V.ref))) :
    RdAt CN CG CD H' r g ln lr tx st kn wt G as t e (Kn ++ [z]) Pl ws := by
  have hwt := D.wait
  have hkn := D.known
  have ne2 : ∀ {b : Addr} {o : HO}, H b = some o → (∀ xs, o ≠ .lst xs) → (∀ xs, o ≠ .dT xs) → H' b = some o := fun {b o} x h1 h2 => k _ _ (ne_of x hkn (h2 _)) (ne_of x hwt (h1 _)) x
  have wl := D.wl
  rw [List.length_append, List.length_append] at wl
  refine ⟨let ⟨d, x⟩ := D.obj; ⟨d, ne2 x (fun _ z => nomatch z) (fun _ z => nomatch z)⟩, ⟨D.gram.ok, let ⟨d, x⟩ := D.gram.obj; ⟨d, ne2 x (fun _ z => nomatch z) (fun _ z => nomatch z)⟩, k _ _ (ne_of D.gram.nodes hkn fun z => nomatch z) D.n1.symm D.gram.nodes,
    k _ _ (ne_of D.gram.rules hkn fun z => nomatch z) D.n2.symm D.gram.rules, D.gram.len, fun i b x h1 h2 => ?_⟩, k _ _ (ne_of D.text hkn fun z => nomatch z) D.n3.symm D.text, ne2 D.start (fun _ z => nomatch z) (fun _ z => nomatch z), hk, hw, by simpa using wl, fun i b y h1 h2 => ?_, D.n1, D.n2, D.n3, D.bt⟩
  · obtain ⟨d', k', p', q', x, rr⟩ := D.gram.node i b x h1 h2
    exact ⟨d', k', p', q', ne2 x (fun _ z => nomatch z) (fun _ z => nomatch z), rr⟩
  · refine ne2 (D.wat i b y ?_ ?_) (fun _ z => nomatch z) (fun _ z => nomatch z)
    · rw [List.getElem?_append_left (List.getElem?_eq_some_iff.mp h1).1]
      exact h1
    · rw [List.getElem?_append_left (List.getElem?_eq_some_iff.mp h2).1]
      exact h2
end
section
variable {P : Program} {w : World} {K : PySem.W.Frag} {mg : Str → Option Value} {base : Heap} {CN CG CD : Addr}
def spGo (CN CG CD : Addr) : Sp := fun vs H Q _ => ∃ (r g ln lr tx st kn wt : Addr) (G : Rd02.Gram) (as : List Addr) (t : List Int) (e : Nat) (Kn Pl : List (Nat × Nat)) (ws : List Addr) (rank : Nat → Nat) (z : Nat × Nat) (a : Addr), vs = [.ref r] ∧
  RdAt CN CG CD H r g ln lr tx st kn wt G as t e Kn (Pl ++ [z]) (ws ++ [a]) ∧ Rn G (Rd02Neutral.nats t) rank e Kn (Pl ++ [z]) ∧ e < G.nodes.length ∧ t.length ≤ 40 ∧ Rd02.sound G = true ∧ RankOk G rank ∧
  ∀ (H' : Hp) (Kn' Pl' : List (Nat × Nat)) (ws' : List Addr), RdAt CN CG CD H' r g ln lr tx st kn wt G as t e Kn' Pl' ws' → Rn G (Rd02Neutral.nats t) rank e Kn' Pl' → 2 * Kn'.length + Pl'.length = 2 * Kn.length + Pl.length + 2 → But2 kn wt H H' → Q .non H'
theorem scGo : FnScope ["self", "asked", "behind"] ["self"] (defScope sGo) := ⟨rfl, rfl, rfl, by decide +kernel, rfl, by decide +kernel, by decide +kernel⟩
theorem rn_small {G : Rd02.Gram} {s : List Nat} {rank : Nat → Nat} {e : Nat} {Kn Pl : List (Nat × Nat)} (g : GOk G) (S : Rd02.sound G = true) (he : e < G.nodes.length) (h40 : s.length ≤ 40) (r : Rn G s rank e Kn Pl) : Kn.length + Pl.length ≤ 2624 :=
  Nat.le_trans (r.bound g.toWf S he) (Nat.mul_le_mul g.small (by omega : s.length + 1 ≤ 41))
theorem ok_go {f fA : Addr} {fd fdA : FuncData} (F : Mf K CD "go_on" "Reading.go_on" sGo ["self"] f fd) (TD : TxD K mg CD) (FA : Mf K CD "ask" "Reading.ask" sAsk ["self", "number", "place"] fA fdA)
    (GA : FnOk P w K mg base CX0 3 fA fdA ["self", "number", "place"] (spAsk CN CG CD)) : FnOk P w K mg base CX0 4 f fd ["self"] (spGo CN CG CD) := by
  refine F.F.ok scGo (fun vs H Q E h => ?_) (fun cdv A outer s H vs Q E hr h => ?_)
  · obtain ⟨r, g, ln, lr, tx, st, kn, wt, G, as, t, e, Kn, Pl, ws, rank, z, a, rfl, _⟩ := h
    rfl
  · obtain ⟨r, g, ln, lr, tx, st, kn, wt, G, as, t, e, Kn, Pl, ws, rank, z, a, rfl, D, N, he, h40, S, RK, q⟩ := h
    have W := D.gram.ok.toWf
    have hu := hu_of hr
    obtain ⟨d, hd⟩ := D.obj
    have sm := rn_small D.gram.ok S he (by rw [nats_len]; exact h40) N
    rw [List.length_append, List.length_singleton] at sm
    have hin := (N.reach z (List.mem_append_right _ (List.mem_append_right _ (List.mem_singleton.mpr rfl)))).in_ W S he (Nat.zero_le _)
    have ha : H a = some (.tup (ptv z)) := by
      refine D.wat ws.length a z ?_ ?_
      · rw [List.getElem?_append_right (Nat.le_refl _), Nat.sub_self]; rfl
      · have wl := D.wl
        rw [List.length_append, List.length_append] at wl
        have : ws.length = Pl.length := by simpa using wl
        rw [this, List.getElem?_append_right (Nat.le_refl _), Nat.sub_self]; rfl
    refine ⟨_, pss_cons (ps_set (i := 1) scGo.nd rfl (Or.inl rfl) (pe_ix ix_H (pe_fld (pv 0) rfl) (pe_un un_neg pe_int) (fun _ _ => rfl)))
      (pss_cons (ps_set (i := 2) scGo.nd rfl (Or.inl rfl) (pe_meth (pv 0) TD.cD FA.at_ GA hr FA.b .nil pass0 (pa_cons (pe_ix ix_tup (pv 1) pe_int (fun _ _ => rfl)) (pa_cons (pe_ix ix_tup (pv 1) pe_int (fun _ _ => rfl)) pa_nil))))
      (pss_one (ps_if (pt_cmp (pc_notN (pv 2))) (pss_cons (ps_dput hu (pe_fld (pv 0) rfl) (pv 1) (pv 2) rfl) (pss_one (ps_expr (pe_bm0 PySem.F.plainAttrs_list PySem.F.slot_list_pop PySem.F.type_list_pop mt_pop (pe_fld (pv 0) rfl))))) pss_nil))), ?_⟩
    walk_at "rd"
    rw [fldAt_of hd TD.cD TD.nw rdf_waiting]
    refine ⟨1, rfl, ?_⟩
    dsimp only
    rw [rIxH_of D.wait (v := .ref a) (by rw [List.map_append]; exact atI_last _ _), hasM_of hd (rdf_no (by decide +kernel))]
    refine ⟨a, _, 0, .int (z.1 : Int), rfl, rfl, SqT.of ha, rfl, a, _, 1, .int (z.2 : Int), rfl, rfl, SqT.of ha, rfl, ?_⟩
    refine ⟨r, g, ln, lr, tx, st, kn, wt, G, as, t, e, Kn, Pl ++ [z], ws ++ [a], rank, z, rfl, D, by rw [List.length_append, List.length_singleton]; omega, S, RK, hin.1, hin.2, fun H1 s1 cv => ?_, fun H1 b y hy lt re D1 k1 => ?_⟩
    · walk_at "rd"
      simp only [decide_true, Bool.not_true, Bool.false_eq_true, decide_false, Bool.not_false, if_true, if_false, reduceIte]
      have D1 := D.same s1
      obtain ⟨d1, hd1⟩ := D1.obj
      rw [fldAt_of hd1 TD.cD TD.nk rdf_known]
      refine ⟨kn, rfl, _, DPut.t (k := keyOf z) D1.known (s1 _ _ ha) (by rw [kvs_len]; exact Nat.lt_of_le_of_lt (by omega : Kn.length ≤ 3000) (by decide)), ?_⟩
      rw [kvs_put N.new]
      have nwk : wt ≠ kn := ne_of D1.wait D1.known fun z => nomatch z
      have nrk : r ≠ kn := ne_of hd1 D1.known fun z => nomatch z
      rw [fldAt_of (by rw [upd_ne nrk]; exact hd1) TD.cD TD.nw rdf_waiting]
      refine ⟨.inl ⟨rfl, _, SqL.of (by rw [upd_ne nwk]; exact D1.wait)⟩, wt, _, .ref a, rfl, rfl, by rw [upd_ne nwk]; exact D1.wait, ?_, ?_⟩
      · rw [List.length_map, List.length_append, List.length_singleton, Nat.add_sub_cancel, List.map_append, List.getElem?_append_right (by rw [List.length_map]; exact Nat.le_refl _), List.length_map, Nat.sub_self]
        rfl
      · have kb : But2 kn wt H1 (upd (upd H1 kn (.dT (kvs (valR G (Rd02Neutral.nats t)) (Kn ++ [z])))) wt (.lst ((ws ++ [a]).map V.ref).dropLast)) := fun b o h1 h2 x => by
          rw [upd_ne h2, upd_ne h1]
          exact x
        refine q _ (Kn ++ [z]) Pl ws (D1.pop kb ?_ ?_) (N.done cv) (by rw [List.length_append, List.length_singleton]; omega) fun b o h1 h2 x => kb b o h1 h2 (s1 _ _ x)
        · rw [upd_ne nwk.symm, upd_same]
        · rw [upd_same, List.map_append]
          simp
    · walk_at "rd"
      simp only [decide_true, Bool.not_true, Bool.false_eq_true, decide_false, Bool.not_false, if_true, if_false, reduceIte]
      exact q H1 Kn ((Pl ++ [z]) ++ [y]) _ D1 (N.push hy lt re) (by rw [List.length_append, List.length_append, List.length_singleton, List.length_singleton]; omega) fun b o _ h2 x => k1 b o h2 x
def spOut (CN CG CD : Addr) : Sp := fun vs H Q _ => ∃ (r g ln lr tx st kn wt : Addr) (G : Rd02.Gram) (as : List Addr) (t : List Int) (e : Nat) (Kn Pl : List (Nat × Nat)) (ws : List Addr), vs = [.ref r] ∧
  RdAt CN CG CD H r g ln lr tx st kn wt G as t e Kn Pl ws ∧ (e, 0) ∈ Kn ∧ Q (.int (valR G (Rd02Neutral.nats t) (e, 0))) H
theorem scOut : FnScope ["self"] ["self"] (defScope sOut) := ⟨rfl, rfl, rfl, by decide +kernel, rfl, by decide +kernel, by decide +kernel⟩
theorem ok_out {f : Addr} {fd : FuncData} (F : Mf K CD "outcome" "Reading.outcome" sOut ["self"] f fd) (TD : TxD K mg CD) : FnOk P w K mg base CX0 1 f fd ["self"] (spOut CN CG CD) := by
  refine F.F.ok scOut (fun vs H Q E h => ?_) (fun cdv A outer s H vs Q E hr h => ?_)
  · obtain ⟨r, g, ln, lr, tx, st, kn, wt, G, as, t, e, Kn, Pl, ws, rfl, _⟩ := h
    rfl
  · obtain ⟨r, g, ln, lr, tx, st, kn, wt, G, as, t, e, Kn, Pl, ws, rfl, D, hin, q⟩ := h
    have hu := hu_of hr
    obtain ⟨d, hd⟩ := D.obj
    refine ⟨_, pss_one (ps_ret (pe_dget hu (pe_fld (pv 0) rfl) (pe_fld (pv 0) rfl) (fun _ _ => rfl))), ?_⟩
    walk_at "rd"
    rw [fldAt_of hd TD.cD TD.nk rdf_known, fldAt_of hd TD.cD TD.ns rdf_start]
    refine ⟨kn, rfl, _, ?_, q⟩
    have := DGet.t (k := keyOf (e, 0)) D.known D.start
    rw [valV_kvs, if_pos hin] at this
    exact this
def spRead (CN CG CD : Addr) : Sp := fun vs H Q _ => ∃ (g ln lr tx : Addr) (G : Rd02.Gram) (as : List Addr) (t : List Int) (ru e : Nat), vs = [.ref g, .int (ru : Int), .ref tx] ∧ GramAt CN CG H g ln lr G as ∧ H tx = some (.lst (t.map V.int)) ∧ (∀ c ∈ t, 0 ≤ c ∧ c < 256) ∧ t.length ≤ 40 ∧
  G.rules[ru]? = some e ∧ e < G.nodes.length ∧ Rd02.sound G = true ∧ ∀ (H' : Hp) (r st kn wt : Addr) (Kn : List (Nat × Nat)) (rank : Nat → Nat), RdAt CN CG CD H' r g ln lr tx st kn wt G as t e Kn [] [] → RankOk G rank → Rn G (Rd02Neutral.nats t) rank e Kn [] → Same H H' → Q (.ref r) H'
theorem scRead : FnScope ["grammar", "rule", "text", "reading"] ["grammar", "rule", "text"] (defScope (top 20)) := ⟨rfl, rfl, rfl, by decide +kernel, rfl, by decide +kernel, by decide +kernel⟩
theorem ok_read {f fI fG : Addr} {fd fdI fdG : FuncData} (F : Gf K mg "read_text" (top 20) ["grammar", "rule", "text"] f fd) (T : Tx K mg CN CG) (TD : TxD K mg CD) (MD : Mk K CD fI) (FI : Fun K "__init__" "Reading.__init__" sRdInit fI fdI) (bI : Binds K fdI ["self", "grammar", "text", "start"] [])
    (FG : Mf K CD "go_on" "Reading.go_on" sGo ["self"] fG fdG) (GG : FnOk P w K mg base CX0 4 fG fdG ["self"] (spGo CN CG CD)) : FnOk P w K mg base CX0 5 f fd ["grammar", "rule", "text"] (spRead CN CG CD) := by
  have GI : FnOk P w K mg base CX0 1 fI fdI _ _ := ok_rd_init FI TD
  refine F.F.ok scRead (fun vs H Q E h => ?_) (fun cdv A outer s H vs Q E hr h => ?_)
  · obtain ⟨g, ln, lr, tx, G, as, t, ru, e, rfl, _⟩ := h
    rfl
  · obtain ⟨g, ln, lr, tx, G, as, t, ru, e, rfl, B, htx, hbt, h40, hru, he, S, q⟩ := h
    have W := B.ok.toWf
    obtain ⟨rank, RK⟩ := ranked W S
    have hr2 : Room 2 _ := hr.mono (by decide)
    obtain ⟨dg, hg⟩ := B.obj
    refine ⟨_, pss_cons (ps_set (i := 3) scRead.nd rfl (Or.inl rfl) (pe_make MD GI hr2 rfl TD.mD bI .nil pass0 (pa_cons (pv 0) (pa_cons (pv 2) (pa_cons (pe_tup (pa_cons (pe_ix ix_H (pe_fld (pv 0) rfl) (pv 1) (fun _ _ => rfl)) (pa_cons pe_int pa_nil))) pa_nil)))))
      (pss_cons (ps_while PassesOwn.never (pt_truth (pe_fld (pv 3) rfl) (fun _ => rfl)) (pss_one (ps_expr (pe_meth0 (pv 3) TD.cD FG.at_ GG hr FG.b .nil pass0))))
      (pss_one (ps_ret (pv 3)))), ?_⟩
    walk_at "rd"
    rw [fldAt_of hg T.cG T.nr gf_rules, rIxH_of B.rules (v := .int (e : Int)) (atI_nat (by rw [List.getElem?_map, hru]; show some (if e < _ then _ else _) = _; rw [if_pos he]))]
    refine ⟨by show 2 ≤ sizeLine; decide, fun st hst r dr nr ndr ner => ?_⟩
    have s1 := Same.upd_new (o := HO.tup [.int (e : Int), .int 0]) hst
    refine ⟨r, dr, g, tx, st, rfl, upd_same, fun H1 kn wt h1 h2 h3 k1 nkn nwt => ⟨rfl, ?_⟩⟩
    have nrt : st ≠ r := fun z => by rw [← z, upd_same] at nr; cases nr
    have nrt2 : st ≠ dr := fun z => by rw [← z, upd_same] at ndr; cases ndr
    have s2 : Same (upd H st (.tup [.int (e : Int), .int 0])) H1 := fun b o x => k1 b o (ne_of_none x nr) (by rw [upd_ne (ne_of_none x nr), upd_ne (ne_of_none x ndr)]; exact x)
    have s12 := s1.trans s2
    have nkn0 : H kn = none := by
      have z1 : kn ≠ r := fun z => by rw [z, upd_same] at nkn; cases nkn
      rw [upd_ne z1] at nkn
      have z2 : kn ≠ dr := fun z => by rw [z, upd_same] at nkn; cases nkn
      rw [upd_ne z2] at nkn
      have z3 : kn ≠ st := fun z => by rw [z, upd_same] at nkn; cases nkn
      rw [upd_ne z3] at nkn
      exact nkn
    have nwt0 : H wt = none := by
      have z1 : wt ≠ r := fun z => by rw [z, upd_same] at nwt; cases nwt
      rw [upd_ne z1] at nwt
      have z2 : wt ≠ dr := fun z => by rw [z, upd_same] at nwt; cases nwt
      rw [upd_ne z2] at nwt
      have z3 : wt ≠ st := fun z => by rw [z, upd_same] at nwt; cases nwt
      rw [upd_ne z3] at nwt
      exact nwt
    have D1 : RdAt CN CG CD H1 r g ln lr tx st kn wt G as t e [] [(e, 0)] [st] := by
      refine ⟨⟨dr, h1⟩, B.same s12, s12 _ _ htx, s2 _ _ upd_same, h2, h3, rfl, fun i a z x1 x2 => ?_, fun z => ?_, fun z => ?_, fun z => ?_, hbt⟩
      · cases i with
        | zero =>
          cases x1
          cases x2
          exact s2 _ _ upd_same
        | succ i => simp at x1
      · rw [z, B.nodes] at nwt0; cases nwt0
      · rw [z, B.rules] at nwt0; cases nwt0
      · rw [z, htx] at nwt0; cases nwt0
    have n40 : (Rd02Neutral.nats t).length ≤ 40 := by rw [nats_len]; exact h40
    refine ⟨fun m σ H2 => ∃ (Kn Pl : List (Nat × Nat)) (ws : List Addr), σ = [some (.ref g), some (.int (ru : Int)), some (.ref tx), some (.ref r)] ∧ RdAt CN CG CD H2 r g ln lr tx st kn wt G as t e Kn Pl ws ∧ Rn G (Rd02Neutral.nats t) rank e Kn Pl ∧ Same H H2 ∧ m + (2 * Kn.length + Pl.length) = 6000,
      ⟨5999, [], [(e, 0)], [st], rfl, D1, Rn.first, s12, rfl⟩, ?_⟩
    rintro m σ H2 ⟨Kn, Pl, ws, rfl, D2, N2, s3, hm⟩
    obtain ⟨d2, hd2⟩ := D2.obj
    have sm := rn_small D2.gram.ok S he n40 N2
    walk_at "rd"
    rw [fldAt_of hd2 TD.cD TD.nw rdf_waiting]
    refine ⟨_, .inl ⟨_, SqL.of D2.wait, rfl⟩, ?_⟩
    rcases List.eq_nil_or_concat Pl with rfl | ⟨Pl', z, rfl⟩
    · have : ws = [] := List.length_eq_zero_iff.mp D2.wl
      subst this
      rw [if_neg (by simp)]
      exact q H2 r st kn wt Kn rank D2 RK N2 s3
    · rcases List.eq_nil_or_concat ws with rfl | ⟨ws', a, rfl⟩
      · have := D2.wl
        simp at this
      · rw [if_pos (by simp)]
        refine ⟨_, fun σ' H' z => z, ?_⟩
        rw [hasM_of hd2 (rdf_no (by decide +kernel))]
        rw [List.concat_eq_append] at N2 sm hm
        rw [List.concat_eq_append, List.concat_eq_append] at D2
        rw [List.length_append, List.length_singleton] at sm hm
        refine ⟨r, g, ln, lr, tx, st, kn, wt, G, as, t, e, Kn, Pl', ws', rank, z, a, rfl, D2, N2, he, h40, S, RK, fun H3 Kn3 Pl3 ws3 D3 N3 hc k3 => ?_⟩
        exact ⟨m - 1, by omega, rfl, Kn3, Pl3, ws3, D3, N3, fun b o x => k3 b o (fun y => by rw [y, nkn0] at x; cases x) (fun y => by rw [y, nwt0] at x; cases x) (s3 _ _ x), by omega⟩
end
end Ow
set_option Elab.async false
set_option linter.all false
set_option maxRecDepth 100000
set_option maxHeartbeats 2000000
namespace Ow
open PySem PySem.Spec PyProof.Rows L2
local macro_rules | `(tactic| walk_at "rd") => `(tactic| simp only [tSeq, tIfS, tTest, tB, tOp, tUn, tVar, tC, tRet, tRetN, tDrop, tAsg, gName, gSub, tNext, tAnd, tOr, tNot, tAndV, tOrV, tNotV, tIf, tChain, tChain3, rI, rI0, rEq, rNe, scal, tCons, tNil, tLst, tTup, tCall, tMeth_eq, tFld_eq, tMake, tCB, tBM, tBM0, TruV, tIsN, tNotN, tDGet, tDIn, sDPut,
  L2.start, List.map_cons, List.map_nil, List.cons_append, List.nil_append, List.append_nil, List.length_cons, List.length_nil, List.replicate, List.getElem?_cons_zero, List.getElem?_cons_succ, List.set_cons_zero, List.set_cons_succ, Option.some.injEq, exists_and_left, exists_eq_left', exists_eq_left, V.int.injEq, V.bl.injEq, V.ref.injEq, V.str.injEq,
  true_and, and_true, exists_const, cxOf_K, nox_K, if_true, if_false, reduceIte, decide_eq_true_eq, Bool.not_eq_true, decide_eq_false_iff_not, List.cons.injEq, Nat.reduceAdd, Nat.reduceSub, reduceCtorEq])
def pairsOf (G : Rd02.Gram) (Kn : List (Nat × Nat)) : List (Nat × Nat) := Kn.filterMap fun z => if (Rd02.node G z.1).kind = 7 then some ((Rd02.node G z.1).a, z.2) else none
theorem pairs_take {G : Rd02.Gram} {Kn : List (Nat × Nat)} {i : Nat} {z : Nat × Nat} (h : Kn[i]? = some z) : pairsOf G (Kn.take (i + 1)) = pairsOf G (Kn.take i) ++ (if (Rd02.node G z.1).kind = 7 then [((Rd02.node G z.1).a, z.2)] else []) := by
  unfold pairsOf
  rw [List.take_add_one, h, List.filterMap_append]
  congr 1
  show List.filterMap _ [z] = _
  rw [List.filterMap_cons]
  split
  · rename_i h7
    split at h7
    · cases h7
    · rw [if_neg ‹_›]
      rfl
  · rename_i b h7
    split at h7
    · rw [if_pos ‹_›]
      cases h7
      rfl
    · cases h7
theorem pairs_len {G : Rd02.Gram} {Kn : List (Nat × Nat)} : (pairsOf G Kn).length ≤ Kn.length := List.length_filterMap_le _ _
theorem mem_pairs {G : Rd02.Gram} {Kn : List (Nat × Nat)} {q : Nat × Nat} : q ∈ pairsOf G Kn ↔ ∃ z ∈ Kn, (Rd02.node G z.1).kind = 7 ∧ q = ((Rd02.node G z.1).a, z.2) := by
  unfold pairsOf
  rw [List.mem_filterMap]
  constructor
  · rintro ⟨z, hz, h⟩
    split at h
    · cases h
      exact ⟨z, hz, ‹_›, rfl⟩
    · cases h
  · rintro ⟨z, hz, h, rfl⟩
    exact ⟨z, hz, by rw [if_pos h]⟩
section
variable {P : Program} {w : World} {K : PySem.W.Frag} {mg : Str → Option Value} {base : Heap} {CN CG CD : Addr}
def spCount (CN CG CD : Addr) : Sp := fun vs H Q _ => ∃ (r g ln lr tx st kn wt : Addr) (G : Rd02.Gram) (as : List Addr) (t : List Int) (e : Nat) (Kn Pl : List (Nat × Nat)) (ws : List Addr), vs = [.ref r] ∧
  RdAt CN CG CD H r g ln lr tx st kn wt G as t e Kn Pl ws ∧ (∀ z ∈ Kn, z.1 < G.nodes.length) ∧ Kn.length ≤ 3000 ∧ ∀ H', Same H H' → Q (.int (((pairsOf G Kn).eraseDups).length : Nat)) H'
theorem scCount : FnScope ["self", "nodes", "pairs", "number", "place"] ["self"] (defScope sCount) := ⟨rfl, rfl, rfl, by decide +kernel, rfl, by decide +kernel, by decide +kernel⟩
theorem ok_count {f : Addr} {fd : FuncData} (F : Mf K CD "count_rules_asked" "Reading.count_rules_asked" sCount ["self"] f fd) (T : Tx K mg CN CG) (TD : TxD K mg CD) : FnOk P w K mg base CX0 1 f fd ["self"] (spCount CN CG CD) := by
  refine F.F.ok scCount (fun vs H Q E h => ?_) (fun cdv A outer s H vs Q E hr h => ?_)
  · obtain ⟨r, g, ln, lr, tx, st, kn, wt, G, as, t, e, Kn, Pl, ws, rfl, _⟩ := h
    rfl
  · obtain ⟨r, g, ln, lr, tx, st, kn, wt, G, as, t, e, Kn, Pl, ws, rfl, D, hin, hl, q⟩ := h
    have hu : (A.deeper (envOfC "Reading.count_rules_asked" (defScope sCount) s.heap.objs.size f cdv)).units + 8 < cLine := Nat.lt_of_le_of_lt (Nat.add_le_add_left (by decide : 8 ≤ 64) _) hr.units
    obtain ⟨d, hd⟩ := D.obj
    obtain ⟨dg, hg⟩ := D.gram.obj
    refine ⟨_, pss_cons (ps_set (i := 1) scCount.nd rfl (Or.inr rfl) (pe_fld (pe_fld (pv 0) rfl) rfl))
      (pss_cons (ps_lock (ps_setLc (i := 2) (own := [("number", 3), ("place", 4)]) (g := gTup K 2 (gCons (gName 3) (gCons (gName 4) gNil))) (tt := tTest (tOp rEq (tFld K (tOp rIxH (tVar 1) (tVar 3)) "kind") (tC (.int 7)))) (te := tTup (tCons (tFld K (tOp rIxH (tVar 1) (tVar 3)) "a") (tCons (tVar 4) tNil))) rfl scCount.nd rfl rfl (sw_true rfl rfl rfl (by decide +kernel)) (pi_keys (pe_fld (pv 0) rfl)) (blkOk_by ?ok) ?hg ?ht ?he))
      (pss_one (ps_ret (pe_callB call_lenN (by rfl) TD.len PySem.boot_len (pa_cons (pe_callTy (call_setT rfl hu) (by rfl) TD.set PyProof.Rows.boot_set (pa_cons (pv 2) pa_nil)) pa_nil))))), ?_⟩
    case ok => rfl
    case hg => exact fun s H C cl fp => pg_tup rfl (pgs_cons (pg_name (i := 3) scCount.nd rfl (Or.inl rfl)) (pgs_cons (pg_name (i := 4) scCount.nd rfl (Or.inl rfl)) pgs_nil))
    case ht => exact fun s H C cl fp => pts_one (pt_cmpR op_eq (pe_fld (pe_ix ix_H (pv 1) (pv 3) (fun _ _ => rfl)) rfl) (pcst (T.k "RULE_USE" 7)) (nomark _))
    case he => exact fun s H C cl fp => pe_tup (pa_cons (pe_fld (pe_ix ix_H (pv 1) (pv 3) (fun _ _ => rfl)) rfl) (pa_cons (pv 4) pa_nil))
    walk_at "rd"
    rw [fldAt_of hd TD.cD TD.ng rdf_grammar, fldAt_of hg T.cG T.nn gf_nodes]
    refine ⟨kn, _, D.known, trivial, fun od => ?_⟩
    have nrk : r ≠ kn := ne_of hd D.known fun z => nomatch z
    have nlk : ln ≠ kn := ne_of D.gram.nodes D.known fun z => nomatch z
    refine ⟨_, rfl, ?_⟩
    show fldAt K "known" (.ref r) (upd H kn (.frz od (.dT (kvs (valR G (Rd02Neutral.nats t)) Kn)))) _
    rw [fldAt_of (by rw [upd_ne nrk]; exact hd) TD.cD TD.nk rdf_known]
    refine ⟨kn, od, rfl, .inr ⟨_, upd_same, fun Dl hDl => ?_⟩⟩
    have h0 : ∀ {b : Addr} {o : HO}, H b = some o → b ≠ kn → upd H kn (.frz od (.dT (kvs (valR G (Rd02Neutral.nats t)) Kn))) b = some o := fun {b o} x hb => by rw [upd_ne hb]; exact x
    have hk0 : upd H kn (.frz od (.dT (kvs (valR G (Rd02Neutral.nats t)) Kn))) kn = some (.frz od (.dT (kvs (valR G (Rd02Neutral.nats t)) Kn))) := upd_same
    generalize upd H kn (.frz od (.dT (kvs (valR G (Rd02Neutral.nats t)) Kn))) = H0 at hDl h0 hk0
    have nDk : Dl ≠ kn := fun z => by rw [z, hk0] at hDl; cases hDl
    refine ⟨fun i m H1 => i ≤ Kn.length ∧ m = Kn.length - i ∧ Same H0 H1 ∧ ∃ bs : List Addr, H1 Dl = some (.lst (bs.map V.ref)) ∧ bs.length = (pairsOf G (Kn.take i)).length ∧ ∀ (j : Nat) b y, bs[j]? = some b → (pairsOf G (Kn.take i))[j]? = some y → H1 b = some (.tup (ptv y)),
      ⟨_, Nat.zero_le _, rfl, Same.upd_new hDl, [], upd_same, rfl, fun j b y hb => by simp at hb⟩, ?_⟩
    rintro i m H1 ⟨hi, rfl, s1, bs, hD1, hbl, hbs⟩
    have hk1 := s1 _ _ hk0
    have fin : i = Kn.length ∨ i < Kn.length := by omega
    rcases fin with rfl | hlt
    · refine .inl ⟨⟨hk1, by rw [kvs_len]; exact Nat.le_refl _⟩, ?_⟩
      rw [List.take_length] at hbl hbs
      have s2 : Same H (upd H1 kn (.dT (kvs (valR G (Rd02Neutral.nats t)) Kn))) := fun b o x => by
        by_cases hb : b = kn
        · rw [hb] at x ⊢
          rw [upd_same, ← x]
          exact D.known.symm
        · rw [upd_ne hb]
          exact s1 _ _ (h0 x hb)
      refine ⟨hk1, ?_⟩
      walk_at "rd"
      have hD2 : upd H1 kn (.dT (kvs (valR G (Rd02Neutral.nats t)) Kn)) Dl = some (.lst (bs.map V.ref)) := by rw [upd_ne nDk]; exact hD1
      refine ⟨Dl, bs, (pairsOf G Kn).map keyOf, rfl, SqL.of hD2, by rw [List.length_map]; exact hbl, fun j b k hb hk => ?_, ?_, fun u hu1 hu2 a ha => ?_⟩
      · rw [List.getElem?_map] at hk
        cases hy : (pairsOf G Kn)[j]? with
        | none => rw [hy] at hk; cases hk
        | some y =>
          rw [hy] at hk
          cases hk
          have := hbs j b y hb hy
          rw [upd_ne (ne_of this hk1 fun z => nomatch z)]
          exact this
      · rw [List.length_map]
        have := pairs_len (G := G) (Kn := Kn)
        omega
      · have eu : u.length = ((pairsOf G Kn).eraseDups).length := by
          have nd : (((pairsOf G Kn).eraseDups).map keyOf).Nodup := List.pairwise_map.mpr ((nodup_eraseDups _ _ (Nat.le_refl _)).imp fun {a b} h z => h (keyOf_inj z))
          have := @length_same (List Key) instBEqOfDecidableEq inferInstance _ _ hu1 nd fun k => by
            rw [hu2, List.mem_map, List.mem_map]
            constructor
            · rintro ⟨y, hy, rfl⟩
              exact ⟨y, List.mem_eraseDups.mpr hy, rfl⟩
            · rintro ⟨y, hy, rfl⟩
              exact ⟨y, List.mem_eraseDups.mp hy, rfl⟩
          rw [this, List.length_map]
        have ub : ((pairsOf G Kn).eraseDups).length ≤ 3000 := Nat.le_trans (length_sub (nodup_eraseDups _ _ (Nat.le_refl _)) fun x hx => List.mem_eraseDups.mp hx) (Nat.le_trans pairs_len hl)
        rw [eu]
        exact ⟨a, rfl, _, upd_same, by omega, q _ (s2.trans (Same.upd_new ha))⟩
    · have hz : Kn[i]? = some Kn[i] := List.getElem?_eq_getElem hlt
      have hzin := hin _ (List.getElem_mem hlt)
      generalize Kn[i] = z at hz hzin
      refine .inr ⟨⟨hk1, by rw [kvs_len]; exact hlt⟩, fun H' => i + 1 ≤ Kn.length ∧ Same H0 H' ∧ ∃ bs : List Addr, H' Dl = some (.lst (bs.map V.ref)) ∧ bs.length = (pairsOf G (Kn.take (i + 1))).length ∧ ∀ (j : Nat) b y, bs[j]? = some b → (pairsOf G (Kn.take (i + 1)))[j]? = some y → H' b = some (.tup (ptv y)),
        fun H' ⟨x1, x2, x3⟩ => ⟨Kn.length - (i + 1), by omega, x1, rfl, x2, x3⟩, ?_⟩
      rintro x H1 ⟨rfl, k, v, a, hkv, rfl, ha⟩
      have hkz : k = keyOf z := by
        unfold kvs at hkv
        rw [List.getElem?_map, hz] at hkv
        exact (Prod.mk.inj (Option.some.inj hkv)).1.symm
      subst hkz
      refine ⟨a, _, rfl, SqT.of ha, rfl, _, _, rfl, _, _, rfl, rfl, rfl, ?_⟩
      have na : as[z.1]? = some (as[z.1]'(by rw [D.gram.len]; exact hzin)) := List.getElem?_eq_getElem _
      generalize as[z.1]'(by rw [D.gram.len]; exact hzin) = n at na
      obtain ⟨dn, kd, pa, pb, hn, rel⟩ := D.gram.node z.1 n _ na (node_at hzin)
      have hn1 := s1 _ _ (h0 hn (ne_of hn D.known fun z => nomatch z))
      have hnd1 := s1 _ _ (h0 D.gram.nodes nlk)
      have ix : ∀ Q', rIxH (.ref ln) (.int (z.1 : Int)) H1 Q' = Q' (.ref n) H1 := rIxH_of hnd1 (atI_nat (by rw [List.getElem?_map, na]; rfl))
      refine ⟨V.ref ln, rfl, V.int (z.1 : Int), rfl, ?_⟩
      show rIxH (.ref ln) (.int (z.1 : Int)) H1 _
      rw [ix]
      show fldAt K "kind" (.ref n) H1 _
      rw [fldAt_of hn1 T.cN T.nk nf_kind]
      refine ⟨rfl, _, rfl, ?_⟩
      have pt := pairs_take (G := G) hz
      have hkd := rel.kind
      by_cases h7 : (Rd02.node G z.1).kind = 7
      · obtain rfl : kd = 7 := by rw [hkd, h7]; rfl
        obtain rfl := rel.one (.inr (.inr h7))
        rw [if_pos h7] at pt
        rw [decide_eq_true rfl]
        refine ⟨V.ref ln, rfl, V.int (z.1 : Int), rfl, ?_⟩
        show rIxH (.ref ln) (.int (z.1 : Int)) H1 _
        rw [ix]
        show fldAt K "a" (.ref n) H1 _
        rw [fldAt_of hn1 T.cN T.na nf_a]
        refine ⟨V.int (z.2 : Int), rfl, by show 2 ≤ sizeLine; decide, fun p hp => ?_⟩
        have npD : Dl ≠ p := fun x => by rw [← x, hD1] at hp; cases hp
        refine ⟨bs.map V.ref, by rw [upd_ne npD]; exact hD1, ?_, hlt, fun b o x => ?_, bs ++ [p], ?_, ?_, fun j b y hb hy => ?_⟩
        · rw [List.length_map, hbl]
          have := pairs_len (G := G) (Kn := Kn.take i)
          rw [List.length_take] at this
          exact Nat.lt_of_le_of_lt (by omega : _ ≤ 3000) (by decide)
        · have hb1 := s1 _ _ x
          rw [upd_ne (fun y => by rw [y] at x; rw [hDl] at x; cases x), upd_ne (ne_of_none hb1 hp)]
          exact hb1
        · rw [upd_same, List.map_append]
          rfl
        · rw [pt, List.length_append, List.length_append, hbl]
          rfl
        · rw [pt] at hy
          by_cases hj : j < bs.length
          · rw [List.getElem?_append_left hj] at hb
            rw [List.getElem?_append_left (by rw [← hbl]; exact hj)] at hy
            have h1 := hbs j b y hb hy
            rw [upd_ne (ne_of h1 hD1 fun z => nomatch z), upd_ne (ne_of_none h1 hp)]
            exact h1
          · have hjl := (List.getElem?_eq_some_iff.mp hb).1
            rw [List.length_append, List.length_singleton] at hjl
            obtain rfl : j = bs.length := by omega
            rw [List.getElem?_append_right (Nat.le_refl _), Nat.sub_self] at hb
            rw [hbl, List.getElem?_append_right (Nat.le_refl _), Nat.sub_self] at hy
            cases hb
            cases hy
            rw [upd_ne npD.symm]
            exact upd_same
      · rw [if_neg h7, List.append_nil] at pt
        have hne : ¬ (V.int kd = V.int 7) := fun x => h7 (by have := V.int.inj x; omega)
        rw [decide_eq_false hne]
        refine ⟨hlt, s1, bs, hD1, by rw [pt]; exact hbl, fun j b y hb hy => ?_⟩
        rw [pt] at hy
        exact hbs j b y hb hy
end
end Ow
set_option Elab.async false
set_option linter.all false
set_option maxRecDepth 100000
set_option maxHeartbeats 2000000
namespace Ow
open PySem PySem.Spec PyProof.Rows L2
local macro_rules | `(tactic| walk_at "rd") => `(tactic| simp only [tSeq, tIfS, tTest, tB, tOp, tUn, tVar, tC, tRet, tRetN, tDrop, tAsg, gName, gSub, tNext, tAnd, tOr, tNot, tAndV, tOrV, tNotV, tIf, tChain, tChain3, rI, rI0, rEq, rNe, scal, tCons, tNil, tLst, tTup, tCall, tMeth_eq, tFld_eq, tMake, tCB, tBM, tBM0, TruV, tIsN, tNotN, tDGet, tDIn, sDPut,
  L2.start, List.map_cons, List.map_nil, List.cons_append, List.nil_append, List.append_nil, List.length_cons, List.length_nil, List.replicate, List.getElem?_cons_zero, List.getElem?_cons_succ, List.set_cons_zero, List.set_cons_succ, Option.some.injEq, exists_and_left, exists_eq_left', exists_eq_left, V.int.injEq, V.bl.injEq, V.ref.injEq, V.str.injEq,
  true_and, and_true, exists_const, cxOf_K, nox_K, if_true, if_false, reduceIte, decide_eq_true_eq, Bool.not_eq_true, decide_eq_false_iff_not, List.cons.injEq, Nat.reduceAdd, Nat.reduceSub, reduceCtorEq])
structure TupsAt (H : Hp) (bs : List Addr) (l : List (Nat × Nat)) : Prop where
  len : bs.length = l.length
  at_ : ∀ (i : Nat) (b : Addr) (z : Nat × Nat), bs[i]? = some b → l[i]? = some z → H b = some (.tup (ptv z))
theorem TupsAt.nil {H : Hp} : TupsAt H [] [] := ⟨rfl, fun i b z h => by simp at h⟩
theorem TupsAt.keep {H H' : Hp} {bs : List Addr} {l : List (Nat × Nat)} (T : TupsAt H bs l) (k : ∀ b xs, H b = some (.tup xs) → H' b = some (.tup xs)) : TupsAt H' bs l := ⟨T.len, fun i b z h1 h2 => k _ _ (T.at_ i b z h1 h2)⟩
theorem TupsAt.snoc {H : Hp} {bs : List Addr} {l : List (Nat × Nat)} {b : Addr} {z : Nat × Nat} (T : TupsAt H bs l) (h : H b = some (.tup (ptv z))) : TupsAt H (bs ++ [b]) (l ++ [z]) := by
  refine ⟨by rw [List.length_append, List.length_append, T.len]; rfl, fun i c y h1 h2 => ?_⟩
  by_cases hi : i < bs.length
  · rw [List.getElem?_append_left hi] at h1
    rw [List.getElem?_append_left (by rw [← T.len]; exact hi)] at h2
    exact T.at_ i c y h1 h2
  · have e1 := (List.getElem?_eq_some_iff.mp h1).1
    rw [List.length_append, List.length_singleton] at e1
    obtain rfl : i = bs.length := by omega
    rw [List.getElem?_append_right (Nat.le_refl _), Nat.sub_self] at h1
    rw [T.len, List.getElem?_append_right (Nat.le_refl _), Nat.sub_self] at h2
    cases h1
    cases h2
    exact h
theorem TupsAt.app {H : Hp} {bs cs : List Addr} {l m : List (Nat × Nat)} (T : TupsAt H bs l) (T2 : TupsAt H cs m) : TupsAt H (bs ++ cs) (l ++ m) := by
  refine ⟨by rw [List.length_append, List.length_append, T.len, T2.len], fun i c y h1 h2 => ?_⟩
  by_cases hi : i < bs.length
  · rw [List.getElem?_append_left hi] at h1
    rw [List.getElem?_append_left (by rw [← T.len]; exact hi)] at h2
    exact T.at_ i c y h1 h2
  · rw [List.getElem?_append_right (by omega)] at h1
    rw [List.getElem?_append_right (by rw [← T.len]; omega), ← T.len] at h2
    exact T2.at_ _ c y h1 h2
theorem TupsAt.rev {H : Hp} {bs : List Addr} {l : List (Nat × Nat)} (T : TupsAt H bs l) : TupsAt H bs.reverse l.reverse := by
  refine ⟨by rw [List.length_reverse, List.length_reverse, T.len], fun i c y h1 h2 => ?_⟩
  have hi := (List.getElem?_eq_some_iff.mp h1).1
  rw [List.length_reverse] at hi
  rw [List.getElem?_reverse hi] at h1
  rw [List.getElem?_reverse (by rw [← T.len]; exact hi), ← T.len] at h2
  exact T.at_ _ c y h1 h2
theorem Same.tups {H H' : Hp} (s : Same H H') : ∀ b xs, H b = some (.tup xs) → H' b = some (.tup xs) := fun b xs x => s b _ x
theorem upd_tups {H : Hp} {a : Addr} {o : HO} {ys : List V} (ha : H a = some (.lst ys)) : ∀ b xs, H b = some (.tup xs) → upd H a o b = some (.tup xs) := fun b xs x => by
  rw [upd_ne (ne_of x ha fun z => nomatch z)]
  exact x
section
variable {P : Program} {w : World} {K : PySem.W.Frag} {mg : Str → Option Value} {base : Heap} {CN CG CD : Addr}
def spTimes (CN CG CD : Addr) : Sp := fun vs H Q _ => ∃ (r g ln lr tx st kn wt : Addr) (G : Rd02.Gram) (as : List Addr) (t : List Int) (e : Nat) (Kn Pl : List (Nat × Nat)) (ws : List Addr) (a p : Nat), vs = [.ref r, .int (a : Int), .int (p : Int)] ∧
  RdAt CN CG CD H r g ln lr tx st kn wt G as t e Kn Pl ws ∧ t.length ≤ 40 ∧ p ≤ (Rd02Neutral.nats t).length ∧ (∀ q, Chain G (Rd02Neutral.nats t) a p q → (a, q) ∈ Kn) ∧ (∀ q j, q ≤ (Rd02Neutral.nats t).length → R1 G (Rd02Neutral.nats t) a q = some j → q < j ∧ j ≤ (Rd02Neutral.nats t).length) ∧
  ∀ (H' : Hp) (L : Addr) (bs : List Addr) (l : List (Nat × Nat)), Times G (Rd02Neutral.nats t) a p l → H' L = some (.lst (bs.map V.ref)) → TupsAt H' bs l → Same H H' → H L = none → Q (.ref L) H'
theorem scTimes : FnScope ["reading", "number", "place", "times", "asked"] ["reading", "number", "place"] (defScope (top 40)) := ⟨rfl, rfl, rfl, by decide +kernel, rfl, by decide +kernel, by decide +kernel⟩
theorem ok_times {f : Addr} {fd : FuncData} (F : Gf K mg "each_time" (top 40) ["reading", "number", "place"] f fd) (T : Tx K mg CN CG) (TD : TxD K mg CD) : FnOk P w K mg base CX0 1 f fd ["reading", "number", "place"] (spTimes CN CG CD) := by
  refine F.F.ok scTimes (fun vs H Q E h => ?_) (fun cdv A outer s H vs Q E hr h => ?_)
  · obtain ⟨r, g, ln, lr, tx, st, kn, wt, G, as, t, e, Kn, Pl, ws, a, p, rfl, _⟩ := h
    rfl
  · obtain ⟨r, g, ln, lr, tx, st, kn, wt, G, as, t, e, Kn, Pl, ws, a, p, rfl, D, h40, hp, hch, hpos, q⟩ := h
    have hu := hu_of hr
    have n40 : (Rd02Neutral.nats t).length ≤ 40 := by rw [nats_len]; exact h40
    refine ⟨_, pss_cons (ps_set (i := 3) scTimes.nd rfl (Or.inl rfl) (pe_lst pa_nil)) (pss_cons (ps_set (i := 4) scTimes.nd rfl (Or.inl rfl) (pe_tup (pa_cons (pv 1) (pa_cons (pv 2) pa_nil))))
      (pss_cons (ps_while PassesOwn.never (pt_cmpR op_ne (pe_dget hu (pe_fld (pv 0) rfl) (pv 4) (fun _ _ => rfl)) (pcst (T.k "FAILED" (-2))) (nomark _))
        (pss_cons (ps_expr (pe_bm PySem.F.plainAttrs_list PySem.F.slot_list_append PySem.F.type_list_append mt_append (pv 3) (pa_cons (pv 4) pa_nil)))
          (pss_one (ps_set (i := 4) scTimes.nd rfl (Or.inl rfl) (pe_tup (pa_cons (pv 1) (pa_cons (pe_dget hu (pe_fld (pv 0) rfl) (pv 4) (fun _ _ => rfl)) pa_nil)))))))
      (pss_one (ps_ret (pv 3))))), ?_⟩
    walk_at "rd"
    refine ⟨Nat.zero_le _, fun L hL => ⟨by show 2 ≤ sizeLine; decide, fun ad had => ?_⟩⟩
    have s1 := Same.upd_new (o := HO.lst []) hL
    have s2 := s1.trans (Same.upd_new (o := HO.tup [.int (a : Int), .int (p : Int)]) had)
    have nLa : L ≠ ad := fun z => by rw [← z, upd_same] at had; cases had
    refine ⟨fun m σ H1 => ∃ (j : Nat) (bs : List Addr) (l : List (Nat × Nat)) (b : Addr), σ = [some (.ref r), some (.int (a : Int)), some (.int (p : Int)), some (.ref L), some (.ref b)] ∧ H1 b = some (.tup (ptv (a, j))) ∧ H1 L = some (.lst (bs.map V.ref)) ∧ TupsAt H1 bs l ∧
        (∀ l', Times G (Rd02Neutral.nats t) a j l' → Times G (Rd02Neutral.nats t) a p (l ++ l')) ∧ (∀ q, Chain G (Rd02Neutral.nats t) a j q → (a, q) ∈ Kn) ∧ j ≤ (Rd02Neutral.nats t).length ∧ l.length ≤ j ∧ Same H H1 ∧ m = (Rd02Neutral.nats t).length - j,
      ⟨_, p, [], [], ad, rfl, upd_same, by rw [upd_ne nLa]; exact upd_same, .nil, fun l' x => x, hch, hp, Nat.zero_le _, s2, rfl⟩, ?_⟩
    rintro m σ H1 ⟨j, bs, l, b, rfl, hb, hL1, TA, tm, ch, hj, hlj, s3, rfl⟩
    have D1 := D.same s3
    obtain ⟨d1, hd1⟩ := D1.obj
    have hin : (a, j) ∈ Kn := ch j (.refl j)
    have dg : DGet H1 kn (.ref b) (some (.int (valR G (Rd02Neutral.nats t) (a, j)))) := by
      have := DGet.t (k := keyOf (a, j)) D1.known hb
      rw [valV_kvs, if_pos hin] at this
      exact this
    walk_at "rd"
    rw [fldAt_of hd1 TD.cD TD.nk rdf_known]
    refine ⟨kn, rfl, _, dg, rfl, ?_⟩
    by_cases hf : R1 G (Rd02Neutral.nats t) a j = none
    · have ev : valR G (Rd02Neutral.nats t) (a, j) = -2 := codeR_fail.mpr hf
      rw [ev]
      simp only [decide_true, Bool.not_true, Bool.false_eq_true, decide_false, Bool.not_false, if_true, if_false, reduceIte]
      have := tm [] (.nil j hf)
      rw [List.append_nil] at this
      exact q H1 L bs l this hL1 TA s3 hL
    · obtain ⟨j', hj'⟩ := Option.ne_none_iff_exists'.mp hf
      have ev : valR G (Rd02Neutral.nats t) (a, j) = (j' : Int) := by unfold valR; rw [hj']; rfl
      have hjj := hpos j j' hj hj'
      have ne : ¬ (V.int (j' : Int) = V.int (-2)) := fun z => by have := V.int.inj z; omega
      rw [ev] at dg ⊢
      rw [decide_eq_false ne]
      simp only [Bool.not_false, if_true, reduceIte]
      refine ⟨_, fun σ' H' z => z, .inl ⟨rfl, _, SqL.of hL1⟩, L, _, _, rfl, rfl, hL1, ?_, ?_⟩
      · rw [List.length_map, TA.len]
        exact Nat.lt_of_le_of_lt (by omega : l.length ≤ 40) (by decide)
      have nLr : ∀ {c : Addr} {o : HO}, H c = some o → c ≠ L := fun {c o} x z => by rw [z, hL] at x; cases x
      have s4 : Same H (upd H1 L (.lst (bs.map V.ref ++ [.ref b]))) := fun c o x => by rw [upd_ne (nLr x)]; exact s3 _ _ x
      have D2 := D.same s4
      obtain ⟨d2, hd2⟩ := D2.obj
      have nbL : b ≠ L := ne_of hb hL1 fun z => nomatch z
      have hb2 : upd H1 L (.lst (bs.map V.ref ++ [.ref b])) b = some (.tup (ptv (a, j))) := by rw [upd_ne nbL]; exact hb
      dsimp only
      rw [fldAt_of hd2 TD.cD TD.nk rdf_known]
      refine ⟨kn, rfl, .int (j' : Int), ?_, by show 2 ≤ sizeLine; decide, fun b' hb' => ?_⟩
      · have := DGet.t (k := keyOf (a, j)) D2.known hb2
        rw [valV_kvs, if_pos hin, ev] at this
        exact this
      have s5 := Same.upd_new (o := HO.tup [.int (a : Int), .int (j' : Int)]) hb'
      refine ⟨(Rd02Neutral.nats t).length - j', by omega, j', bs ++ [b], l ++ [(a, j)], b', rfl, upd_same, ?_, ?_, fun l' x => ?_, fun q' hq' => ch q' (.step j j' q' hj' hq'), hjj.2, ?_, s4.trans s5, rfl⟩
      · rw [s5 L _ upd_same, List.map_append]
        rfl
      · exact ((TA.keep (upd_tups hL1)).snoc hb2).keep (Same.tups s5)
      · have := tm _ (.cons j j' l' hj' x)
        rw [List.append_assoc]
        exact this
      · rw [List.length_append, List.length_singleton]
        omega
def spMakers (CN CG CD : Addr) : Sp := fun vs H Q _ => ∃ (r g ln lr tx st kn wt : Addr) (G : Rd02.Gram) (as : List Addr) (t : List Int) (e : Nat) (Kn Pl : List (Nat × Nat)) (ws : List Addr) (rank : Nat → Nat) (z : Nat × Nat) (na : Addr) (j : Nat), vs = [.ref r, .ref na, .int (z.2 : Int)] ∧
  RdAt CN CG CD H r g ln lr tx st kn wt G as t e Kn Pl ws ∧ t.length ≤ 40 ∧ Rd02.sound G = true ∧ RankOk G rank ∧ z.1 < G.nodes.length ∧ z.2 ≤ (Rd02Neutral.nats t).length ∧ as[z.1]? = some na ∧ Cov G (Rd02Neutral.nats t) z Kn ∧ R1 G (Rd02Neutral.nats t) z.1 z.2 = some j ∧
  ∀ (H' : Hp) (L : Addr) (bs : List Addr) (l : List (Nat × Nat)), MkOk G (Rd02Neutral.nats t) z l → H' L = some (.lst (bs.map V.ref)) → TupsAt H' bs l → Same H H' → H L = none → Q (.ref L) H'
theorem scMakers : FnScope ["reading", "node", "place", "failed"] ["reading", "node", "place"] (defScope (top 39)) := ⟨rfl, rfl, rfl, by decide +kernel, rfl, by decide +kernel, by decide +kernel⟩
theorem ok_makers {f fT : Addr} {fd fdT : FuncData} (F : Gf K mg "makers" (top 39) ["reading", "node", "place"] f fd) (T : Tx K mg CN CG) (TD : TxD K mg CD) (FT : Gf K mg "each_time" (top 40) ["reading", "number", "place"] fT fdT) : FnOk P w K mg base CX0 2 f fd ["reading", "node", "place"] (spMakers CN CG CD) := by
  have GT : FnOk P w K mg base CX0 1 fT fdT _ (spTimes CN CG CD) := ok_times FT T TD
  refine F.F.ok scMakers (fun vs H Q E h => ?_) (fun cdv A outer s H vs Q E hr h => ?_)
  · obtain ⟨r, g, ln, lr, tx, st, kn, wt, G, as, t, e, Kn, Pl, ws, rank, z, na, j, rfl, _⟩ := h
    rfl
  · obtain ⟨r, g, ln, lr, tx, st, kn, wt, G, as, t, e, Kn, Pl, ws, rank, z, na, j, rfl, D, h40, S, RK, he, hi, hna, cv, hj, q⟩ := h
    have W := D.gram.ok.toWf
    have hu := hu_of hr
    obtain ⟨d, hd⟩ := D.obj
    obtain ⟨dg, hg⟩ := D.gram.obj
    obtain ⟨dn, k, pa, pb, hn, rel⟩ := D.gram.node z.1 na _ hna (node_at he)
    refine ⟨_, pss_cons (ps_if (pt_cmpR op_eq (pe_fld (pv 1) rfl) (pcst (T.k "BOTH" 3)) (nomark _)) (pss_one (ps_ret (pe_lst (pa_cons (pe_tup (pa_cons (pe_fld (pv 1) rfl) (pa_cons (pv 2) pa_nil))) (pa_cons (pe_tup (pa_cons (pe_fld (pv 1) rfl) (pa_cons (pe_dget hu (pe_fld (pv 0) rfl) (pe_tup (pa_cons (pe_fld (pv 1) rfl) (pa_cons (pv 2) pa_nil))) (fun _ _ => rfl)) pa_nil))) pa_nil))))) pss_nil)
      (pss_cons (ps_if (pt_cmpR op_eq (pe_fld (pv 1) rfl) (pcst (T.k "EITHER" 4)) (nomark _)) (pss_cons (ps_set (i := 3) scMakers.nd rfl (Or.inl rfl) (pe_cmpR op_eq (pe_dget hu (pe_fld (pv 0) rfl) (pe_tup (pa_cons (pe_fld (pv 1) rfl) (pa_cons (pv 2) pa_nil))) (fun _ _ => rfl)) (pcst (T.k "FAILED" (-2))) (nomark _)))
        (pss_one (ps_ret (pe_lst (pa_cons (pe_tup (pa_cons (pe_ifExp (pt_val (pv 3)) (pe_fld (pv 1) rfl) (pe_fld (pv 1) rfl)) (pa_cons (pv 2) pa_nil))) pa_nil))))) pss_nil)
      (pss_cons (ps_if (pt_cmpR op_eq (pe_fld (pv 1) rfl) (pcst (T.k "AGAIN" 5)) (nomark _)) (pss_one (ps_ret (pe_call GT hr rfl FT.g FT.F.kp FT.b .nil pass0 (pa_cons (pv 0) (pa_cons (pe_fld (pv 1) rfl) (pa_cons (pv 2) pa_nil)))))) pss_nil)
      (pss_cons (ps_if (pt_cmpR op_eq (pe_fld (pv 1) rfl) (pcst (T.k "RULE_USE" 7)) (nomark _)) (pss_one (ps_ret (pe_lst (pa_cons (pe_tup (pa_cons (pe_ix ix_H (pe_fld (pe_fld (pv 0) rfl) rfl) (pe_fld (pv 1) rfl) (fun _ _ => rfl)) (pa_cons (pv 2) pa_nil))) pa_nil)))) pss_nil)
      (pss_one (ps_ret (pe_lst pa_nil)))))), ?_⟩
    walk_at "rd"
    have fg := fldAt_of hd TD.cD TD.ng rdf_grammar
    have fn := fldAt_of hg T.cG T.nn gf_nodes
    have fr := fldAt_of hg T.cG T.nr gf_rules
    have fk := fldAt_of hn T.cN T.nk nf_kind
    have fa := fldAt_of hn T.cN T.na nf_a
    have fb := fldAt_of hn T.cN T.nb nf_b
    simp only [fk]
    have hx := W.kind z.1 _ (node_at he)
    have one : ∀ (L b : Addr) (H1 : Hp) (y : Nat × Nat), MkOk G (Rd02Neutral.nats t) z [y] → Same H H1 → H1 b = some (.tup (ptv y)) → H1 L = none → Q (.ref L) (upd H1 L (.lst [.ref b])) := fun L b H1 y mk s1 hb hL =>
      q _ L [b] [y] mk upd_same (TupsAt.snoc (bs := []) (l := []) .nil (by rw [upd_ne (ne_of_none hb hL)]; exact hb)) (s1.trans (Same.upd_new hL)) (Same.free s1 hL)
    rcases (by omega : (Rd02.node G z.1).kind < 3 ∨ (Rd02.node G z.1).kind = 3 ∨ (Rd02.node G z.1).kind = 4 ∨ (Rd02.node G z.1).kind = 5 ∨ (Rd02.node G z.1).kind = 6 ∨ (Rd02.node G z.1).kind = 7) with h | h | h | h | h | h
    · have e3 : ¬ k = 3 := by have := rel.kind; omega
      have e4 : ¬ k = 4 := by have := rel.kind; omega
      have e5 : ¬ k = 5 := by have := rel.kind; omega
      have e7 : ¬ k = 7 := by have := rel.kind; omega
      simp only [V.int.injEq, e3, e4, e5, e7, reduceIte, true_and, if_false]
      refine ⟨Nat.zero_le _, fun L hL => q _ L [] [] ⟨fun x => by omega, fun x => by omega, fun x => by omega, fun x => by omega, fun _ => rfl⟩ upd_same .nil (Same.upd_new hL) hL⟩
    · obtain rfl : k = 3 := by rw [rel.kind, h]; rfl
      obtain ⟨rfl, rfl⟩ := rel.two (.inr (.inl h))
      simp only [reduceIte, Int.reduceEq, true_and, V.int.injEq]
      rw [fa]
      refine ⟨by show 2 ≤ sizeLine; decide, fun b1 hb1 => ?_⟩
      have s1 := Same.upd_new (o := HO.tup [.int ((Rd02.node G z.1).a : Int), .int (z.2 : Int)]) hb1
      rw [fldAt_of (s1 _ _ hn) T.cN T.nb nf_b, fldAt_of (s1 _ _ hd) TD.cD TD.nk rdf_known, fldAt_of (s1 _ _ hn) T.cN T.na nf_a]
      refine ⟨by show 2 ≤ sizeLine; decide, fun b2 hb2 => ?_⟩
      have s2 := s1.trans (Same.upd_new (o := HO.tup [.int ((Rd02.node G z.1).a : Int), .int (z.2 : Int)]) hb2)
      have hin : ((Rd02.node G z.1).a, z.2) ∈ Kn := cv.1 (by omega) _ (by rw [asks3 h]; exact List.mem_cons_self)
      obtain ⟨t1, t2⟩ := r_three W S he hi h
      cases qa : R1 G (Rd02Neutral.nats t) (Rd02.node G z.1).a z.2 with
      | none => rw [show R1 G (Rd02Neutral.nats t) z.1 z.2 = none by show (R G _ z.1 z.2).1 = none; rw [t1 qa]] at hj; cases hj
      | some x =>
        have ev : valR G (Rd02Neutral.nats t) ((Rd02.node G z.1).a, z.2) = (x : Int) := by unfold valR; rw [qa]; rfl
        refine ⟨kn, rfl, .int (x : Int), ?_, by show 2 ≤ sizeLine; decide, fun b3 hb3 => ⟨by show 2 ≤ sizeLine; decide, fun L hL => ?_⟩⟩
        · have := DGet.t (k := keyOf ((Rd02.node G z.1).a, z.2)) (s2 _ _ D.known) upd_same
          rw [valV_kvs, if_pos hin, ev] at this
          exact this
        have s3 := Same.upd_new (o := HO.tup [.int ((Rd02.node G z.1).b : Int), .int (x : Int)]) hb3
        have sL := Same.upd_new (o := HO.lst [.ref b1, .ref b3]) hL
        have h1 : ∀ {o : HO}, upd H b1 (HO.tup [.int ((Rd02.node G z.1).a : Int), .int (z.2 : Int)]) b1 = some o → upd (upd H b1 (HO.tup [.int ((Rd02.node G z.1).a : Int), .int (z.2 : Int)])) b2 (HO.tup [.int ((Rd02.node G z.1).a : Int), .int (z.2 : Int)]) b1 = some o := fun {o} y => Same.upd_new hb2 _ _ y
        refine q _ L [b1, b3] [((Rd02.node G z.1).a, z.2), ((Rd02.node G z.1).b, x)] ⟨fun _ => ⟨x, qa, rfl⟩, fun y => by omega, fun y => by omega, fun y => by omega, fun y => by omega⟩ upd_same ?_ ((s2.trans s3).trans sL) (Same.free (s2.trans s3) hL)
        exact TupsAt.snoc (TupsAt.snoc (bs := []) (l := []) .nil (sL _ _ (s3 _ _ (h1 upd_same)))) (sL _ _ upd_same)
    · obtain rfl : k = 4 := by rw [rel.kind, h]; rfl
      obtain ⟨rfl, rfl⟩ := rel.two (.inr (.inr h))
      simp only [reduceIte, Int.reduceEq, true_and, V.int.injEq]
      rw [fldAt_of hd TD.cD TD.nk rdf_known, fa]
      refine ⟨by show 2 ≤ sizeLine; decide, fun b1 hb1 => ?_⟩
      have s1 := Same.upd_new (o := HO.tup [.int ((Rd02.node G z.1).a : Int), .int (z.2 : Int)]) hb1
      have hin : ((Rd02.node G z.1).a, z.2) ∈ Kn := cv.1 (by omega) _ (by rw [asks4 h]; exact List.mem_cons_self)
      refine ⟨kn, rfl, .int (valR G (Rd02Neutral.nats t) ((Rd02.node G z.1).a, z.2)), ?_, rfl, ?_⟩
      · have := DGet.t (k := keyOf ((Rd02.node G z.1).a, z.2)) (s1 _ _ D.known) upd_same
        rw [valV_kvs, if_pos hin] at this
        exact this
      by_cases hf : R1 G (Rd02Neutral.nats t) (Rd02.node G z.1).a z.2 = none
      · have ev : valR G (Rd02Neutral.nats t) ((Rd02.node G z.1).a, z.2) = -2 := codeR_fail.mpr hf
        rw [ev, if_pos rfl, fldAt_of (s1 _ _ hn) T.cN T.nb nf_b]
        refine ⟨by show 2 ≤ sizeLine; decide, fun b2 hb2 => ⟨by show 1 ≤ sizeLine; decide, fun L hL => ?_⟩⟩
        have s2 := Same.upd_new (o := HO.tup [.int ((Rd02.node G z.1).b : Int), .int (z.2 : Int)]) hb2
        exact one L b2 _ ((Rd02.node G z.1).b, z.2) ⟨fun y => by omega, fun _ => by rw [if_pos hf], fun y => by omega, fun y => by omega, fun y => by omega⟩ (s1.trans s2) upd_same hL
      · have ev : ¬ (V.int (valR G (Rd02Neutral.nats t) ((Rd02.node G z.1).a, z.2)) = V.int (-2)) := fun x => hf (codeR_fail.mp (V.int.inj x))
        rw [if_neg ev, fldAt_of (s1 _ _ hn) T.cN T.na nf_a]
        refine ⟨by show 2 ≤ sizeLine; decide, fun b2 hb2 => ⟨by show 1 ≤ sizeLine; decide, fun L hL => ?_⟩⟩
        have s2 := Same.upd_new (o := HO.tup [.int ((Rd02.node G z.1).a : Int), .int (z.2 : Int)]) hb2
        exact one L b2 _ ((Rd02.node G z.1).a, z.2) ⟨fun y => by omega, fun _ => by rw [if_neg hf], fun y => by omega, fun y => by omega, fun y => by omega⟩ (s1.trans s2) upd_same hL
    · obtain rfl : k = 5 := by rw [rel.kind, h]; rfl
      obtain rfl := rel.one (.inl h)
      have la := W.one z.1 _ (node_at he) (.inl h)
      simp only [reduceIte, Int.reduceEq, true_and, V.int.injEq]
      rw [fa]
      refine ⟨r, g, ln, lr, tx, st, kn, wt, G, as, t, e, Kn, Pl, ws, (Rd02.node G z.1).a, z.2, rfl, D, h40, hi, cv.2 h, fun q' j' hq' hj' => ⟨five_pos W S RK he hq' h hj', (r1_le W S la hq' hj').2⟩, fun H' L bs l tm h1 h2 h3 h4 => ?_⟩
      exact q H' L bs l ⟨fun y => by omega, fun y => by omega, fun _ => tm, fun y => by omega, fun y => by omega⟩ h1 h2 h3 h4
    · have e3 : ¬ k = 3 := by have := rel.kind; omega
      have e4 : ¬ k = 4 := by have := rel.kind; omega
      have e5 : ¬ k = 5 := by have := rel.kind; omega
      have e7 : ¬ k = 7 := by have := rel.kind; omega
      simp only [V.int.injEq, e3, e4, e5, e7, reduceIte, true_and, if_false]
      refine ⟨Nat.zero_le _, fun L hL => q _ L [] [] ⟨fun x => by omega, fun x => by omega, fun x => by omega, fun x => by omega, fun _ => rfl⟩ upd_same .nil (Same.upd_new hL) hL⟩
    · obtain rfl : k = 7 := by rw [rel.kind, h]; rfl
      obtain rfl := rel.one (.inr (.inr h))
      simp only [reduceIte, Int.reduceEq, true_and, V.int.injEq]
      obtain ⟨d7, hd7, ld, rd⟩ := RK.seven z.1 he h
      have h16 := D.gram.ok.seven z.1 _ (node_at he) h
      have hru : G.rules[(Rd02.node G z.1).a]? = some d7 := by
        have hl16 : (Rd02.node G z.1).a < G.rules.length := by rw [D.gram.ok.rlen]; exact h16
        have e0 := List.getElem?_eq_getElem hl16
        have e1 := hd7
        rw [bodyOf_eq e0] at e1
        unfold ruleO at e1
        split at e1
        · rw [e0, Option.some.inj e1]
        · cases e1
      rw [fg, fr, fa, rIxH_of D.gram.rules (v := .int (d7 : Int)) (atI_nat (by rw [List.getElem?_map, hru]; show some (if d7 < _ then _ else _) = _; rw [if_pos ld]))]
      refine ⟨by show 2 ≤ sizeLine; decide, fun b2 hb2 => ⟨by show 1 ≤ sizeLine; decide, fun L hL => ?_⟩⟩
      have s2 := Same.upd_new (o := HO.tup [.int (d7 : Int), .int (z.2 : Int)]) hb2
      exact one L b2 _ (d7, z.2) ⟨fun y => by omega, fun y => by omega, fun y => by omega, fun _ => ⟨d7, hd7, rfl⟩, fun y => by omega⟩ s2 upd_same hL
end
end Ow
set_option Elab.async false
set_option linter.all false
set_option maxRecDepth 100000
set_option maxHeartbeats 2000000
namespace Ow
open PySem PySem.Spec PyProof.Rows L2
local macro_rules | `(tactic| walk_at "rd") => `(tactic| simp only [tSeq, tIfS, tTest, tB, tOp, tUn, tVar, tC, tRet, tRetN, tDrop, tAsg, gName, gSub, tNext, tAnd, tOr, tNot, tAndV, tOrV, tNotV, tIf, tChain, tChain3, rI, rI0, rEq, rNe, scal, tCons, tNil, tLst, tTup, tCall, tMeth_eq, tFld_eq, tMake, tCB, tBM, tBM0, TruV, tIsN, tNotN, tDGet, tDIn, sDPut,
  L2.start, List.map_cons, List.map_nil, List.cons_append, List.nil_append, List.append_nil, List.length_cons, List.length_nil, List.replicate, List.getElem?_cons_zero, List.getElem?_cons_succ, List.set_cons_zero, List.set_cons_succ, Option.some.injEq, exists_and_left, exists_eq_left', exists_eq_left, V.int.injEq, V.bl.injEq, V.ref.injEq, V.str.injEq,
  true_and, and_true, exists_const, cxOf_K, nox_K, if_true, if_false, reduceIte, decide_eq_true_eq, Bool.not_eq_true, decide_eq_false_iff_not, List.cons.injEq, Nat.reduceAdd, Nat.reduceSub, reduceCtorEq])
section
variable {P : Program} {w : World} {K : PySem.W.Frag} {mg : Str → Option Value} {base : Heap} {CN CG CD : Addr}
def ni (l : List Nat) : List V := l.map fun (n : Nat) => V.int (n : Int)
theorem flat_app (a b : List Rd02.Use) : Rd02.flat (a ++ b) = Rd02.flat a ++ Rd02.flat b := List.flatMap_append ..
theorem flat_len (a : List Rd02.Use) : (Rd02.flat a).length = 3 * a.length := by
  induction a with
  | nil => rfl
  | cons u a ih =>
    show (u.1 :: u.2.1 :: u.2.2 :: Rd02.flat a).length = _
    rw [List.length_cons, List.length_cons, List.length_cons, ih, List.length_cons]
    omega
def spNumbers (CN CG CD : Addr) : Sp := fun vs H Q _ => ∃ (r g ln lr tx st kn wt : Addr) (G : Rd02.Gram) (as : List Addr) (t : List Int) (e : Nat) (Kn Pl : List (Nat × Nat)) (ws : List Addr) (rank : Nat → Nat) (j : Nat), vs = [.ref r] ∧
  RdAt CN CG CD H r g ln lr tx st kn wt G as t e Kn Pl ws ∧ t.length ≤ 40 ∧ Rd02.sound G = true ∧ RankOk G rank ∧ e < G.nodes.length ∧ Rn G (Rd02Neutral.nats t) rank e Kn [] ∧ R1 G (Rd02Neutral.nats t) e 0 = some j ∧
  ∀ (H' : Hp) (L : Addr), H' L = some (.lst (ni (Rd02.flat (U G (Rd02Neutral.nats t) (e, 0))))) → (Rd02.flat (U G (Rd02Neutral.nats t) (e, 0))).length ≤ 20000 → Same H H' → H L = none → Q (.ref L) H'
theorem scNumbers : FnScope ["reading", "told", "waiting", "asked", "place", "behind", "node"] ["reading"] (defScope (top 38)) := ⟨rfl, rfl, rfl, by decide +kernel, rfl, by decide +kernel, by decide +kernel⟩
theorem mk_known {G : Rd02.Gram} {s : List Nat} {z : Nat × Nat} {Kn l : List (Nat × Nat)} {j : Nat} (W : Wf G) (S : Rd02.sound G = true) (he : z.1 < G.nodes.length) (hi : z.2 ≤ s.length) (h : R1 G s z.1 z.2 = some j) (c : Cov G s z Kn) (M : MkOk G s z l) : ∀ w ∈ l, w ∈ Kn := by
  have hx := W.kind z.1 _ (node_at he)
  intro w hw
  rcases (by omega : ((Rd02.node G z.1).kind < 3 ∨ (Rd02.node G z.1).kind = 6) ∨ (Rd02.node G z.1).kind = 3 ∨ (Rd02.node G z.1).kind = 4 ∨ (Rd02.node G z.1).kind = 5 ∨ (Rd02.node G z.1).kind = 7) with k | k | k | k | k
  · rw [M.else_ k] at hw
    cases hw
  · obtain ⟨x, hx, rfl⟩ := M.three k
    refine c.1 (by omega) w ?_
    rw [asks3 k, hx]
    exact hw
  · rw [M.four k] at hw
    refine c.1 (by omega) w ?_
    rw [asks4 k, List.mem_singleton.mp hw]
    cases qa : R1 G s (Rd02.node G z.1).a z.2 with
    | none => rw [if_pos rfl]; exact List.mem_cons_of_mem _ (List.mem_singleton.mpr rfl)
    | some x => rw [if_neg (fun y => nomatch y)]; exact List.mem_cons_self
  · have T := M.five k
    have cc := c.2 k
    have : ∀ {i l}, Times G s (Rd02.node G z.1).a i l → (∀ q, Chain G s (Rd02.node G z.1).a i q → ((Rd02.node G z.1).a, q) ∈ Kn) → ∀ w ∈ l, w ∈ Kn := fun {i l} T => by
      induction T with
      | nil i q => exact fun _ w hw => nomatch hw
      | cons i j l q _ ih =>
        intro cc w hw
        rcases List.mem_cons.mp hw with rfl | hw
        · exact cc i (.refl i)
        · exact ih (fun q' hq' => cc q' (.step i j q' q hq')) w hw
    exact this T cc w hw
  · obtain ⟨d, hd, rfl⟩ := M.seven k
    refine c.1 (by omega) w ?_
    rw [asks7 k hd]
    exact hw
theorem times_unique {G : Rd02.Gram} {s : List Nat} {a i : Nat} {l m : List (Nat × Nat)} (h : Times G s a i l) (h' : Times G s a i m) : l = m := by
  induction h generalizing m with
  | nil i q =>
    cases h' with
    | nil _ _ => rfl
    | cons _ j _ q' _ => rw [q] at q'; cases q'
  | cons i j l q _ ih =>
    cases h' with
    | nil _ q' => rw [q] at q'; cases q'
    | cons _ j' l' q' t' =>
      rw [q] at q'
      cases q'
      rw [ih t']
theorem mk_unique {G : Rd02.Gram} {s : List Nat} {z : Nat × Nat} {l m : List (Nat × Nat)} (W : Wf G) (he : z.1 < G.nodes.length) (h : MkOk G s z l) (h' : MkOk G s z m) : l = m := by
  have hx := W.kind z.1 _ (node_at he)
  rcases (by omega : ((Rd02.node G z.1).kind < 3 ∨ (Rd02.node G z.1).kind = 6) ∨ (Rd02.node G z.1).kind = 3 ∨ (Rd02.node G z.1).kind = 4 ∨ (Rd02.node G z.1).kind = 5 ∨ (Rd02.node G z.1).kind = 7) with k | k | k | k | k
  · rw [h.else_ k, h'.else_ k]
  · obtain ⟨x, hx, rfl⟩ := h.three k
    obtain ⟨y, hy, rfl⟩ := h'.three k
    rw [hx] at hy
    cases hy
    rfl
  · rw [h.four k, h'.four k]
  · exact times_unique (h.five k) (h'.five k)
  · obtain ⟨d, hd, rfl⟩ := h.seven k
    obtain ⟨d', hd', rfl⟩ := h'.seven k
    rw [hd] at hd'
    cases hd'
    rfl
theorem ok_numbers {f fM : Addr} {fd fdM : FuncData} (F : Gf K mg "numbers_of_uses" (top 38) ["reading"] f fd) (T : Tx K mg CN CG) (TD : TxD K mg CD) (FM : Gf K mg "makers" (top 39) ["reading", "node", "place"] fM fdM) (GM : FnOk P w K mg base CX0 2 fM fdM ["reading", "node", "place"] (spMakers CN CG CD)) :
    FnOk P w K mg base CX0 3 f fd ["reading"] (spNumbers CN CG CD) := by
  refine F.F.ok scNumbers (fun vs H Q E h => ?_) (fun cdv A outer s H vs Q E hr h => ?_)
  · obtain ⟨r, g, ln, lr, tx, st, kn, wt, G, as, t, e, Kn, Pl, ws, rank, j, rfl, _⟩ := h
    rfl
  · obtain ⟨r, g, ln, lr, tx, st, kn, wt, G, as, t, e, Kn, Pl, ws, rank, j, rfl, D, h40, S, RK, he, N, hj, q⟩ := h
    have W := D.gram.ok.toWf
    have hu := hu_of hr
    have n40 : (Rd02Neutral.nats t).length ≤ 40 := by rw [nats_len]; exact h40
    obtain ⟨d, hd⟩ := D.obj
    refine ⟨_, pss_cons (ps_set (i := 1) scNumbers.nd rfl (Or.inl rfl) (pe_lst pa_nil)) (pss_cons (ps_set (i := 2) scNumbers.nd rfl (Or.inl rfl) (pe_lst (pa_cons (pe_fld (pv 0) rfl) pa_nil)))
      (pss_cons (ps_while PassesOwn.never (pt_truth (pv 2) (fun _ => rfl))
        (pss_cons (ps_set (i := 3) scNumbers.nd rfl (Or.inl rfl) (pe_bm0 PySem.F.plainAttrs_list PySem.F.slot_list_pop PySem.F.type_list_pop mt_pop (pv 2)))
        (pss_cons (ps_set (i := 4) scNumbers.nd rfl (Or.inl rfl) (pe_ix ix_tup (pv 3) pe_int (fun _ _ => rfl)))
        (pss_cons (ps_set (i := 5) scNumbers.nd rfl (Or.inl rfl) (pe_dget hu (pe_fld (pv 0) rfl) (pv 3) (fun _ _ => rfl)))
        (pss_cons (ps_if (pt_cmpR op_eq (pv 5) (pv 4) (nomark _)) (pss_one ps_continue) pss_nil)
        (pss_cons (ps_set (i := 6) scNumbers.nd rfl (Or.inl rfl) (pe_ix ix_H (pe_fld (pe_fld (pv 0) rfl) rfl) (pe_ix ix_tup (pv 3) pe_int (fun _ _ => rfl)) (fun _ _ => rfl)))
        (pss_cons (ps_if (pt_cmpR op_eq (pe_fld (pv 6) rfl) (pcst (T.k "RULE_USE" 7)) (nomark _)) (pss_one (ps_expr (pe_bm PySem.F.plainAttrs_list PySem.F.slot_list_extend PySem.F.type_list_extend mt_extend (pv 1) (pa_cons (pe_lst (pa_cons (pe_fld (pv 6) rfl) (pa_cons (pv 4) (pa_cons (pv 5) pa_nil)))) pa_nil)))) pss_nil)
        (pss_one (ps_expr (pe_bm PySem.F.plainAttrs_list PySem.F.slot_list_extend PySem.F.type_list_extend mt_extend (pv 2) (pa_cons (pe_listRev rfl (by rfl) TD.list (by rfl) TD.rev (pe_call GM hr rfl FM.g FM.F.kp FM.b .nil pass0 (pa_cons (pv 0) (pa_cons (pv 6) (pa_cons (pv 4) pa_nil))))) pa_nil))))))))))
      )
      (pss_one (ps_ret (pv 1))))), ?_⟩
    walk_at "rd"
    refine ⟨Nat.zero_le _, fun T1 hT1 => ?_⟩
    have s1 := Same.upd_new (o := HO.lst []) hT1
    rw [fldAt_of (s1 _ _ hd) TD.cD TD.ns rdf_start]
    refine ⟨by show 1 ≤ sizeLine; decide, fun W1 hW1 => ?_⟩
    have s2 := s1.trans (Same.upd_new (o := HO.lst [.ref st]) hW1)
    have hW1' : H W1 = none := Same.free s1 hW1
    have nTW : T1 ≠ W1 := fun z => by rw [← z, upd_same] at hW1; cases hW1
    obtain ⟨n0, hn0, td0⟩ := todo_one W S RK he hj D.gram.ok.small n40
    have st0 : (e, 0) ∈ Kn := by have := N.start; rw [List.append_nil] at this; exact this
    have inR : ∀ {z : Nat × Nat}, z ∈ Kn → z.1 < G.nodes.length ∧ z.2 ≤ (Rd02Neutral.nats t).length := fun {z} hz => (N.reach z (List.mem_append_left _ hz)).in_ W S he (Nat.zero_le _)
    have tot : (Rd02.flat (U G (Rd02Neutral.nats t) (e, 0))).length ≤ 3 * 6000 := by
      rw [flat_len]
      have := td0.uses W S RK fun z hz => by rw [List.mem_singleton.mp hz]; exact ⟨he, Nat.zero_le _⟩
      rw [List.flatMap_cons, List.flatMap_nil, List.append_nil] at this
      omega
    refine ⟨fun m σ H1 => ∃ (l : List (Nat × Nat)) (bs : List Addr) (ns : List Nat) (v3 v4 v5 v6 : Option V), σ = [some (.ref r), some (.ref T1), some (.ref W1), v3, v4, v5, v6] ∧ H1 T1 = some (.lst (ni ns)) ∧ H1 W1 = some (.lst (bs.map V.ref)) ∧ TupsAt H1 bs l.reverse ∧
        ns ++ Rd02.flat (l.flatMap (U G (Rd02Neutral.nats t))) = Rd02.flat (U G (Rd02Neutral.nats t) (e, 0)) ∧ Todo G (Rd02Neutral.nats t) l m ∧ m ≤ 6000 ∧ (∀ z ∈ l, z ∈ Kn) ∧ Same H H1,
      ⟨n0, [(e, 0)], [st], [], none, none, none, none, rfl, by rw [upd_ne nTW]; exact upd_same, upd_same, TupsAt.snoc (bs := []) (l := []) .nil (s2 _ _ D.start), by simp, td0, hn0, fun z hz => by rw [List.mem_singleton.mp hz]; exact st0, s2⟩, ?_⟩
    rintro m σ H1 ⟨l, bs, ns, v3, v4, v5, v6, rfl, hT, hW, TA, hns, td, hm, hkn, s3⟩
    walk_at "rd"
    refine ⟨_, .inl ⟨_, SqL.of hW, rfl⟩, ?_⟩
    have split : ∀ {z : Nat × Nat} {l' : List (Nat × Nat)}, TupsAt H1 bs (z :: l').reverse → ∃ bs' a, bs = bs' ++ [a] ∧ H1 a = some (.tup (ptv z)) ∧ TupsAt H1 bs' l'.reverse := fun {z l'} TA => by
      rw [List.reverse_cons] at TA
      rcases List.eq_nil_or_concat bs with rfl | ⟨bs', a, rfl⟩
      · have := TA.len
        simp at this
      · rw [List.concat_eq_append] at TA ⊢
        have hl : bs'.length = l'.reverse.length := by
          have := TA.len
          rw [List.length_append, List.length_append] at this
          simpa using this
        refine ⟨bs', a, rfl, TA.at_ bs'.length a z ?_ ?_, hl, fun i b y h1 h2 => TA.at_ i b y ?_ ?_⟩
        · rw [List.getElem?_append_right (Nat.le_refl _), Nat.sub_self]; rfl
        · rw [hl, List.getElem?_append_right (Nat.le_refl _), Nat.sub_self]; rfl
        · rw [List.getElem?_append_left (List.getElem?_eq_some_iff.mp h1).1]; exact h1
        · rw [List.getElem?_append_left (List.getElem?_eq_some_iff.mp h2).1]; exact h2
    cases td with
    | nil =>
      have : bs = [] := List.length_eq_zero_iff.mp TA.len
      subst this
      rw [if_neg (by simp)]
      have e1 : ns = Rd02.flat (U G (Rd02Neutral.nats t) (e, 0)) := by
        have e2 : Rd02.flat (([] : List (Nat × Nat)).flatMap (U G (Rd02Neutral.nats t))) = [] := rfl
        rw [e2, List.append_nil] at hns
        exact hns
      rw [e1] at hT
      exact q H1 T1 hT (by omega) s3 hT1
    | skip z l m' hz0 td' =>
      obtain ⟨bs', a, rfl, ha, TA'⟩ := split TA
      obtain ⟨zR1, zR2⟩ := inR (hkn z List.mem_cons_self)
      rw [if_pos (by simp)]
      refine ⟨_, fun σ' H' z => z, .inl ⟨rfl, _, SqL.of hW⟩, W1, _, .ref a, rfl, rfl, hW, ?_, ?_⟩
      · rw [List.length_map, List.length_append, List.length_singleton, Nat.add_sub_cancel, List.map_append, List.getElem?_append_right (by rw [List.length_map]; exact Nat.le_refl _), List.length_map, Nat.sub_self]
        rfl
      have dl : ((bs' ++ [a]).map V.ref).dropLast = bs'.map V.ref := by rw [List.map_append]; simp
      rw [dl]
      have s4 : Same H (upd H1 W1 (.lst (bs'.map V.ref))) := fun b o x => by
        rw [upd_ne (fun y => by rw [y, hW1'] at x; cases x)]
        exact s3 _ _ x
      have ha2 : upd H1 W1 (.lst (bs'.map V.ref)) a = some (.tup (ptv z)) := upd_tups hW _ _ ha
      have hT2 : upd H1 W1 (.lst (bs'.map V.ref)) T1 = some (.lst (ni ns)) := by rw [upd_ne nTW]; exact hT
      have hW2 : upd H1 W1 (.lst (bs'.map V.ref)) W1 = some (.lst (bs'.map V.ref)) := upd_same
      have TA2 := TA'.keep (upd_tups (o := .lst (bs'.map V.ref)) hW)
      generalize upd H1 W1 (.lst (bs'.map V.ref)) = H2 at s4 ha2 hT2 hW2 TA2
      have D2 := D.same s4
      obtain ⟨d2, hd2⟩ := D2.obj
      obtain ⟨dg2, hg2⟩ := D2.gram.obj
      refine ⟨a, _, 1, .int (z.2 : Int), rfl, rfl, SqT.of ha2, rfl, ?_⟩
      dsimp only
      rw [fldAt_of hd2 TD.cD TD.nk rdf_known]
      refine ⟨kn, rfl, .int (valR G (Rd02Neutral.nats t) z), ?_, rfl, ?_⟩
      · have := DGet.t (k := keyOf z) D2.known ha2
        rw [valV_kvs, if_pos (hkn z List.mem_cons_self)] at this
        exact this
      have ev : valR G (Rd02Neutral.nats t) z = (z.2 : Int) := by unfold valR; rw [hz0]; rfl
      rw [ev, if_pos rfl]
      refine ⟨m', by omega, l, bs', ns, _, _, _, _, rfl, hT2, hW2, TA2, ?_, td', by omega, fun y hy => hkn y (List.mem_cons_of_mem _ hy), s4⟩
      rw [List.flatMap_cons, show U G (Rd02Neutral.nats t) z = [] from no_use W S RK _ z.1 z.2 (Nat.le_refl _) zR1 zR2 hz0, List.nil_append] at hns
      exact hns
    | node z x mk l m' hzx hlt M td' =>
      obtain ⟨bs', a, rfl, ha, TA'⟩ := split TA
      obtain ⟨zR1, zR2⟩ := inR (hkn z List.mem_cons_self)
      rw [if_pos (by simp)]
      refine ⟨_, fun σ' H' z => z, .inl ⟨rfl, _, SqL.of hW⟩, W1, _, .ref a, rfl, rfl, hW, ?_, ?_⟩
      · rw [List.length_map, List.length_append, List.length_singleton, Nat.add_sub_cancel, List.map_append, List.getElem?_append_right (by rw [List.length_map]; exact Nat.le_refl _), List.length_map, Nat.sub_self]
        rfl
      have dl : ((bs' ++ [a]).map V.ref).dropLast = bs'.map V.ref := by rw [List.map_append]; simp
      rw [dl]
      have s4 : Same H (upd H1 W1 (.lst (bs'.map V.ref))) := fun b o x => by
        rw [upd_ne (fun y => by rw [y, hW1'] at x; cases x)]
        exact s3 _ _ x
      have ha2 : upd H1 W1 (.lst (bs'.map V.ref)) a = some (.tup (ptv z)) := upd_tups hW _ _ ha
      have hT2 : upd H1 W1 (.lst (bs'.map V.ref)) T1 = some (.lst (ni ns)) := by rw [upd_ne nTW]; exact hT
      have hW2 : upd H1 W1 (.lst (bs'.map V.ref)) W1 = some (.lst (bs'.map V.ref)) := upd_same
      have TA2 := TA'.keep (upd_tups (o := .lst (bs'.map V.ref)) hW)
      generalize upd H1 W1 (.lst (bs'.map V.ref)) = H2 at s4 ha2 hT2 hW2 TA2
      have D2 := D.same s4
      obtain ⟨d2, hd2⟩ := D2.obj
      obtain ⟨dg2, hg2⟩ := D2.gram.obj
      refine ⟨a, _, 1, .int (z.2 : Int), rfl, rfl, SqT.of ha2, rfl, ?_⟩
      dsimp only
      rw [fldAt_of hd2 TD.cD TD.nk rdf_known]
      refine ⟨kn, rfl, .int (valR G (Rd02Neutral.nats t) z), ?_, rfl, ?_⟩
      · have := DGet.t (k := keyOf z) D2.known ha2
        rw [valV_kvs, if_pos (hkn z List.mem_cons_self)] at this
        exact this
      have ev : valR G (Rd02Neutral.nats t) z = (x : Int) := by unfold valR; rw [hzx]; rfl
      have hne : ¬ (V.int (x : Int) = V.int (z.2 : Int)) := fun y => by have := V.int.inj y; omega
      rw [ev, if_neg hne]
      walk_at "rd"
      have hna : as[z.1]? = some (as[z.1]'(by rw [D.gram.len]; exact zR1)) := List.getElem?_eq_getElem _
      generalize as[z.1]'(by rw [D.gram.len]; exact zR1) = na at hna
      obtain ⟨dn, kd, pa, pb, hn, rel⟩ := D2.gram.node z.1 na _ hna (node_at zR1)
      have uz := uses_of W S RK zR1 zR2 hzx M
      rw [List.flatMap_cons, uz, List.append_assoc, ← List.flatMap_append, flat_app] at hns
      have tail : ∀ (H3 : Hp) (ns' : List Nat), Same H H3 → H3 T1 = some (.lst (ni ns')) → H3 W1 = some (.lst (bs'.map V.ref)) → TupsAt H3 bs' l.reverse → ns' ++ Rd02.flat ((mk ++ l).flatMap (U G (Rd02Neutral.nats t))) = Rd02.flat (U G (Rd02Neutral.nats t) (e, 0)) →
          tyV K "list" (V.ref W1) H3 ∧ tListRev K (tCall (spMakers CN CG CD) [] E0 (tCons (tVar 0) (tCons (tVar 6) (tCons (tVar 4) tNil)))) [some (V.ref r), some (V.ref T1), some (V.ref W1), some (V.ref a), some (V.int (z.2 : Int)), some (V.int (x : Int)), some (V.ref na)] H3 fun x_7 H1 =>
            rExtend (V.ref W1) [x_7] H1 fun x_8 H1 => ∃ m'_1, m'_1 < m' + 1 ∧ ∃ l bs ns v3 v4 v5 v6, (some (V.ref a) = v3 ∧ some (V.int (z.2 : Int)) = v4 ∧ some (V.int (x : Int)) = v5 ∧ some (V.ref na) = v6) ∧ H1 T1 = some (HO.lst (ni ns)) ∧ H1 W1 = some (HO.lst (List.map V.ref bs)) ∧
              TupsAt H1 bs l.reverse ∧ ns ++ Rd02.flat (List.flatMap (U G (Rd02Neutral.nats t)) l) = Rd02.flat (U G (Rd02Neutral.nats t) (e, 0)) ∧ Todo G (Rd02Neutral.nats t) l m'_1 ∧ m'_1 ≤ 6000 ∧ (∀ (z : Nat × Nat), z ∈ l → z ∈ Kn) ∧ Same H H1 := by
        intro H3 ns' s5 hT3 hW3 TA3 hns'
        refine ⟨.inl ⟨rfl, _, SqL.of hW3⟩, ?_⟩
        have D3 := D.same s5
        refine ⟨_, rfl, _, rfl, _, rfl, r, g, ln, lr, tx, st, kn, wt, G, as, t, e, Kn, Pl, ws, rank, z, na, x, rfl, D3, h40, S, RK, zR1, zR2, hna, N.cov z (hkn z List.mem_cons_self), hzx, fun H4 L bm l1 M1 hL4 TB s6 hL => ?_⟩
        obtain rfl := mk_unique W zR1 M M1
        refine ⟨L, _, rfl, SqL.of hL4, fun L2 hL2 => ?_⟩
        have hW4 := s6 _ _ hW3
        have s7 := Same.upd_new (o := HO.lst (bm.map V.ref).reverse) hL2
        have hW5 := s7 _ _ hW4
        have nWL : W1 ≠ L2 := ne_of_none hW4 hL2
        have tl := td'.len
        rw [List.length_append] at tl
        refine ⟨W1, L2, _, _, rfl, rfl, hW5, upd_same, ?_, ?_⟩
        · rw [List.length_map, List.length_reverse, List.length_map, TA3.len, TB.len, List.length_reverse]
          exact Nat.le_trans (by omega : l.length + mk.length ≤ 6000) (by decide)
        · refine ⟨m', Nat.lt_succ_self _, mk ++ l, bs' ++ bm.reverse, ns', _, _, _, _, ⟨rfl, rfl, rfl, rfl⟩, ?_, ?_, ?_, hns', td', by omega, fun y hy => ?_, fun b o y => ?_⟩
          · rw [upd_ne nTW]
            exact s7 _ _ (s6 _ _ hT3)
          · rw [upd_same, List.map_append, List.map_reverse]
          · rw [List.reverse_append]
            exact ((TA3.keep (Same.tups (s6.trans s7))).app (TB.rev.keep (Same.tups s7))).keep (upd_tups hW5)
          · rcases List.mem_append.mp hy with hy | hy
            · exact mk_known W S zR1 zR2 hzx (N.cov z (hkn z List.mem_cons_self)) M y hy
            · exact hkn y (List.mem_cons_of_mem _ hy)
          · rw [upd_ne (fun z => by rw [z, hW1'] at y; cases y)]
            exact s7 _ _ (s6 _ _ (s5 _ _ y))
      rw [fldAt_of hd2 TD.cD TD.ng rdf_grammar, fldAt_of hg2 T.cG T.nn gf_nodes]
      refine ⟨a, _, 0, .int (z.1 : Int), rfl, rfl, SqT.of ha2, rfl, ?_⟩
      dsimp only
      rw [rIxH_of D2.gram.nodes (v := .ref na) (atI_nat (by rw [List.getElem?_map, hna]; rfl)), fldAt_of hn T.cN T.nk nf_kind]
      refine ⟨rfl, ?_⟩
      have hkd := rel.kind
      by_cases h7 : (Rd02.node G z.1).kind = 7
      · obtain rfl : kd = 7 := by rw [hkd, h7]; rfl
        obtain rfl := rel.one (.inr (.inr h7))
        have eo : own G (Rd02Neutral.nats t) z = [((Rd02.node G z.1).a, z.2, x)] := by
          unfold own
          rw [hzx]
          exact if_pos ⟨h7, hlt⟩
        rw [eo] at hns
        rw [if_pos rfl]
        refine ⟨.inl ⟨rfl, _, SqL.of hT2⟩, ?_⟩
        rw [fldAt_of hn T.cN T.na nf_a]
        refine ⟨by show 3 ≤ sizeLine; decide, fun p hp => ?_⟩
        have s5 := Same.upd_new (o := HO.lst [.int ((Rd02.node G z.1).a : Int), .int (z.2 : Int), .int (x : Int)]) hp
        have nsl : ns.length ≤ 18000 := by
          have := congrArg List.length hns
          rw [List.length_append] at this
          omega
        refine ⟨T1, p, _, _, rfl, rfl, s5 _ _ hT2, upd_same, ?_, ?_⟩
        · unfold ni
          rw [List.length_map]
          exact Nat.le_trans (Nat.add_le_add_right nsl 3) (by decide)
        · refine tail _ (ns ++ [(Rd02.node G z.1).a, z.2, x]) (fun b o y => ?_) ?_ ?_ ?_ ?_
          · rw [upd_ne (fun z => by rw [z, hT1] at y; cases y)]
            exact s5 _ _ (s4 _ _ y)
          · rw [upd_same]
            unfold ni
            rw [List.map_append]
            rfl
          · rw [upd_ne nTW.symm]
            exact s5 _ _ hW2
          · exact (TA2.keep (Same.tups s5)).keep (upd_tups (s5 _ _ hT2))
          · rw [List.append_assoc]
            exact hns
      · have hne7 : ¬ (V.int kd = V.int 7) := fun y => h7 (by have := V.int.inj y; omega)
        have eo : own G (Rd02Neutral.nats t) z = [] := by
          unfold own
          rw [hzx]
          exact if_neg fun y => h7 y.1
        rw [eo] at hns
        rw [if_neg hne7]
        exact tail H2 ns s4 hT2 hW2 TA2 hns
end
end Ow
set_option Elab.async false
set_option linter.all false
set_option maxRecDepth 100000
set_option maxHeartbeats 2000000
namespace Ow
open PySem PySem.Spec PyProof.Rows L2
local macro_rules | `(tactic| walk_at "rd") => `(tactic| simp only [tSeq, tIfS, tTest, tB, tOp, tUn, tVar, tC, tRet, tRetN, tDrop, tAsg, gName, gSub, tNext, tAnd, tOr, tNot, tAndV, tOrV, tNotV, tIf, tChain, tChain3, rI, rI0, rEq, rNe, scal, tCons, tNil, tLst, tTup, tCall, tMeth_eq, tFld_eq, tMake, tCB, tBM, tBM0, TruV, tIsN, tNotN, tDGet, tDIn, sDPut,
  L2.start, List.map_cons, List.map_nil, List.cons_append, List.nil_append, List.append_nil, List.length_cons, List.length_nil, List.replicate, List.getElem?_cons_zero, List.getElem?_cons_succ, List.set_cons_zero, List.set_cons_succ, Option.some.injEq, exists_and_left, exists_eq_left', exists_eq_left, V.int.injEq, V.bl.injEq, V.ref.injEq, V.str.injEq,
  true_and, and_true, exists_const, cxOf_K, nox_K, if_true, if_false, reduceIte, decide_eq_true_eq, Bool.not_eq_true, decide_eq_false_iff_not, List.cons.injEq, Nat.reduceAdd, Nat.reduceSub, reduceCtorEq])
section
variable {P : Program} {w : World} {K : PySem.W.Frag} {mg : Str → Option Value} {base : Heap} {CN CG CR CD P1 P2 : Addr}
abbrev sRow : Stmt := inClass (top 52) 3
def spRow (K : PySem.W.Frag) (CR : Addr) : Sp := fun vs H Q _ => ∃ (r nums : Addr) (ns : List Int) (place : Nat) (t rest : List Int), vs = [.ref r] ∧ ReadAt K CR H r nums ns place ∧ ns.drop place = (t.length : Int) :: (t ++ rest) ∧
  ∀ (H' : Hp) (p : Addr), ReadAt K CR H' r nums ns (place + 1 + t.length) → But r H H' → H p = none → H' p = some (.lst (t.map V.int)) → Q (.ref p) H'
theorem scRow : FnScope ["self", "count", "begin"] ["self"] (defScope sRow) := ⟨rfl, rfl, rfl, by decide +kernel, rfl, by decide +kernel, by decide +kernel⟩
theorem ok_row {f fN : Addr} {fd fdN : FuncData} (F : Mf K CR "read_row" "Reader.read_row" sRow ["self"] f fd) (TR : TxR K mg CR) (FN : Mf K CR "read_number" "Reader.read_number" sReadNum ["self"] fN fdN) : FnOk P w K mg base CX0 2 f fd ["self"] (spRow K CR) := by
  have GN : FnOk P w K mg base CX0 1 fN fdN _ _ := ok_read_num FN TR
  refine F.F.ok scRow (fun vs H Q E h => ?_) (fun cdv A outer s H vs Q E hr h => ?_)
  · obtain ⟨r, nums, ns, place, t, rest, rfl, _⟩ := h
    rfl
  · obtain ⟨r, nums, ns, place, t, rest, rfl, B, hdr, q⟩ := h
    obtain ⟨d, ho⟩ := B.obj
    refine ⟨_, pss_cons (ps_set (i := 1) scRow.nd rfl (Or.inl rfl) (pe_meth0 (pv 0) TR.cR FN.at_ GN hr FN.b .nil pass0)) (pss_cons (ps_set (i := 2) scRow.nd rfl (Or.inl rfl) (pe_fld (pv 0) rfl))
      (pss_cons (ps_fld (pv 0) (pe_op op_add (pv 2) (pv 1)) rfl) (pss_one (ps_ret (pe_slice sl_list (pe_fld (pv 0) rfl) (po_some (pv 2)) (po_some (pe_fld (pv 0) rfl))))))), ?_⟩
    have h0 : ns[place]? = some (t.length : Int) := by
      have := congrArg (fun l => l[0]?) hdr
      rw [List.getElem?_drop] at this
      exact this
    have h1 : ns.drop (place + 1) = t ++ rest := by rw [← List.drop_drop, hdr]; rfl
    refine ⟨_, rfl, r, d, _, rfl, ho, rf_no (by decide +kernel) (by decide +kernel), r, nums, ns, place, _, rfl, B, h0, fun H1 R1 k1 => ?_⟩
    obtain ⟨d1, ho1⟩ := R1.obj
    refine ⟨_, rfl, r, CR, d1, _, _, rfl, ho1, TR.cR, TR.np, rf_place, _, rfl, _, rfl, _, _, rfl, rfl, _, rfl, r, CR, d1, _, rfl, ho1, TR.cR, TR.np, (by show 2 < 1000; decide), ?_⟩
    rw [rf_put]
    have R2 : ReadAt K CR (upd H1 r (.ins CR d1 (rf nums (((place + 1 : Nat) : Int) + (t.length : Int))))) r nums ns (place + 1 + t.length) := by
      refine ⟨⟨d1, ?_⟩, R1.list.keep fun b o u e => by rw [upd_ne (ne_of e ho1 (fun z => nomatch z))]; exact e⟩
      rw [upd_same]
      have : ((place + 1 + t.length : Nat) : Int) = ((place + 1 : Nat) : Int) + (t.length : Int) := by omega
      rw [this]
    have ho2 : upd H1 r (.ins CR d1 (rf nums (((place + 1 : Nat) : Int) + (t.length : Int)))) r = some (.ins CR d1 (rf nums (((place + 1 : Nat) : Int) + (t.length : Int)))) := upd_same
    have kb : But r H (upd H1 r (.ins CR d1 (rf nums (((place + 1 : Nat) : Int) + (t.length : Int))))) := fun b o hb e => by rw [upd_ne hb]; exact k1 b o hb e
    generalize upd H1 r (.ins CR d1 (rf nums (((place + 1 : Nat) : Int) + (t.length : Int)))) = H2 at R2 ho2 kb
    refine ⟨_, rfl, r, CR, d1, _, _, rfl, ho2, TR.cR, TR.nn, rf_numbers, ?_⟩
    refine ⟨_, rfl, _, rfl, _, rfl, r, CR, d1, _, _, rfl, ho2, TR.cR, TR.np, rf_place, _, rfl, nums, _, rfl, R2.list.sq, fun p hp => ?_⟩
    have ec : cutV (ns.map V.int) (some ((place + 1 : Nat) : Int)) (some (((place + 1 : Nat) : Int) + (t.length : Int))) = t.map V.int := by
      have hl := congrArg List.length h1
      rw [List.length_drop, List.length_append] at hl
      have hpl : place < ns.length := (List.getElem?_eq_some_iff.mp h0).1
      have e2 : ((place + 1 : Nat) : Int) + (t.length : Int) = ((place + 1 + t.length : Nat) : Int) := by omega
      unfold cutV
      rw [e2, HT.sIx_nat, HT.sIx_nat, List.length_map, Nat.min_eq_left (by omega), Nat.min_eq_left (by omega), ← List.map_drop, h1, ← List.map_take, show place + 1 + t.length - (place + 1) = t.length by omega, List.take_left]
    have ec' : cutV (ns.map V.int) (some ((place + 1 : Nat) : Int)) (some (((place + 1 : Nat) : Int) + (t.length : Int))) = _ := ec
    show Q (.ref p) (upd H2 p (.lst (cutV (ns.map V.int) (some ((place + 1 : Nat) : Int)) (some (((place + 1 : Nat) : Int) + (t.length : Int))))))
    rw [ec']
    have sp := Same.upd_new (o := HO.lst (t.map V.int)) hp
    have pr : p ≠ r := fun z => by rw [z, ho2] at hp; cases hp
    refine q _ p ⟨let ⟨d, e⟩ := R2.obj; ⟨d, sp _ _ e⟩, R2.list.keep fun b o u e => sp _ _ e⟩ (fun b o hb e => sp _ _ (kb b o hb e)) ?_ upd_same
    cases e : H p with
    | none => rfl
    | some o => rw [kb p o pr e] at hp; cases hp
abbrev sHasR : Stmt := inClass (top 15) 2
def spHasR (CN CG : Addr) : Sp := fun vs H Q _ => ∃ (g ln lr : Addr) (G : Rd02.Gram) (as : List Addr) (z : Int), vs = [.ref g, .int z] ∧ GramAt CN CG H g ln lr G as ∧ Q (.bl (Rd02.nodeAt G z).isSome) H
theorem scHasR : FnScope ["self", "rule"] ["self", "rule"] (defScope sHasR) := ⟨rfl, rfl, rfl, by decide +kernel, rfl, by decide +kernel, by decide +kernel⟩
theorem ok_hasR {f fR : Addr} {fd fdR : FuncData} (F : Mf K CG "has_rule" "Grammar.has_rule" sHasR ["self", "rule"] f fd) (T : Tx K mg CN CG) (FR : Gf K mg "is_rule" (top 16) ["number"] fR fdR) : FnOk P w K mg base CX0 2 f fd ["self", "rule"] (spHasR CN CG) := by
  have GR : FnOk P w K mg base CX0 1 fR fdR _ _ := ok_is_rule FR (T.k "RULE_COUNT" 16)
  refine F.F.ok scHasR (fun vs H Q E h => ?_) (fun cdv A outer s H vs Q E hr h => ?_)
  · obtain ⟨g, ln, lr, G, as, z, rfl, _⟩ := h
    rfl
  · obtain ⟨g, ln, lr, G, as, z, rfl, B, q⟩ := h
    obtain ⟨dg, hg⟩ := B.obj
    refine ⟨_, pss_one (ps_ret (pe_and (pe_call GR hr rfl FR.g FR.F.kp FR.b .nil pass0 (pa_cons (pv 1) pa_nil)) (pe_one (pe_cmp (pc_notN (pe_ix ix_H (pe_fld (pv 0) rfl) (pv 1) (fun _ _ => rfl))))))), ?_⟩
    walk_at "rd"
    refine ⟨z, rfl, _, rfl, ?_⟩
    unfold Rd02.nodeAt at q
    refine ifb (fun h => ?_) fun h => ?_
    · have hb : Rd02.below z Rd02.RULES = true := h
      rw [if_pos hb] at q
      unfold isRuleI at h
      rw [Bool.and_eq_true, decide_eq_true_eq, decide_eq_true_eq] at h
      have hz : z.toNat < G.rules.length := by rw [B.ok.rlen]; omega
      have e0 := List.getElem?_eq_getElem hz
      rw [e0] at q
      have ez : z = ((z.toNat : Nat) : Int) := by omega
      rw [fldAt_of hg T.cG T.nr gf_rules]
      rw [ez]
      rw [rIxH_of B.rules (v := if G.rules[z.toNat] < G.nodes.length then V.int (G.rules[z.toNat] : Int) else V.non) (atI_nat (by rw [List.getElem?_map, e0]; rfl))]
      by_cases hl : G.rules[z.toNat] < G.nodes.length
      · rw [if_pos hl]
        have q : Q (.bl (if G.rules[z.toNat] < G.nodes.length then some G.rules[z.toNat] else none).isSome) H := q
        rw [if_pos hl] at q
        exact q
      · rw [if_neg hl]
        have q : Q (.bl (if G.rules[z.toNat] < G.nodes.length then some G.rules[z.toNat] else none).isSome) H := q
        rw [if_neg hl] at q
        exact q
    · have hb : ¬ (Rd02.below z Rd02.RULES = true) := by rw [show Rd02.below z Rd02.RULES = false from h]; exact Bool.false_ne_true
      rw [if_neg hb] at q
      exact q
def spRefuse (CN CG P1 P2 : Addr) : Sp := fun vs H Q _ => ∃ (g ln lr tx : Addr) (G : Rd02.Gram) (as : List Addr) (t : List Int) (z : Int), vs = [.ref g, .int z, .ref tx] ∧ GramAt CN CG H g ln lr G as ∧ Tabs H P1 P2 ∧ H tx = some (.lst (t.map V.int)) ∧ t.length ≤ 40 ∧
  (Rd02.nodeAt G z = none → Q (.int (-1)) H) ∧ ∀ e, Rd02.nodeAt G z = some e → ∀ H', SameX [P1, P2] H H' → Tabs H' P1 P2 → Q (if Rd02.sound G = true then .non else .int (-3)) H'
theorem scRefuse : FnScope ["grammar", "rule", "text"] ["grammar", "rule", "text"] (defScope (top 60)) := ⟨rfl, rfl, rfl, by decide +kernel, rfl, by decide +kernel, by decide +kernel⟩
theorem ok_refuse {f fH fS : Addr} {fd fdH fdS : FuncData} (F : Gf K mg "refusal" (top 60) ["grammar", "rule", "text"] f fd) (T : Tx K mg CN CG) (FH : Mf K CG "has_rule" "Grammar.has_rule" sHasR ["self", "rule"] fH fdH) (GH : FnOk P w K mg base CX0 2 fH fdH ["self", "rule"] (spHasR CN CG))
    (FS : Gf K mg "is_sound" (top 26) ["grammar"] fS fdS) (GS : FnOk P w K mg base CX0 7 fS fdS ["grammar"] (spSound CN CG P1 P2)) : FnOk P w K mg base CX0 8 f fd ["grammar", "rule", "text"] (spRefuse CN CG P1 P2) := by
  refine F.F.ok scRefuse (fun vs H Q E h => ?_) (fun cdv A outer s H vs Q E hr h => ?_)
  · obtain ⟨g, ln, lr, tx, G, as, t, z, rfl, _⟩ := h
    rfl
  · obtain ⟨g, ln, lr, tx, G, as, t, z, rfl, B, TB, htx, h40, q1, q2⟩ := h
    have hr2 : Room 2 _ := hr.mono (by decide)
    obtain ⟨dg, hg⟩ := B.obj
    refine ⟨_, pss_cons (ps_if (PW.pt (pw_or (pt_not (pt_val (pe_meth (pv 0) T.cG FH.at_ GH hr2 FH.b .nil pass0 (pa_cons (pv 1) pa_nil)))) (pw_or1 (pt_cmpR op_gt (pe_callB call_lenT (by rfl) T.len PySem.boot_len (pa_cons (pv 2) pa_nil)) (pcst (T.k "MOST_BYTES" 128)) (nomark _))))) (pss_one (ps_ret (pcst (T.k "NO_SUCH" (-1))))) pss_nil)
      (pss_cons (ps_if (pt_not (pt_val (pe_call GS hr rfl FS.g FS.F.kp FS.b .nil pass0 (pa_cons (pv 0) pa_nil)))) (pss_one (ps_ret (pcst (T.k "UNSOUND" (-3))))) pss_nil) (pss_one (ps_ret pe_non))), ?_⟩
    walk_at "rd"
    rw [hasM_of hg (gf_no (by decide +kernel) (by decide +kernel))]
    refine ⟨g, ln, lr, G, as, z, rfl, B, _, rfl, ?_⟩
    cases hn : Rd02.nodeAt G z with
    | none => exact q1 hn
    | some e =>
      have q3 := q2 e hn
      simp only [Option.isSome_some, Bool.not_true, Bool.false_eq_true, if_false, reduceIte]
      rw [rLenT_of htx]
      walk_at "rd"
      rw [List.length_map, if_neg (by omega)]
      refine ⟨g, ln, lr, G, as, rfl, B, TB, fun H' k' t' => ⟨_, rfl, ?_⟩⟩
      have := q3 H' k' t'
      cases hs : Rd02.sound G with
      | true => rw [hs] at this; exact this
      | false => rw [hs] at this; exact this
def spFirst : Sp := fun vs H Q _ => ∃ (L : Addr) (ns : List Nat) (m : Int), vs = [.ref L, .int m] ∧ H L = some (.lst (ni ns)) ∧ ∀ p, H p = none → Q (.ref p) (upd H p (.lst (ni (ns.take (Rd02.mostOf m 12288)))))
theorem scFirst : FnScope ["numbers", "most"] ["numbers", "most"] (defScope (top 61)) := ⟨rfl, rfl, rfl, by decide +kernel, rfl, by decide +kernel, by decide +kernel⟩
theorem ok_first {f : Addr} {fd : FuncData} (F : Gf K mg "first_of" (top 61) ["numbers", "most"] f fd) (T : Tx K mg CN CG) : FnOk P w K mg base CX0 1 f fd ["numbers", "most"] spFirst := by
  refine F.F.ok scFirst (fun vs H Q E h => ?_) (fun cdv A outer s H vs Q E hr h => ?_)
  · obtain ⟨L, ns, m, rfl, _⟩ := h
    rfl
  · obtain ⟨L, ns, m, rfl, hL, q⟩ := h
    refine ⟨_, pss_one (ps_ret (pe_ifExp (pt_chain op_le op_le pe_int (pv 1) (pcst (T.k "MOST_TOLD" 12288))) (pe_slice sl_list (pv 0) po_none (po_some (pv 1))) (pe_lst pa_nil))), ?_⟩
    walk_at "rd"
    unfold Rd02.mostOf at q
    refine ifp (fun h1 => ?_) fun h1 => ?_
    · refine ifp (fun h2 => ?_) fun h2 => ?_
      · rw [if_pos ⟨h1, by omega⟩] at q
        refine ⟨_, rfl, _, rfl, _, rfl, L, _, rfl, SqL.of hL, fun p hp => ?_⟩
        have em : m = ((m.toNat : Nat) : Int) := by omega
        have ec : cutV (ni ns) none (some m) = ni (ns.take m.toNat) := by
          unfold cutV ni
          rw [em, HT.sIx_nat, HT.sIx_none, List.drop_zero, Nat.sub_zero, List.length_map, ← List.map_take, Int.toNat_natCast]
          congr 1
          by_cases hl : m.toNat ≤ ns.length
          · rw [Nat.min_eq_left hl]
          · rw [Nat.min_eq_right (by omega), List.take_length, List.take_of_length_le (by omega)]
        rw [ec]
        exact q p hp
      · rw [if_neg (fun z => h2 (by have := z.2; omega)), List.take_zero] at q
        exact ⟨Nat.zero_le _, q⟩
    · rw [if_neg (fun z => h1 z.1), List.take_zero] at q
      exact ⟨Nat.zero_le _, q⟩
end
end Ow
set_option Elab.async false
set_option linter.all false
set_option maxRecDepth 100000
set_option maxHeartbeats 2000000
namespace Ow
open PySem PySem.Spec PyProof.Rows L2
local macro_rules | `(tactic| walk_at "rd") => `(tactic| simp only [tSeq, tIfS, tTest, tB, tOp, tUn, tVar, tC, tRet, tRetN, tDrop, tAsg, gName, gSub, tNext, tAnd, tOr, tNot, tAndV, tOrV, tNotV, tIf, tChain, tChain3, rI, rI0, rEq, rNe, scal, tCons, tNil, tLst, tTup, tCall, tMeth_eq, tFld_eq, tMake, tCB, tBM, tBM0, TruV, tIsN, tNotN, tDGet, tDIn, sDPut,
  L2.start, List.map_cons, List.map_nil, List.cons_append, List.nil_append, List.append_nil, List.length_cons, List.length_nil, List.replicate, List.getElem?_cons_zero, List.getElem?_cons_succ, List.set_cons_zero, List.set_cons_succ, Option.some.injEq, exists_and_left, exists_eq_left', exists_eq_left, V.int.injEq, V.bl.injEq, V.ref.injEq, V.str.injEq,
  true_and, and_true, exists_const, cxOf_K, nox_K, if_true, if_false, reduceIte, decide_eq_true_eq, Bool.not_eq_true, decide_eq_false_iff_not, List.cons.injEq, Nat.reduceAdd, Nat.reduceSub, reduceCtorEq])
theorem nodeAt_some {G : Rd02.Gram} {z : Int} {e : Nat} (h : Rd02.nodeAt G z = some e) : ∃ ru : Nat, z = (ru : Int) ∧ G.rules[ru]? = some e ∧ e < G.nodes.length := by
  unfold Rd02.nodeAt at h
  split at h
  · rename_i hb
    unfold Rd02.below at hb
    rw [Bool.and_eq_true, decide_eq_true_eq, decide_eq_true_eq] at hb
    refine ⟨z.toNat, by omega, ?_⟩
    cases hr : G.rules[z.toNat]? with
    | none => rw [hr] at h; cases h
    | some x =>
      rw [hr] at h
      have h : (if x < G.nodes.length then some x else none) = some e := h
      split at h
      · cases h
        exact ⟨rfl, ‹_›⟩
      · cases h
  · cases h
section
variable {S : Rd02.Abs} {ru m : Int} {t : List Int} {e : Nat}
theorem ready_no (h : Rd02.nodeAt S.g ru = none) (n : Int) : Rd02.ready S ru n = .error (-1) := by
  unfold Rd02.ready
  rw [h]
theorem ready_some (h : Rd02.nodeAt S.g ru = some e) (h40 : t.length ≤ 40) : Rd02.ready S ru (t.length : Int) = if Rd02.sound S.g = true then .ok e else .error (-3) := by
  unfold Rd02.ready
  rw [h]
  have : Rd02.below (t.length : Int) (Rd02.LONG + 1) = true := by
    unfold Rd02.below Rd02.LONG
    rw [decide_eq_true (by omega), decide_eq_true (by omega)]
    rfl
  simp only [this, Bool.true_eq_false, if_false]
theorem take_no (h : Rd02.nodeAt S.g ru = none) : (Cl.take ru t).ans S = [-1] := by
  unfold Cl.ans Cl.spec Rd02.does
  simp only [ready_no h]
  rfl
theorem take_un (h : Rd02.nodeAt S.g ru = some e) (h40 : t.length ≤ 40) (hs : Rd02.sound S.g = false) : (Cl.take ru t).ans S = [-3] := by
  unfold Cl.ans Cl.spec Rd02.does
  simp only [ready_some h h40, hs, Bool.false_eq_true, if_false]
  rfl
theorem take_ok (h : Rd02.nodeAt S.g ru = some e) (h40 : t.length ≤ 40) (hs : Rd02.sound S.g = true) : (Cl.take ru t).ans S = [valR S.g (Rd02Neutral.nats t) (e, 0)] := by
  unfold Cl.ans Cl.spec Rd02.does
  simp only [ready_some h h40, hs, if_true, taken_eq]
  unfold valR R1
  cases R S.g (Rd02Neutral.nats t) e 0 with
  | mk x u => cases x <;> rfl
theorem uses_no (h : Rd02.nodeAt S.g ru = none) : (Cl.uses ru m t).ans S = [-1] := by
  unfold Cl.ans Cl.spec Rd02.does
  simp only [ready_no h]
  rfl
theorem uses_un (h : Rd02.nodeAt S.g ru = some e) (h40 : t.length ≤ 40) (hs : Rd02.sound S.g = false) : (Cl.uses ru m t).ans S = [-3] := by
  unfold Cl.ans Cl.spec Rd02.does
  simp only [ready_some h h40, hs, Bool.false_eq_true, if_false]
  rfl
theorem uses_fail (h : Rd02.nodeAt S.g ru = some e) (h40 : t.length ≤ 40) (hs : Rd02.sound S.g = true) (hf : R1 S.g (Rd02Neutral.nats t) e 0 = none) : (Cl.uses ru m t).ans S = [-2] := by
  unfold Cl.ans Cl.spec Rd02.does
  simp only [ready_some h h40, hs, if_true, taken_eq]
  unfold R1 at hf
  cases q : R S.g (Rd02Neutral.nats t) e 0 with
  | mk x u =>
    rw [q] at hf
    cases (show x = none from hf)
    rfl
theorem uses_ok {j : Nat} (h : Rd02.nodeAt S.g ru = some e) (h40 : t.length ≤ 40) (hs : Rd02.sound S.g = true) (hf : R1 S.g (Rd02Neutral.nats t) e 0 = some j) :
    (Cl.uses ru m t).ans S = ((Rd02.flat (U S.g (Rd02Neutral.nats t) (e, 0))).length : Int) :: Rd02Neutral.ints ((Rd02.flat (U S.g (Rd02Neutral.nats t) (e, 0))).take (Rd02.mostOf m 12288)) := by
  unfold Cl.ans Cl.spec Rd02.does
  simp only [ready_some h h40, hs, if_true, taken_eq]
  unfold R1 at hf
  unfold U
  cases q : R S.g (Rd02Neutral.nats t) e 0 with
  | mk x u =>
    rw [q] at hf
    cases (show x = some j from hf)
    rfl
theorem asked_no (h : Rd02.nodeAt S.g ru = none) : (Cl.asked ru t).ans S = [-1] := by
  unfold Cl.ans Cl.spec Rd02.does
  simp only [ready_no h]
  rfl
theorem asked_un (h : Rd02.nodeAt S.g ru = some e) (h40 : t.length ≤ 40) (hs : Rd02.sound S.g = false) : (Cl.asked ru t).ans S = [-3] := by
  unfold Cl.ans Cl.spec Rd02.does
  simp only [ready_some h h40, hs, Bool.false_eq_true, if_false]
  rfl
theorem asked_ok (h : Rd02.nodeAt S.g ru = some e) (h40 : t.length ≤ 40) (hs : Rd02.sound S.g = true) : (Cl.asked ru t).ans S = [(Rd02.askedOf S.g (Rd02Neutral.nats t) e : Int)] := by
  unfold Cl.ans Cl.spec Rd02.does
  simp only [ready_some h h40, hs, if_true]
  rfl
end
section
variable {K : PySem.W.Frag} {CN CG CR P1 P2 : Addr} {H H' : Hp} {g ln lr r nums : Addr} {s : Rd02.Abs} {as : List Addr} {ns : List Int} {place : Nat}
theorem DeskAt.sameX (D : DeskAt K CN CG CR P1 P2 H g ln lr r nums s as ns place) (k : SameX [P1, P2] H H') (t' : Tabs H' P1 P2) : DeskAt K CN CG CR P1 P2 H' g ln lr r nums s as ns place := by
  have off : ∀ {b : Addr} {o : HO}, H b = some o → (∀ ps, o ≠ .tbl ps) → b ∉ [P1, P2] := fun {b o} x ho hb => by
    obtain ⟨ps, hp⟩ := D.tabs.tb b hb
    rw [hp] at x
    cases x
    exact ho _ rfl
  refine ⟨D.gram.keepX k D.tabs.tb, D.nl, t', ⟨?_, D.read.list.keep fun b o u x => k b _ (off x fun ps z => nomatch z) x⟩⟩
  obtain ⟨d, x⟩ := D.read.obj
  exact ⟨d, k _ _ (off x fun ps z => nomatch z) x⟩
theorem SameX.keepD (k : SameX [P1, P2] H H') : KeepD ln lr r P1 P2 H H' := fun b o _ _ _ n4 n5 x => k b o (by simp only [List.mem_cons, List.not_mem_nil, or_false, not_or]; exact ⟨n4, n5⟩) x
theorem DeskAt.lst_keep (D : DeskAt K CN CG CR P1 P2 H g ln lr r nums s as ns place) (k : SameX [P1, P2] H H') {b : Addr} {xs : List V} (h : H b = some (.lst xs)) : H' b = some (.lst xs) :=
  k b _ (fun hb => by obtain ⟨ps, hp⟩ := D.tabs.tb b hb; rw [hp] at h; cases h) h
end
section
variable {P : Program} {w : World} {K : PySem.W.Frag} {mg : Str → Option Value} {base : Heap} {CN CG CR CD P1 P2 : Addr}
theorem read_row1 {H : Hp} {g ln lr r nums : Addr} {s : Rd02.Abs} {as : List Addr} {ns : List Int} {place i : Nat} {d : Cl} {rest t : List Int} {Q : VK} {E : XK} (D : DeskAt K CN CG CR P1 P2 H g ln lr r nums s as ns (place + i)) (h : ns.drop place = d.flat ++ rest)
    (hz : d.flat.drop i = (t.length : Int) :: t) (hl : d.flat.length = i + 1 + t.length)
    (k : ∀ (H' : Hp) (p : Addr), DeskAt K CN CG CR P1 P2 H' g ln lr r nums s as ns (place + d.flat.length) → KeepD ln lr r P1 P2 H H' → H p = none → H' p = some (.lst (t.map V.int)) → Q (.ref p) H') : hasM CR "read_row" (.ref r) H (spRow K CR [.ref r] H Q E) := by
  obtain ⟨dr, hr⟩ := D.read.obj
  rw [hasM_of hr (rf_no (by decide +kernel) (by decide +kernel))]
  refine ⟨r, nums, ns, place + i, t, rest, rfl, D.read, ?_, fun H' p R kp np hp => k H' p (D.reads (by rw [hl, show place + (i + 1 + t.length) = place + i + 1 + t.length by omega]; exact R) kp) (But.keepD kp) np hp⟩
  rw [← List.drop_drop, h, List.drop_append_of_le_length (by omega), hz]
  rfl
structure RdF (P : Program) (w : World) (K : PySem.W.Frag) (mg : Str → Option Value) (base : Heap) (CN CG CR CD P1 P2 : Addr) (fN fW fF fR fO : Addr) (dN dW dF dR dO : FuncData) : Prop where
  tx : Tx K mg CN CG
  tr : TxR K mg CR
  td : TxD K mg CD
  n : Mf K CR "read_number" "Reader.read_number" sReadNum ["self"] fN dN
  row : Mf K CR "read_row" "Reader.read_row" sRow ["self"] fW dW
  f : Gf K mg "refusal" (top 60) ["grammar", "rule", "text"] fF dF
  gf : FnOk P w K mg base CX0 8 fF dF ["grammar", "rule", "text"] (spRefuse CN CG P1 P2)
  r : Gf K mg "read_text" (top 20) ["grammar", "rule", "text"] fR dR
  gr : FnOk P w K mg base CX0 5 fR dR ["grammar", "rule", "text"] (spRead CN CG CD)
  o : Mf K CD "outcome" "Reading.outcome" sOut ["self"] fO dO
theorem scTake : FnScope ["grammar", "reader", "rule", "text", "refused"] ["grammar", "reader"] (defScope (top 57)) := ⟨rfl, rfl, rfl, by decide +kernel, rfl, by decide +kernel, by decide +kernel⟩
theorem ok_answer_take {f fN fW fF fR fO : Addr} {fd dN dW dF dR dO : FuncData} (F : Gf K mg "answer_take" (top 57) ["grammar", "reader"] f fd) (M : RdF P w K mg base CN CG CR CD P1 P2 fN fW fF fR fO dN dW dF dR dO) :
    FnOk P w K mg base CX0 9 f fd ["grammar", "reader"] (spAns K CN CG CR P1 P2 1 fun d => ∃ r t, d = .take r t) := by
  have GN : FnOk P w K mg base CX0 1 fN dN _ _ := ok_read_num M.n M.tr
  have GW : FnOk P w K mg base CX0 2 fW dW _ _ := ok_row M.row M.tr M.n
  have GO : FnOk P w K mg base CX0 1 fO dO _ (spOut CN CG CD) := ok_out M.o M.td
  refine F.F.ok scTake (fun vs H Q E h => ?_) (fun cdv A outer s H vs Q E hr h => ?_)
  · obtain ⟨g, ln, lr, r, nums, s, as, ns, place, d, rest, rfl, _⟩ := h
    rfl
  · obtain ⟨g, ln, lr, r, nums, S, as, ns, place, d, rest, rfl, D, hd, dok, ⟨ru, t, rfl⟩, q⟩ := h
    obtain ⟨h40, hbt⟩ := (show t.length ≤ 40 ∧ ∀ z ∈ t, 0 ≤ z ∧ z < 256 from dok)
    have hr1 : Room 1 _ := hr.mono (by decide)
    have hr2 : Room 2 _ := hr.mono (by decide)
    have hr5 : Room 5 _ := hr.mono (by decide)
    refine ⟨_, pss_cons (ps_set (i := 2) scTake.nd rfl (Or.inl rfl) (pe_meth0 (pv 1) M.tr.cR M.n.at_ GN hr1 M.n.b .nil pass0)) (pss_cons (ps_set (i := 3) scTake.nd rfl (Or.inl rfl) (pe_meth0 (pv 1) M.tr.cR M.row.at_ GW hr2 M.row.b .nil pass0))
      (pss_cons (ps_set (i := 4) scTake.nd rfl (Or.inl rfl) (pe_call M.gf hr rfl M.f.g M.f.F.kp M.f.b .nil pass0 (pa_cons (pv 0) (pa_cons (pv 2) (pa_cons (pv 3) pa_nil)))))
      (pss_cons (ps_if (pt_cmp (pc_notN (pv 4))) (pss_one (ps_ret (pe_lst (pa_cons (pv 4) pa_nil)))) pss_nil)
      (pss_one (ps_ret (pe_lst (pa_cons (pe_meth0 (pe_call M.gr hr5 rfl M.r.g M.r.F.kp M.r.b .nil pass0 (pa_cons (pv 0) (pa_cons (pv 2) (pa_cons (pv 3) pa_nil)))) M.td.cD M.o.at_ GO hr1 M.o.b .nil pass0) pa_nil))))))), ?_⟩
    walk_at "rd"
    refine read_one D hd rfl fun H1 D1 k1 => ?_
    refine read_row1 D1 hd rfl (by simp [Cl.flat]; omega) fun H2 tx D2 k2 ntx htx => ?_
    have k12 := k1.trans k2
    have fin : ∀ (z : Int) (H4 : Hp), (Cl.take ru t).ans S = [z] → DeskAt K CN CG CR P1 P2 H4 g ln lr r nums S as ns (place + (Cl.take ru t).flat.length) → KeepD ln lr r P1 P2 H H4 → 1 ≤ sizeLine ∧ ∀ p, H4 p = none → Q (.ref p) (upd H4 p (.lst [.int z])) := fun z H4 e D4 k4 => by
      refine ⟨by decide, fun p np => ?_⟩
      obtain ⟨n1, n2, _⟩ := D4.ne_of_free np
      exact q _ p as (D4.same (Same.upd_new np)) (k4.trans (Same.keepD (Same.upd_new np))) (D4.free_back k4 np) n1 n2 (by rw [upd_same, e]; rfl)
    refine ⟨g, ln, lr, tx, S.g, as, t, ru, rfl, D2.gram, D2.tabs, htx, h40, fun hn => ?_, fun e he H3 k3 t3 => ?_⟩
    · walk_at "rd"
      simp only [decide_true, Bool.not_true, Bool.false_eq_true, decide_false, Bool.not_false, if_true, if_false, reduceIte]
      exact fin (-1) H2 (take_no hn) D2 k12
    · have D3 := D2.sameX k3 t3
      have k123 := k12.trans k3.keepD
      cases hs : Rd02.sound S.g with
      | false =>
        walk_at "rd"
        simp only [decide_true, Bool.not_true, Bool.false_eq_true, decide_false, Bool.not_false, if_true, if_false, reduceIte]
        exact fin (-3) H3 (take_un he h40 hs) D3 k123
      | true =>
        walk_at "rd"
        simp only [decide_true, Bool.not_true, Bool.false_eq_true, decide_false, Bool.not_false, if_true, if_false, reduceIte]
        obtain ⟨rn, rfl, hru, hel⟩ := nodeAt_some he
        refine ⟨g, ln, lr, tx, S.g, as, t, rn, e, rfl, D3.gram, D2.lst_keep k3 htx, hbt, h40, hru, hel, hs, fun H4 rd st kn wt Kn rank D4 RK N s4 => ?_⟩
        obtain ⟨d4, hd4⟩ := D4.obj
        try walk_at "rd"
        rw [hasM_of hd4 (rdf_no (by decide +kernel))]
        have st0 : (e, 0) ∈ Kn := by have := N.start; rw [List.append_nil] at this; exact this
        refine ⟨rd, g, ln, lr, tx, st, kn, wt, S.g, as, t, e, Kn, [], [], rfl, D4, st0, ?_⟩
        exact fin _ H4 (take_ok he h40 hs) (D3.same s4) (k123.trans (Same.keepD s4))
end
end Ow
set_option Elab.async false
set_option linter.all false
set_option maxRecDepth 100000
set_option maxHeartbeats 2000000
namespace Ow
open PySem PySem.Spec PyProof.Rows L2
local macro_rules | `(tactic| walk_at "rd") => `(tactic| simp only [tSeq, tIfS, tTest, tB, tOp, tUn, tVar, tC, tRet, tRetN, tDrop, tAsg, gName, gSub, tNext, tAnd, tOr, tNot, tAndV, tOrV, tNotV, tIf, tChain, tChain3, rI, rI0, rEq, rNe, scal, tCons, tNil, tLst, tTup, tCall, tMeth_eq, tFld_eq, tMake, tCB, tBM, tBM0, TruV, tIsN, tNotN, tDGet, tDIn, sDPut,
  L2.start, List.map_cons, List.map_nil, List.cons_append, List.nil_append, List.append_nil, List.length_cons, List.length_nil, List.replicate, List.getElem?_cons_zero, List.getElem?_cons_succ, List.set_cons_zero, List.set_cons_succ, Option.some.injEq, exists_and_left, exists_eq_left', exists_eq_left, V.int.injEq, V.bl.injEq, V.ref.injEq, V.str.injEq,
  true_and, and_true, exists_const, cxOf_K, nox_K, if_true, if_false, reduceIte, decide_eq_true_eq, Bool.not_eq_true, decide_eq_false_iff_not, List.cons.injEq, Nat.reduceAdd, Nat.reduceSub, reduceCtorEq])
section
variable {P : Program} {w : World} {K : PySem.W.Frag} {mg : Str → Option Value} {base : Heap} {CN CG CR CD P1 P2 : Addr}
theorem scAskedA : FnScope ["grammar", "reader", "rule", "text", "refused"] ["grammar", "reader"] (defScope (top 59)) := ⟨rfl, rfl, rfl, by decide +kernel, rfl, by decide +kernel, by decide +kernel⟩
theorem ok_answer_asked {f fN fW fF fR fO fC : Addr} {fd dN dW dF dR dO dC : FuncData} (F : Gf K mg "answer_asked" (top 59) ["grammar", "reader"] f fd) (M : RdF P w K mg base CN CG CR CD P1 P2 fN fW fF fR fO dN dW dF dR dO) (FC : Mf K CD "count_rules_asked" "Reading.count_rules_asked" sCount ["self"] fC dC) :
    FnOk P w K mg base CX0 9 f fd ["grammar", "reader"] (spAns K CN CG CR P1 P2 1 fun d => ∃ r t, d = .asked r t) := by
  have GN : FnOk P w K mg base CX0 1 fN dN _ _ := ok_read_num M.n M.tr
  have GW : FnOk P w K mg base CX0 2 fW dW _ _ := ok_row M.row M.tr M.n
  have GC : FnOk P w K mg base CX0 1 fC dC _ (spCount CN CG CD) := ok_count FC M.tx M.td
  refine F.F.ok scAskedA (fun vs H Q E h => ?_) (fun cdv A outer s H vs Q E hr h => ?_)
  · obtain ⟨g, ln, lr, r, nums, s, as, ns, place, d, rest, rfl, _⟩ := h
    rfl
  · obtain ⟨g, ln, lr, r, nums, S, as, ns, place, d, rest, rfl, D, hd, dok, ⟨ru, t, rfl⟩, q⟩ := h
    obtain ⟨h40, hbt⟩ := (show t.length ≤ 40 ∧ ∀ z ∈ t, 0 ≤ z ∧ z < 256 from dok)
    have hr1 : Room 1 _ := hr.mono (by decide)
    have hr2 : Room 2 _ := hr.mono (by decide)
    have hr5 : Room 5 _ := hr.mono (by decide)
    refine ⟨_, pss_cons (ps_set (i := 2) scAskedA.nd rfl (Or.inl rfl) (pe_meth0 (pv 1) M.tr.cR M.n.at_ GN hr1 M.n.b .nil pass0)) (pss_cons (ps_set (i := 3) scAskedA.nd rfl (Or.inl rfl) (pe_meth0 (pv 1) M.tr.cR M.row.at_ GW hr2 M.row.b .nil pass0))
      (pss_cons (ps_set (i := 4) scAskedA.nd rfl (Or.inl rfl) (pe_call M.gf hr rfl M.f.g M.f.F.kp M.f.b .nil pass0 (pa_cons (pv 0) (pa_cons (pv 2) (pa_cons (pv 3) pa_nil)))))
      (pss_cons (ps_if (pt_cmp (pc_notN (pv 4))) (pss_one (ps_ret (pe_lst (pa_cons (pv 4) pa_nil)))) pss_nil)
      (pss_one (ps_ret (pe_lst (pa_cons (pe_meth0 (pe_call M.gr hr5 rfl M.r.g M.r.F.kp M.r.b .nil pass0 (pa_cons (pv 0) (pa_cons (pv 2) (pa_cons (pv 3) pa_nil)))) M.td.cD FC.at_ GC hr1 FC.b .nil pass0) pa_nil))))))), ?_⟩
    walk_at "rd"
    refine read_one D hd rfl fun H1 D1 k1 => ?_
    refine read_row1 D1 hd rfl (by simp [Cl.flat]; omega) fun H2 tx D2 k2 ntx htx => ?_
    have k12 := k1.trans k2
    have fin : ∀ (z : Int) (H4 : Hp), (Cl.asked ru t).ans S = [z] → DeskAt K CN CG CR P1 P2 H4 g ln lr r nums S as ns (place + (Cl.asked ru t).flat.length) → KeepD ln lr r P1 P2 H H4 → 1 ≤ sizeLine ∧ ∀ p, H4 p = none → Q (.ref p) (upd H4 p (.lst [.int z])) := fun z H4 e D4 k4 => by
      refine ⟨by decide, fun p np => ?_⟩
      obtain ⟨n1, n2, _⟩ := D4.ne_of_free np
      exact q _ p as (D4.same (Same.upd_new np)) (k4.trans (Same.keepD (Same.upd_new np))) (D4.free_back k4 np) n1 n2 (by rw [upd_same, e]; rfl)
    refine ⟨g, ln, lr, tx, S.g, as, t, ru, rfl, D2.gram, D2.tabs, htx, h40, fun hn => ?_, fun e he H3 k3 t3 => ?_⟩
    · walk_at "rd"
      simp only [decide_true, Bool.not_true, Bool.false_eq_true, decide_false, Bool.not_false, if_true, if_false, reduceIte]
      exact fin (-1) H2 (asked_no hn) D2 k12
    · have D3 := D2.sameX k3 t3
      have k123 := k12.trans k3.keepD
      cases hs : Rd02.sound S.g with
      | false =>
        walk_at "rd"
        simp only [decide_true, Bool.not_true, Bool.false_eq_true, decide_false, Bool.not_false, if_true, if_false, reduceIte]
        exact fin (-3) H3 (asked_un he h40 hs) D3 k123
      | true =>
        walk_at "rd"
        simp only [decide_true, Bool.not_true, Bool.false_eq_true, decide_false, Bool.not_false, if_true, if_false, reduceIte]
        obtain ⟨rn, rfl, hru, hel⟩ := nodeAt_some he
        refine ⟨g, ln, lr, tx, S.g, as, t, rn, e, rfl, D3.gram, D2.lst_keep k3 htx, hbt, h40, hru, hel, hs, fun H4 rd st kn wt Kn rank D4 RK N s4 => ?_⟩
        obtain ⟨d4, hd4⟩ := D4.obj
        try walk_at "rd"
        rw [hasM_of hd4 (rdf_no (by decide +kernel))]
        have W := D4.gram.ok.toWf
        have sm := rn_small D4.gram.ok hs hel (by rw [nats_len]; exact h40) N
        refine ⟨rd, g, ln, lr, tx, st, kn, wt, S.g, as, t, e, Kn, [], [], rfl, D4, fun z hz => ((N.reach z (List.mem_append_left _ hz)).in_ W hs hel (Nat.zero_le _)).1, by omega, fun H5 s5 => ?_⟩
        have ea := N.asked W hs hel (p := (pairsOf S.g Kn).eraseDups) (nodup_eraseDups _ _ (Nat.le_refl _)) fun y => by rw [List.mem_eraseDups, mem_pairs]
        have := asked_ok he h40 hs
        rw [ea] at this
        exact fin _ H5 this (D3.same (s4.trans s5)) (k123.trans (Same.keepD (s4.trans s5)))
theorem scUsesA : FnScope ["grammar", "reader", "rule", "most", "text", "refused", "reading", "told"] ["grammar", "reader"] (defScope (top 58)) := ⟨rfl, rfl, rfl, by decide +kernel, rfl, by decide +kernel, by decide +kernel⟩
theorem ok_answer_uses {f fN fW fF fR fO fU fL : Addr} {fd dN dW dF dR dO dU dL : FuncData} (F : Gf K mg "answer_uses" (top 58) ["grammar", "reader"] f fd) (M : RdF P w K mg base CN CG CR CD P1 P2 fN fW fF fR fO dN dW dF dR dO) (FU : Gf K mg "numbers_of_uses" (top 38) ["reading"] fU dU)
    (GU : FnOk P w K mg base CX0 3 fU dU ["reading"] (spNumbers CN CG CD)) (FL : Gf K mg "first_of" (top 61) ["numbers", "most"] fL dL) :
    FnOk P w K mg base CX0 9 f fd ["grammar", "reader"] (spAns K CN CG CR P1 P2 1 fun d => ∃ r m t, d = .uses r m t) := by
  have GN : FnOk P w K mg base CX0 1 fN dN _ _ := ok_read_num M.n M.tr
  have GW : FnOk P w K mg base CX0 2 fW dW _ _ := ok_row M.row M.tr M.n
  have GO : FnOk P w K mg base CX0 1 fO dO _ (spOut CN CG CD) := ok_out M.o M.td
  have GL : FnOk P w K mg base CX0 1 fL dL _ spFirst := ok_first FL M.tx
  refine F.F.ok scUsesA (fun vs H Q E h => ?_) (fun cdv A outer s H vs Q E hr h => ?_)
  · obtain ⟨g, ln, lr, r, nums, s, as, ns, place, d, rest, rfl, _⟩ := h
    rfl
  · obtain ⟨g, ln, lr, r, nums, S, as, ns, place, d, rest, rfl, D, hd, dok, ⟨ru, m, t, rfl⟩, q⟩ := h
    obtain ⟨h40, hbt⟩ := (show t.length ≤ 40 ∧ ∀ z ∈ t, 0 ≤ z ∧ z < 256 from dok)
    have hr1 : Room 1 _ := hr.mono (by decide)
    have hr2 : Room 2 _ := hr.mono (by decide)
    have hr3 : Room 3 _ := hr.mono (by decide)
    have hr5 : Room 5 _ := hr.mono (by decide)
    refine ⟨_, pss_cons (ps_set (i := 2) scUsesA.nd rfl (Or.inl rfl) (pe_meth0 (pv 1) M.tr.cR M.n.at_ GN hr1 M.n.b .nil pass0)) (pss_cons (ps_set (i := 3) scUsesA.nd rfl (Or.inl rfl) (pe_meth0 (pv 1) M.tr.cR M.n.at_ GN hr1 M.n.b .nil pass0)) (pss_cons (ps_set (i := 4) scUsesA.nd rfl (Or.inl rfl) (pe_meth0 (pv 1) M.tr.cR M.row.at_ GW hr2 M.row.b .nil pass0))
      (pss_cons (ps_set (i := 5) scUsesA.nd rfl (Or.inl rfl) (pe_call M.gf hr rfl M.f.g M.f.F.kp M.f.b .nil pass0 (pa_cons (pv 0) (pa_cons (pv 2) (pa_cons (pv 4) pa_nil)))))
      (pss_cons (ps_if (pt_cmp (pc_notN (pv 5))) (pss_one (ps_ret (pe_lst (pa_cons (pv 5) pa_nil)))) pss_nil)
      (pss_cons (ps_set (i := 6) scUsesA.nd rfl (Or.inl rfl) (pe_call M.gr hr5 rfl M.r.g M.r.F.kp M.r.b .nil pass0 (pa_cons (pv 0) (pa_cons (pv 2) (pa_cons (pv 4) pa_nil)))))
      (pss_cons (ps_if (pt_cmpR op_eq (pe_meth0 (pv 6) M.td.cD M.o.at_ GO hr1 M.o.b .nil pass0) (pcst (M.tx.k "FAILED" (-2))) (nomark _)) (pss_one (ps_ret (pe_lst (pa_cons (pcst (M.tx.k "FAILED" (-2))) pa_nil)))) pss_nil)
      (pss_cons (ps_set (i := 7) scUsesA.nd rfl (Or.inl rfl) (pe_call GU hr3 rfl FU.g FU.F.kp FU.b .nil pass0 (pa_cons (pv 6) pa_nil)))
      (pss_one (ps_ret (pe_op op_cat (pe_lst (pa_cons (pe_callB call_lenT (by rfl) M.tx.len PySem.boot_len (pa_cons (pv 7) pa_nil)) pa_nil)) (pe_call GL hr1 rfl FL.g FL.F.kp FL.b .nil pass0 (pa_cons (pv 7) (pa_cons (pv 3) pa_nil))))))))))))), ?_⟩
    walk_at "rd"
    refine read_one D hd rfl fun H0 D0 k0 => ?_
    refine read_one D0 hd rfl fun H1 D1 k1 => ?_
    refine read_row1 D1 hd rfl (by simp [Cl.flat]; omega) fun H2 tx D2 k2 ntx htx => ?_
    have k12 := (k0.trans k1).trans k2
    have fin : ∀ (z : Int) (H4 : Hp), (Cl.uses ru m t).ans S = [z] → DeskAt K CN CG CR P1 P2 H4 g ln lr r nums S as ns (place + (Cl.uses ru m t).flat.length) → KeepD ln lr r P1 P2 H H4 → 1 ≤ sizeLine ∧ ∀ p, H4 p = none → Q (.ref p) (upd H4 p (.lst [.int z])) := fun z H4 e D4 k4 => by
      refine ⟨by decide, fun p np => ?_⟩
      obtain ⟨n1, n2, _⟩ := D4.ne_of_free np
      exact q _ p as (D4.same (Same.upd_new np)) (k4.trans (Same.keepD (Same.upd_new np))) (D4.free_back k4 np) n1 n2 (by rw [upd_same, e]; rfl)
    refine ⟨g, ln, lr, tx, S.g, as, t, ru, rfl, D2.gram, D2.tabs, htx, h40, fun hn => ?_, fun e he H3 k3 t3 => ?_⟩
    · walk_at "rd"
      simp only [decide_true, Bool.not_true, Bool.false_eq_true, decide_false, Bool.not_false, if_true, if_false, reduceIte]
      exact fin (-1) H2 (uses_no hn) D2 k12
    · have D3 := D2.sameX k3 t3
      have k123 := k12.trans k3.keepD
      cases hs : Rd02.sound S.g with
      | false =>
        walk_at "rd"
        simp only [decide_true, Bool.not_true, Bool.false_eq_true, decide_false, Bool.not_false, if_true, if_false, reduceIte]
        exact fin (-3) H3 (uses_un he h40 hs) D3 k123
      | true =>
        walk_at "rd"
        simp only [decide_true, Bool.not_true, Bool.false_eq_true, decide_false, Bool.not_false, if_true, if_false, reduceIte]
        obtain ⟨rn, rfl, hru, hel⟩ := nodeAt_some he
        refine ⟨g, ln, lr, tx, S.g, as, t, rn, e, rfl, D3.gram, D2.lst_keep k3 htx, hbt, h40, hru, hel, hs, fun H4 rd st kn wt Kn rank D4 RK N s4 => ?_⟩
        obtain ⟨d4, hd4⟩ := D4.obj
        try walk_at "rd"
        rw [hasM_of hd4 (rdf_no (by decide +kernel))]
        have st0 : (e, 0) ∈ Kn := by have := N.start; rw [List.append_nil] at this; exact this
        refine ⟨rd, g, ln, lr, tx, st, kn, wt, S.g, as, t, e, Kn, [], [], rfl, D4, st0, ?_⟩
        try walk_at "rd"
        have Dk4 := D3.same s4
        have k4 := k123.trans (Same.keepD s4)
        by_cases hf : R1 S.g (Rd02Neutral.nats t) e 0 = none
        · have ev : valR S.g (Rd02Neutral.nats t) (e, 0) = -2 := codeR_fail.mpr hf
          rw [ev, if_pos rfl]
          exact fin (-2) H4 (uses_fail he h40 hs hf) Dk4 k4
        · have ev : ¬ (valR S.g (Rd02Neutral.nats t) (e, 0) = -2) := fun x => hf (codeR_fail.mp x)
          obtain ⟨j, hj⟩ := Option.ne_none_iff_exists'.mp hf
          rw [if_neg ev]
          refine ⟨rd, g, ln, lr, tx, st, kn, wt, S.g, as, t, e, Kn, [], [], rank, j, rfl, D4, h40, hs, RK, hel, N, hj, fun H5 L hL hsz s5 hL0 => ?_⟩
          walk_at "rd"
          rw [rLenT_of hL]
          refine ⟨by show 1 ≤ sizeLine; decide, fun p1 hp1 => ?_⟩
          have s6 := Same.upd_new (o := HO.lst [.int ((ni (Rd02.flat (U S.g (Rd02Neutral.nats t) (e, 0)))).length : Nat)]) hp1
          refine ⟨L, _, m, rfl, s6 _ _ hL, fun p2 hp2 => ?_⟩
          have s7 := Same.upd_new (o := HO.lst (ni ((Rd02.flat (U S.g (Rd02Neutral.nats t) (e, 0))).take (Rd02.mostOf m 12288)))) hp2
          have lt : ((Rd02.flat (U S.g (Rd02Neutral.nats t) (e, 0))).take (Rd02.mostOf m 12288)).length ≤ 20000 := by rw [List.length_take]; omega
          refine ⟨p1, p2, _, _, rfl, rfl, s7 _ _ upd_same, upd_same, ?_, fun p3 hp3 => ?_⟩
          · unfold ni
            rw [List.length_map, List.length_map]
            exact Nat.le_trans (Nat.add_le_add_left lt 1) (by decide)
          have s57 := (s5.trans s6).trans s7
          have D7 := Dk4.same s57
          have k7 := k4.trans (Same.keepD s57)
          obtain ⟨n1, n2, _⟩ := D7.ne_of_free hp3
          refine q _ p3 as (D7.same (Same.upd_new hp3)) (k7.trans (Same.keepD (Same.upd_new hp3))) (D7.free_back k7 hp3) n1 n2 ?_
          rw [upd_same, uses_ok he h40 hs hj, List.map_cons]
          unfold ni Rd02Neutral.ints
          rw [List.length_map, List.map_map]
          rfl
theorem sound_ans {S : Rd02.Abs} : Cl.sound.ans S = [if Rd02.sound S.g = true then 1 else 0] := rfl
theorem scCall : FnScope ["grammar", "reader", "call"] ["grammar", "reader"] (defScope (top 54)) := ⟨rfl, rfl, rfl, by decide +kernel, rfl, by decide +kernel, by decide +kernel⟩
theorem ok_answer_call {f fN f1 f2 f3 f4 f5 f6 : Addr} {fd dN d1 d2 d3 d4 d5 d6 : FuncData} (F : Gf K mg "answer_call" (top 54) ["grammar", "reader"] f fd) (T : Tx K mg CN CG) (TR : TxR K mg CR) (FN : Mf K CR "read_number" "Reader.read_number" sReadNum ["self"] fN dN)
    (F1 : Gf K mg "answer_node" (top 55) ["grammar", "reader"] f1 d1) (G1 : FnOk P w K mg base CX0 4 f1 d1 ["grammar", "reader"] (spAns K CN CG CR P1 P2 1 fun d => ∃ k a b, d = .node k a b))
    (F2 : Gf K mg "answer_rule" (top 56) ["grammar", "reader"] f2 d2) (G2 : FnOk P w K mg base CX0 3 f2 d2 ["grammar", "reader"] (spAns K CN CG CR P1 P2 1 fun d => ∃ r e, d = .rule r e))
    (F3 : Gf K mg "is_sound" (top 26) ["grammar"] f3 d3) (G3 : FnOk P w K mg base CX0 7 f3 d3 ["grammar"] (spSound CN CG P1 P2))
    (F4 : Gf K mg "answer_take" (top 57) ["grammar", "reader"] f4 d4) (G4 : FnOk P w K mg base CX0 9 f4 d4 ["grammar", "reader"] (spAns K CN CG CR P1 P2 1 fun d => ∃ r t, d = .take r t))
    (F5 : Gf K mg "answer_uses" (top 58) ["grammar", "reader"] f5 d5) (G5 : FnOk P w K mg base CX0 9 f5 d5 ["grammar", "reader"] (spAns K CN CG CR P1 P2 1 fun d => ∃ r m t, d = .uses r m t))
    (F6 : Gf K mg "answer_asked" (top 59) ["grammar", "reader"] f6 d6) (G6 : FnOk P w K mg base CX0 9 f6 d6 ["grammar", "reader"] (spAns K CN CG CR P1 P2 1 fun d => ∃ r t, d = .asked r t)) :
    FnOk P w K mg base CX0 10 f fd ["grammar", "reader"] (spCall K CN CG CR P1 P2) := by
  have GN : FnOk P w K mg base CX0 1 fN dN _ _ := ok_read_num FN TR
  refine F.F.ok scCall (fun vs H Q E h => ?_) (fun cdv A outer s H vs Q E hr h => ?_)
  · obtain ⟨g, ln, lr, r, nums, s, as, ns, place, d, rest, rfl, _⟩ := h
    rfl
  · obtain ⟨g, ln, lr, r, nums, S, as, ns, place, d, rest, rfl, D, hd, dok, _, q⟩ := h
    have hr1 : Room 1 _ := hr.mono (by decide)
    have hr3 : Room 3 _ := hr.mono (by decide)
    have hr4 : Room 4 _ := hr.mono (by decide)
    have hr7 : Room 7 _ := hr.mono (by decide)
    refine ⟨_, pss_cons (ps_set (i := 2) scCall.nd rfl (Or.inl rfl) (pe_meth0 (pv 1) TR.cR FN.at_ GN hr1 FN.b .nil pass0))
      (pss_cons (ps_if (pt_cmpR op_eq (pv 2) (pcst (T.k "NODE_CALL" 1)) (nomark _)) (pss_one (ps_ret (pe_call G1 hr4 rfl F1.g F1.F.kp F1.b .nil pass0 (pa_cons (pv 0) (pa_cons (pv 1) pa_nil))))) pss_nil)
      (pss_cons (ps_if (pt_cmpR op_eq (pv 2) (pcst (T.k "RULE_CALL" 2)) (nomark _)) (pss_one (ps_ret (pe_call G2 hr3 rfl F2.g F2.F.kp F2.b .nil pass0 (pa_cons (pv 0) (pa_cons (pv 1) pa_nil))))) pss_nil)
      (pss_cons (ps_if (pt_cmpR op_eq (pv 2) (pcst (T.k "SOUND_CALL" 3)) (nomark _)) (pss_one (ps_ret (pe_lst (pa_cons (pe_ifExp (pt_val (pe_call G3 hr7 rfl F3.g F3.F.kp F3.b .nil pass0 (pa_cons (pv 0) pa_nil))) pe_int pe_int) pa_nil)))) pss_nil)
      (pss_cons (ps_if (pt_cmpR op_eq (pv 2) (pcst (T.k "TAKE_CALL" 4)) (nomark _)) (pss_one (ps_ret (pe_call G4 hr rfl F4.g F4.F.kp F4.b .nil pass0 (pa_cons (pv 0) (pa_cons (pv 1) pa_nil))))) pss_nil)
      (pss_cons (ps_if (pt_cmpR op_eq (pv 2) (pcst (T.k "USES_CALL" 5)) (nomark _)) (pss_one (ps_ret (pe_call G5 hr rfl F5.g F5.F.kp F5.b .nil pass0 (pa_cons (pv 0) (pa_cons (pv 1) pa_nil))))) pss_nil)
      (pss_cons (ps_if (pt_cmpR op_eq (pv 2) (pcst (T.k "ASKED_CALL" 6)) (nomark _)) (pss_one (ps_ret (pe_call G6 hr rfl F6.g F6.F.kp F6.b .nil pass0 (pa_cons (pv 0) (pa_cons (pv 1) pa_nil))))) pss_nil)
      (pss_one ps_never))))))), ?_⟩
    walk_at "rd"
    have go : ∀ (ok : Cl → Prop) (H1 : Hp), ok d → DeskAt K CN CG CR P1 P2 H1 g ln lr r nums S as ns (place + 1) → KeepD ln lr r P1 P2 H H1 → spAns K CN CG CR P1 P2 1 ok [.ref g, .ref r] H1 Q E0 := fun ok H1 hok D1 k1 =>
      ⟨g, ln, lr, r, nums, S, as, ns, place, d, rest, rfl, D1, hd, dok, hok, fun H' p as' D' k' np n1 n2 hp => q H' p as' D' (k1.trans k') (by
        obtain ⟨m1, m2, m3, m4, m5⟩ := D1.ne_of_free np
        exact D1.free_back k1 np) n1 n2 hp⟩
    have D : DeskAt K CN CG CR P1 P2 H g ln lr r nums S as ns (place + 0) := D
    cases d with
    | node k a b =>
      refine read_one D hd rfl fun H1 D1 k1 => ?_
      simp only [reduceIte, Int.reduceEq, true_and, V.int.injEq]
      exact go _ H1 ⟨k, a, b, rfl⟩ D1 k1
    | rule ru e =>
      refine read_one D hd rfl fun H1 D1 k1 => ?_
      simp only [reduceIte, Int.reduceEq, true_and, V.int.injEq]
      exact go _ H1 ⟨ru, e, rfl⟩ D1 k1
    | sound =>
      refine read_one D hd rfl fun H1 D1 k1 => ?_
      simp only [reduceIte, Int.reduceEq, true_and, V.int.injEq]
      refine ⟨g, ln, lr, S.g, as, rfl, D1.gram, D1.tabs, fun H2 k2 t2 => ⟨_, rfl, ?_⟩⟩
      have D2 := D1.sameX k2 t2
      have k12 := k1.trans k2.keepD
      have fin : ∀ z : Int, Cl.sound.ans S = [z] → 1 ≤ sizeLine ∧ ∀ p, H2 p = none → Q (.ref p) (upd H2 p (.lst [.int z])) := fun z e => by
        refine ⟨by decide, fun p np => ?_⟩
        obtain ⟨n1, n2, _⟩ := D2.ne_of_free np
        exact q _ p as (D2.same (Same.upd_new np)) (k12.trans (Same.keepD (Same.upd_new np))) (D2.free_back k12 np) n1 n2 (by rw [upd_same, e]; rfl)
      have := sound_ans (S := S)
      cases hs : Rd02.sound S.g with
      | true =>
        rw [hs] at this
        exact fin 1 this
      | false =>
        rw [hs] at this
        exact fin 0 this
    | take ru t =>
      refine read_one D hd rfl fun H1 D1 k1 => ?_
      simp only [reduceIte, Int.reduceEq, true_and, V.int.injEq]
      exact go _ H1 ⟨ru, t, rfl⟩ D1 k1
    | uses ru m t =>
      refine read_one D hd rfl fun H1 D1 k1 => ?_
      simp only [reduceIte, Int.reduceEq, true_and, V.int.injEq]
      exact go _ H1 ⟨ru, m, t, rfl⟩ D1 k1
    | asked ru t =>
      refine read_one D hd rfl fun H1 D1 k1 => ?_
      simp only [reduceIte, Int.reduceEq, true_and, V.int.injEq]
      exact go _ H1 ⟨ru, t, rfl⟩ D1 k1
end
end Ow
set_option Elab.async false
set_option linter.all false
set_option maxRecDepth 100000
set_option maxHeartbeats 2000000
namespace Ow
open PySem PySem.Spec PyProof.Rows L2
theorem with_txd {Goal : Prop} {K : PySem.W.Frag} {mg : Str → Option Value} {CD : Addr} (cD : Cls K CD) (ng : PySem.W.findIn K (.ref CD) "grammar" = some none) (nt : PySem.W.findIn K (.ref CD) "text" = some none) (ns : PySem.W.findIn K (.ref CD) "start" = some none)
    (nk : PySem.W.findIn K (.ref CD) "known" = some none) (nw : PySem.W.findIn K (.ref CD) "waiting" = some none) (mD : mg "Reading" = some (.ref CD)) (len : mg "len" = none) (list : mg "list" = none) (rev : mg "reversed" = none) (set : mg "set" = none) (cont : TxD K mg CD → Goal) : Goal :=
  cont ⟨cD, ng, nt, ns, nk, nw, mD, len, list, rev, set⟩
end Ow
set_option Elab.async false
namespace PySem.W.Fast
def tw735187776045729906 := ()
def tw12438992424414050011 := ()
def tw17000404162028537578 := ()
def tw2766939201366451871 := ()
def tw4417247997310809490 := ()
def tw17045847147525266662 := ()
def tw17190729067637052816 := ()
def tw6765883856433369290 := ()
def tw5585135734213216936 := ()
def tw11029227732759911639 := ()
def tw10233415461584948880 := ()
def tw9011870726289620284 := ()
def tw6374103419123584139 := ()
def tw10832037760698142957 := ()
def tw16692700737746285622 := ()
def tw18323821379847702137 := ()
def tw5413901874746382524 := ()
def tw14031808797900380079 := ()
def tw7921058543492937052 := ()
def tw3128569157196991464 := ()
def tw6800865776403411524 := ()
def tw13022295181180521846 := ()
def tw4453336232188962830 := ()
def tw8504842781973938503 := ()
def tw17390831525736977034 := ()
def tw18103504324258608581 := ()
def tw7825441402629728895 := ()
def tw15486675622272775501 := ()
def tw18425511824897441353 := ()
def tw12220029256518476665 := ()
def tw6661771815715718623 := ()
def tw7489704669615373140 := ()
def tw205343013179503877 := ()
def tw15814409939917055773 := ()
def tw12810831041582704962 := ()
def tw17858215174344938359 := ()
def tw10646469973724184829 := ()
def tw6785013225205818932 := ()
def tw3874499582301552329 := ()
def tw12306454332155997320 := ()
def tw8231786508808648088 := ()
def tw12154880164530375426 := ()
def tw16944525765945060390 := ()
def tw16749106487617105955 := ()
def tw8965364164402186704 := ()
def tw13490988644267487870 := ()
def tw15948924441028928593 := ()
def tw5944958009369512566 := ()
def tw5586610505174350737 := ()
def tw14170963156125784497 := ()
def tw9965556515434222536 := ()
def tw5190524605709526081 := ()
def tw6639339713358923421 := ()
def tw3524104342473630814 := ()
def tw15146805760455665076 := ()
def tw18184754749412490349 := ()
def tw3528867913116551517 := ()
def tw10837725589907062420 := ()
def tw16285575357121545280 := ()
def tw7274926053283597505 := ()
def tw15558242415154824169 := ()
def tw4829129564467380931 := ()
def tw17521580000446223672 := ()
def tw5511434609348361442 := ()
def tw5231607200066258309 := ()
def tw13363909459399234104 := ()
def tw14174485153379960067 := ()
def tw13603240105357844851 := ()
def tw8096106803734910110 := ()
def tw10973718833706845408 := ()
def tw17864358668851696970 := ()
def tw3386471145362072568 := ()
def tw7395877666155906976 := ()
def tw4904777250543511655 := ()
def tw2423937358781763604 := ()
def tw1390186867541821866 := ()
def tw14278458693626506171 := ()
def tw5674696740243177061 := ()
def tw1056701031728062185 := ()
def tw7122750171469379494 := ()
def tw1831088651674770605 := ()
def tw1992495164202214790 := ()
def tw6263764319086570887 := ()
def tw4340822168738363306 := ()
def tw1682522037488414984 := ()
def tw8736582154391319575 := ()
def tw11840417692232696746 := ()
def tw8056330330427418897 := ()
def tw4761949296207281181 := ()
def tw16179177382597885265 := ()
def tw10343118209670476056 := ()
def tw11442073468269135345 := ()
def tw18267188511806569678 := ()
def tw8573662490217744766 := ()
def tw1900382659312734039 := ()
def tw18298902968171195249 := ()
def tw1281613127908542019 := ()
def tw6158951185287672772 := ()
def tw10584625301980612485 := ()
def tw15079177176503293048 := ()
def tw18253238791378454903 := ()
def tw12683331107283345914 := ()
def tw4630320355244353251 := ()
def tw1281891154949186859 := ()
def tw7235646565939900328 := ()
def tw11536257095079704857 := ()
end PySem.W.Fast
open PySem PySem.W PyProof.Rows
set_option maxRecDepth 100000 in
set_option maxHeartbeats 0 in
theorem PySem.Challenge.cw_orderedways_s01_answers_holds : PySem.Challenge.rw_orderedways_s01_answers.Holds := by
  w_on; k_headS; (case hw => exact ⟨[.list [.int 3]], by decide +kernel, by decide +kernel⟩)
  k_fillS
  refine L2.walk_specT (r := PySem.Challenge.rw_orderedways_s01_answers) (k := 11) (CX := L2.CX0) (ps := ["calls"]) (tabs := [(214, 210), (207, 203)]) (sp := fun K => Ow.spAnswers K 210 203) (by decide +kernel) rfl rfl ⟨rfl, by decide, by decide⟩ (fun w h Y => PySem.W.kIn_of Y) ?T ?F ?S (fun _ _ _ _ z => z)
  case T =>
    intro w mean lo mg mb h Y T
    have KX := PySem.W.kIn_of Y
    refine' Ow.fa_cons ⟨Ow.tab_get (x := "what_may_come") T KX ?h1 ?t1, ?z1⟩ (Ow.fa_cons ⟨Ow.tab_get (x := "good_nodes") T KX ?h2 ?t2, ?z2⟩ Ow.fa_nil)
    (case h1 => decide +kernel); (case h2 => decide +kernel); (case t1 => kernel_rfl); (case t2 => kernel_rfl); (case z1 => kernel_rfl); (case z2 => kernel_rfl)
  case F =>
    intro w mg fa h Y KX G hmg
    refine' Ow.with_cls (x := "Node") KX G ?a1 ?b1 ?c1 ?d1 ?e1 ?n1
    (case a1 => k_is); (case b1 => k_is); (case c1 => k_is); (case d1 => k_is); (case e1 => k_is)
    intro clN mN
    refine' Ow.with_init (qual := "Node.__init__") (st := Ow.sNodeInit) (ps := ["self", "kind", "a", "b"]) clN ?a2 ?i2 ?l2 ?c2 ?k2 ?m2 ?z2 (fun _ _ _ _ _ _ us hl => match us, hl with | [_, _, _, _], _ => rfl) ?n2
    (case a2 => k_is); (case i2 => k_is); (case l2 => k_is); (case c2 => k_is); (case k2 => k_is); (case m2 => k_is); (case z2 => k_is)
    intro MN IN bN
    refine' Ow.with_cls (x := "Grammar") KX G ?a3 ?b3 ?c3 ?d3 ?e3 ?n3
    (case a3 => k_is); (case b3 => k_is); (case c3 => k_is); (case d3 => k_is); (case e3 => k_is)
    intro clG mG
    refine' Ow.with_init (qual := "Grammar.__init__") (st := Ow.sGramInit) (ps := ["self"]) clG ?a4 ?i4 ?l4 ?c4 ?k4 ?m4 ?z4 (fun _ _ _ _ _ _ us hl => match us, hl with | [_], _ => rfl) ?n4
    (case a4 => k_is); (case i4 => k_is); (case l4 => k_is); (case c4 => k_is); (case k4 => k_is); (case m4 => k_is); (case z4 => k_is)
    intro MG IG bG
    refine' Ow.with_cls (x := "Reading") KX G ?a5 ?b5 ?c5 ?d5 ?e5 ?n5
    (case a5 => k_is); (case b5 => k_is); (case c5 => k_is); (case d5 => k_is); (case e5 => k_is)
    intro clD mD
    refine' Ow.with_init (qual := "Reading.__init__") (st := Ow.sRdInit) (ps := ["self", "grammar", "text", "start"]) clD ?a6 ?i6 ?l6 ?c6 ?k6 ?m6 ?z6 (fun _ _ _ _ _ _ us hl => match us, hl with | [_, _, _, _], _ => rfl) ?n6
    (case a6 => k_is); (case i6 => k_is); (case l6 => k_is); (case c6 => k_is); (case k6 => k_is); (case m6 => k_is); (case z6 => k_is)
    intro MD ID bD
    refine' Ow.with_cls (x := "Reader") KX G ?a7 ?b7 ?c7 ?d7 ?e7 ?n7
    (case a7 => k_is); (case b7 => k_is); (case c7 => k_is); (case d7 => k_is); (case e7 => k_is)
    intro clR mR
    refine' Ow.with_init (qual := "Reader.__init__") (st := Ow.sReadInit) (ps := ["self", "numbers"]) clR ?a8 ?i8 ?l8 ?c8 ?k8 ?m8 ?z8 (fun _ _ _ _ _ _ us hl => match us, hl with | [_, _], _ => rfl) ?n8
    (case a8 => k_is); (case i8 => k_is); (case l8 => k_is); (case c8 => k_is); (case k8 => k_is); (case m8 => k_is); (case z8 => k_is)
    intro MR IR bR
    refine' Ow.with_mf (m := "has_node") (qual := "Grammar.has_node") (st := Ow.sHas) (ps := ["self", "number"]) clG ?a9 ?i9 ?l9 ?c9 ?k9 (fun _ _ _ _ _ _ us hl => match us, hl with | [_, _], _ => rfl) ?n9
    (case a9 => k_is); (case i9 => k_is); (case l9 => k_is); (case c9 => k_is); (case k9 => k_is)
    intro X_has_node
    refine' Ow.with_mf (m := "has_rule") (qual := "Grammar.has_rule") (st := Ow.sHasR) (ps := ["self", "rule"]) clG ?a10 ?i10 ?l10 ?c10 ?k10 (fun _ _ _ _ _ _ us hl => match us, hl with | [_, _], _ => rfl) ?n10
    (case a10 => k_is); (case i10 => k_is); (case l10 => k_is); (case c10 => k_is); (case k10 => k_is)
    intro X_has_rule
    refine' Ow.with_mf (m := "fits") (qual := "Grammar.fits") (st := Ow.sFits) (ps := ["self", "kind", "a", "b"]) clG ?a11 ?i11 ?l11 ?c11 ?k11 (fun _ _ _ _ _ _ us hl => match us, hl with | [_, _, _, _], _ => rfl) ?n11
    (case a11 => k_is); (case i11 => k_is); (case l11 => k_is); (case c11 => k_is); (case k11 => k_is)
    intro X_fits
    refine' Ow.with_mf (m := "add_node") (qual := "Grammar.add_node") (st := Ow.sAdd) (ps := ["self", "kind", "a", "b"]) clG ?a12 ?i12 ?l12 ?c12 ?k12 (fun _ _ _ _ _ _ us hl => match us, hl with | [_, _, _, _], _ => rfl) ?n12
    (case a12 => k_is); (case i12 => k_is); (case l12 => k_is); (case c12 => k_is); (case k12 => k_is)
    intro X_add_node
    refine' Ow.with_mf (m := "set_rule") (qual := "Grammar.set_rule") (st := Ow.sSet) (ps := ["self", "rule", "number"]) clG ?a13 ?i13 ?l13 ?c13 ?k13 (fun _ _ _ _ _ _ us hl => match us, hl with | [_, _, _], _ => rfl) ?n13
    (case a13 => k_is); (case i13 => k_is); (case l13 => k_is); (case c13 => k_is); (case k13 => k_is)
    intro X_set_rule
    refine' Ow.with_mf (m := "go_on") (qual := "Reading.go_on") (st := Ow.sGo) (ps := ["self"]) clD ?a14 ?i14 ?l14 ?c14 ?k14 (fun _ _ _ _ _ _ us hl => match us, hl with | [_], _ => rfl) ?n14
    (case a14 => k_is); (case i14 => k_is); (case l14 => k_is); (case c14 => k_is); (case k14 => k_is)
    intro X_go_on
    refine' Ow.with_mf (m := "ask") (qual := "Reading.ask") (st := Ow.sAsk) (ps := ["self", "number", "place"]) clD ?a15 ?i15 ?l15 ?c15 ?k15 (fun _ _ _ _ _ _ us hl => match us, hl with | [_, _, _], _ => rfl) ?n15
    (case a15 => k_is); (case i15 => k_is); (case l15 => k_is); (case c15 => k_is); (case k15 => k_is)
    intro X_ask
    refine' Ow.with_mf (m := "come_of") (qual := "Reading.come_of") (st := Ow.sCome) (ps := ["self", "number", "place"]) clD ?a16 ?i16 ?l16 ?c16 ?k16 (fun _ _ _ _ _ _ us hl => match us, hl with | [_, _, _], _ => rfl) ?n16
    (case a16 => k_is); (case i16 => k_is); (case l16 => k_is); (case c16 => k_is); (case k16 => k_is)
    intro X_come_of
    refine' Ow.with_mf (m := "ask_byte") (qual := "Reading.ask_byte") (st := Ow.sByte) (ps := ["self", "low", "high", "place"]) clD ?a17 ?i17 ?l17 ?c17 ?k17 (fun _ _ _ _ _ _ us hl => match us, hl with | [_, _, _, _], _ => rfl) ?n17
    (case a17 => k_is); (case i17 => k_is); (case l17 => k_is); (case c17 => k_is); (case k17 => k_is)
    intro X_ask_byte
    refine' Ow.with_mf (m := "ask_both") (qual := "Reading.ask_both") (st := Ow.sBoth) (ps := ["self", "node", "place"]) clD ?a18 ?i18 ?l18 ?c18 ?k18 (fun _ _ _ _ _ _ us hl => match us, hl with | [_, _, _], _ => rfl) ?n18
    (case a18 => k_is); (case i18 => k_is); (case l18 => k_is); (case c18 => k_is); (case k18 => k_is)
    intro X_ask_both
    refine' Ow.with_mf (m := "ask_either") (qual := "Reading.ask_either") (st := Ow.sEither) (ps := ["self", "node", "place"]) clD ?a19 ?i19 ?l19 ?c19 ?k19 (fun _ _ _ _ _ _ us hl => match us, hl with | [_, _, _], _ => rfl) ?n19
    (case a19 => k_is); (case i19 => k_is); (case l19 => k_is); (case c19 => k_is); (case k19 => k_is)
    intro X_ask_either
    refine' Ow.with_mf (m := "ask_again") (qual := "Reading.ask_again") (st := Ow.sAgain) (ps := ["self", "node", "place"]) clD ?a20 ?i20 ?l20 ?c20 ?k20 (fun _ _ _ _ _ _ us hl => match us, hl with | [_, _, _], _ => rfl) ?n20
    (case a20 => k_is); (case i20 => k_is); (case l20 => k_is); (case c20 => k_is); (case k20 => k_is)
    intro X_ask_again
    refine' Ow.with_mf (m := "ask_not_ahead") (qual := "Reading.ask_not_ahead") (st := Ow.sAhead) (ps := ["self", "node", "place"]) clD ?a21 ?i21 ?l21 ?c21 ?k21 (fun _ _ _ _ _ _ us hl => match us, hl with | [_, _, _], _ => rfl) ?n21
    (case a21 => k_is); (case i21 => k_is); (case l21 => k_is); (case c21 => k_is); (case k21 => k_is)
    intro X_ask_not_ahead
    refine' Ow.with_mf (m := "outcome") (qual := "Reading.outcome") (st := Ow.sOut) (ps := ["self"]) clD ?a22 ?i22 ?l22 ?c22 ?k22 (fun _ _ _ _ _ _ us hl => match us, hl with | [_], _ => rfl) ?n22
    (case a22 => k_is); (case i22 => k_is); (case l22 => k_is); (case c22 => k_is); (case k22 => k_is)
    intro X_outcome
    refine' Ow.with_mf (m := "count_rules_asked") (qual := "Reading.count_rules_asked") (st := Ow.sCount) (ps := ["self"]) clD ?a23 ?i23 ?l23 ?c23 ?k23 (fun _ _ _ _ _ _ us hl => match us, hl with | [_], _ => rfl) ?n23
    (case a23 => k_is); (case i23 => k_is); (case l23 => k_is); (case c23 => k_is); (case k23 => k_is)
    intro X_count_rules_asked
    refine' Ow.with_mf (m := "at_end") (qual := "Reader.at_end") (st := Ow.sAtEnd) (ps := ["self"]) clR ?a24 ?i24 ?l24 ?c24 ?k24 (fun _ _ _ _ _ _ us hl => match us, hl with | [_], _ => rfl) ?n24
    (case a24 => k_is); (case i24 => k_is); (case l24 => k_is); (case c24 => k_is); (case k24 => k_is)
    intro X_at_end
    refine' Ow.with_mf (m := "read_number") (qual := "Reader.read_number") (st := Ow.sReadNum) (ps := ["self"]) clR ?a25 ?i25 ?l25 ?c25 ?k25 (fun _ _ _ _ _ _ us hl => match us, hl with | [_], _ => rfl) ?n25
    (case a25 => k_is); (case i25 => k_is); (case l25 => k_is); (case c25 => k_is); (case k25 => k_is)
    intro X_read_number
    refine' Ow.with_mf (m := "read_row") (qual := "Reader.read_row") (st := Ow.sRow) (ps := ["self"]) clR ?a26 ?i26 ?l26 ?c26 ?k26 (fun _ _ _ _ _ _ us hl => match us, hl with | [_], _ => rfl) ?n26
    (case a26 => k_is); (case i26 => k_is); (case l26 => k_is); (case c26 => k_is); (case k26 => k_is)
    intro X_read_row
    refine' Ow.with_gf (x := "is_rule") (st := Ow.top 16) (ps := ["number"]) KX G ?a27 ?l27 ?c27 ?k27 (fun _ _ _ _ _ _ us hl => match us, hl with | [_], _ => rfl) ?n27
    (case a27 => k_is); (case l27 => k_is); (case c27 => k_is); (case k27 => k_is)
    intro F_is_rule
    refine' Ow.with_gf (x := "read_text") (st := Ow.top 20) (ps := ["grammar", "rule", "text"]) KX G ?a28 ?l28 ?c28 ?k28 (fun _ _ _ _ _ _ us hl => match us, hl with | [_, _, _], _ => rfl) ?n28
    (case a28 => k_is); (case l28 => k_is); (case c28 => k_is); (case k28 => k_is)
    intro F_read_text
    refine' Ow.with_gf (x := "is_sound") (st := Ow.top 26) (ps := ["grammar"]) KX G ?a29 ?l29 ?c29 ?k29 (fun _ _ _ _ _ _ us hl => match us, hl with | [_], _ => rfl) ?n29
    (case a29 => k_is); (case l29 => k_is); (case c29 => k_is); (case k29 => k_is)
    intro F_is_sound
    refine' Ow.with_gf (x := "good_nodes") (st := Ow.top 27) (ps := ["grammar"]) KX G ?a30 ?l30 ?c30 ?k30 (fun _ _ _ _ _ _ us hl => match us, hl with | [_], _ => rfl) ?n30
    (case a30 => k_is); (case l30 => k_is); (case c30 => k_is); (case k30 => k_is)
    intro F_good_nodes
    refine' Ow.with_gf (x := "what_may_come") (st := Ow.top 28) (ps := ["grammar"]) KX G ?a31 ?l31 ?c31 ?k31 (fun _ _ _ _ _ _ us hl => match us, hl with | [_], _ => rfl) ?n31
    (case a31 => k_is); (case l31 => k_is); (case c31 => k_is); (case k31 => k_is)
    intro F_what_may_come
    refine' Ow.with_gf (x := "settled") (st := Ow.top 29) (ps := ["grammar", "start", "follows"]) KX G ?a32 ?l32 ?c32 ?k32 (fun _ _ _ _ _ _ us hl => match us, hl with | [_, _, _], _ => rfl) ?n32
    (case a32 => k_is); (case l32 => k_is); (case c32 => k_is); (case k32 => k_is)
    intro F_settled
    refine' Ow.with_gf (x := "may_come") (st := Ow.top 30) (ps := ["grammar", "node", "known"]) KX G ?a33 ?l33 ?c33 ?k33 (fun _ _ _ _ _ _ us hl => match us, hl with | [_, _, _], _ => rfl) ?n33
    (case a33 => k_is); (case l33 => k_is); (case c33 => k_is); (case k33 => k_is)
    intro F_may_come
    refine' Ow.with_gf (x := "may_come_of_both") (st := Ow.top 31) (ps := ["first", "second"]) KX G ?a34 ?l34 ?c34 ?k34 (fun _ _ _ _ _ _ us hl => match us, hl with | [_, _], _ => rfl) ?n34
    (case a34 => k_is); (case l34 => k_is); (case c34 => k_is); (case k34 => k_is)
    intro F_may_come_of_both
    refine' Ow.with_gf (x := "may_come_of_either") (st := Ow.top 32) (ps := ["first", "second"]) KX G ?a35 ?l35 ?c35 ?k35 (fun _ _ _ _ _ _ us hl => match us, hl with | [_, _], _ => rfl) ?n35
    (case a35 => k_is); (case l35 => k_is); (case c35 => k_is); (case k35 => k_is)
    intro F_may_come_of_either
    refine' Ow.with_gf (x := "nothing_if_fails") (st := Ow.top 33) (ps := ["coming"]) KX G ?a36 ?l36 ?c36 ?k36 (fun _ _ _ _ _ _ us hl => match us, hl with | [_], _ => rfl) ?n36
    (case a36 => k_is); (case l36 => k_is); (case c36 => k_is); (case k36 => k_is)
    intro F_nothing_if_fails
    refine' Ow.with_gf (x := "fails_if_takes") (st := Ow.top 34) (ps := ["coming"]) KX G ?a37 ?l37 ?c37 ?k37 (fun _ _ _ _ _ _ us hl => match us, hl with | [_], _ => rfl) ?n37
    (case a37 => k_is); (case l37 => k_is); (case c37 => k_is); (case k37 => k_is)
    intro F_fails_if_takes
    refine' Ow.with_gf (x := "never_nothing") (st := Ow.top 35) (ps := ["coming"]) KX G ?a38 ?l38 ?c38 ?k38 (fun _ _ _ _ _ _ us hl => match us, hl with | [_], _ => rfl) ?n38
    (case a38 => k_is); (case l38 => k_is); (case c38 => k_is); (case k38 => k_is)
    intro F_never_nothing
    refine' Ow.with_gf (x := "is_good") (st := Ow.top 36) (ps := ["grammar", "node", "comings", "good"]) KX G ?a39 ?l39 ?c39 ?k39 (fun _ _ _ _ _ _ us hl => match us, hl with | [_, _, _, _], _ => rfl) ?n39
    (case a39 => k_is); (case l39 => k_is); (case c39 => k_is); (case k39 => k_is)
    intro F_is_good
    refine' Ow.with_gf (x := "numbers_of_uses") (st := Ow.top 38) (ps := ["reading"]) KX G ?a40 ?l40 ?c40 ?k40 (fun _ _ _ _ _ _ us hl => match us, hl with | [_], _ => rfl) ?n40
    (case a40 => k_is); (case l40 => k_is); (case c40 => k_is); (case k40 => k_is)
    intro F_numbers_of_uses
    refine' Ow.with_gf (x := "makers") (st := Ow.top 39) (ps := ["reading", "node", "place"]) KX G ?a41 ?l41 ?c41 ?k41 (fun _ _ _ _ _ _ us hl => match us, hl with | [_, _, _], _ => rfl) ?n41
    (case a41 => k_is); (case l41 => k_is); (case c41 => k_is); (case k41 => k_is)
    intro F_makers
    refine' Ow.with_gf (x := "each_time") (st := Ow.top 40) (ps := ["reading", "number", "place"]) KX G ?a42 ?l42 ?c42 ?k42 (fun _ _ _ _ _ _ us hl => match us, hl with | [_, _, _], _ => rfl) ?n42
    (case a42 => k_is); (case l42 => k_is); (case c42 => k_is); (case k42 => k_is)
    intro F_each_time
    refine' Ow.with_gf (x := "answers") (st := Ow.top 53) (ps := ["calls"]) KX G ?a43 ?l43 ?c43 ?k43 (fun _ _ _ _ _ _ us hl => match us, hl with | [_], _ => rfl) ?n43
    (case a43 => k_is); (case l43 => k_is); (case c43 => k_is); (case k43 => k_is)
    intro F_answers
    refine' Ow.with_gf (x := "answer_call") (st := Ow.top 54) (ps := ["grammar", "reader"]) KX G ?a44 ?l44 ?c44 ?k44 (fun _ _ _ _ _ _ us hl => match us, hl with | [_, _], _ => rfl) ?n44
    (case a44 => k_is); (case l44 => k_is); (case c44 => k_is); (case k44 => k_is)
    intro F_answer_call
    refine' Ow.with_gf (x := "answer_node") (st := Ow.top 55) (ps := ["grammar", "reader"]) KX G ?a45 ?l45 ?c45 ?k45 (fun _ _ _ _ _ _ us hl => match us, hl with | [_, _], _ => rfl) ?n45
    (case a45 => k_is); (case l45 => k_is); (case c45 => k_is); (case k45 => k_is)
    intro F_answer_node
    refine' Ow.with_gf (x := "answer_rule") (st := Ow.top 56) (ps := ["grammar", "reader"]) KX G ?a46 ?l46 ?c46 ?k46 (fun _ _ _ _ _ _ us hl => match us, hl with | [_, _], _ => rfl) ?n46
    (case a46 => k_is); (case l46 => k_is); (case c46 => k_is); (case k46 => k_is)
    intro F_answer_rule
    refine' Ow.with_gf (x := "answer_take") (st := Ow.top 57) (ps := ["grammar", "reader"]) KX G ?a47 ?l47 ?c47 ?k47 (fun _ _ _ _ _ _ us hl => match us, hl with | [_, _], _ => rfl) ?n47
    (case a47 => k_is); (case l47 => k_is); (case c47 => k_is); (case k47 => k_is)
    intro F_answer_take
    refine' Ow.with_gf (x := "answer_uses") (st := Ow.top 58) (ps := ["grammar", "reader"]) KX G ?a48 ?l48 ?c48 ?k48 (fun _ _ _ _ _ _ us hl => match us, hl with | [_, _], _ => rfl) ?n48
    (case a48 => k_is); (case l48 => k_is); (case c48 => k_is); (case k48 => k_is)
    intro F_answer_uses
    refine' Ow.with_gf (x := "answer_asked") (st := Ow.top 59) (ps := ["grammar", "reader"]) KX G ?a49 ?l49 ?c49 ?k49 (fun _ _ _ _ _ _ us hl => match us, hl with | [_, _], _ => rfl) ?n49
    (case a49 => k_is); (case l49 => k_is); (case c49 => k_is); (case k49 => k_is)
    intro F_answer_asked
    refine' Ow.with_gf (x := "refusal") (st := Ow.top 60) (ps := ["grammar", "rule", "text"]) KX G ?a50 ?l50 ?c50 ?k50 (fun _ _ _ _ _ _ us hl => match us, hl with | [_, _, _], _ => rfl) ?n50
    (case a50 => k_is); (case l50 => k_is); (case c50 => k_is); (case k50 => k_is)
    intro F_refusal
    refine' Ow.with_gf (x := "first_of") (st := Ow.top 61) (ps := ["numbers", "most"]) KX G ?a51 ?l51 ?c51 ?k51 (fun _ _ _ _ _ _ us hl => match us, hl with | [_, _], _ => rfl) ?n51
    (case a51 => k_is); (case l51 => k_is); (case c51 => k_is); (case k51 => k_is)
    intro F_first_of
    have hc : ∀ p ∈ Ow.consts, Ow.Cst mg p.1 p.2 := (Ow.fa_cons (Ow.cst_mk KX G (by k_is)) (Ow.fa_cons (Ow.cst_mk KX G (by k_is)) (Ow.fa_cons (Ow.cst_mk KX G (by k_is)) (Ow.fa_cons (Ow.cst_mk KX G (by k_is)) (Ow.fa_cons (Ow.cst_mk KX G (by k_is)) (Ow.fa_cons (Ow.cst_mk KX G (by k_is)) (Ow.fa_cons (Ow.cst_mk KX G (by k_is)) (Ow.fa_cons (Ow.cst_mk KX G (by k_is)) (Ow.fa_cons (Ow.cst_mk KX G (by k_is)) (Ow.fa_cons (Ow.cst_mk KX G (by k_is)) (Ow.fa_cons (Ow.cst_mk KX G (by k_is)) (Ow.fa_cons (Ow.cst_mk KX G (by k_is)) (Ow.fa_cons (Ow.cst_mk KX G (by k_is)) (Ow.fa_cons (Ow.cst_mk KX G (by k_is)) (Ow.fa_cons (Ow.cst_mk KX G (by k_is)) (Ow.fa_cons (Ow.cst_mk KX G (by k_is)) (Ow.fa_cons (Ow.cst_mk KX G (by k_is)) (Ow.fa_cons (Ow.cst_mk KX G (by k_is)) (Ow.fa_cons (Ow.cst_mk KX G (by k_is)) (Ow.fa_cons (Ow.cst_mk KX G (by k_is)) (Ow.fa_cons (Ow.cst_mk KX G (by k_is)) (Ow.fa_cons (Ow.cst_mk KX G (by k_is)) (Ow.fa_cons (Ow.cst_mk KX G (by k_is)) (Ow.fa_cons (Ow.cst_mk KX G (by k_is)) (Ow.fa_cons (Ow.cst_mk KX G (by k_is)) (Ow.fa_cons (Ow.cst_mk KX G (by k_is)) (Ow.fa_cons (Ow.cst_mk KX G (by k_is)) Ow.fa_nil)))))))))))))))))))))))))))
    refine' Ow.with_txt (K := _) (mg := mg) hc clN ?x1 ?x2 ?x3 clG ?x4 ?x5 mN mG ?x6 ?x7 ?x8 ?n90
    (case x1 => k_is); (case x2 => k_is); (case x3 => k_is); (case x4 => k_is); (case x5 => k_is)
    (case x6 => exact PySem.W.ns_none_of KX G (by k_is)); (case x7 => exact PySem.W.ns_none_of KX G (by k_is)); (case x8 => exact PySem.W.ns_none_of KX G (by k_is))
    intro T
    refine' Ow.with_txr (K := _) (mg := mg) clR ?y1 ?y2 mR T.len ?n91
    (case y1 => k_is); (case y2 => k_is)
    intro TR
    refine' Ow.with_txd (K := _) (mg := mg) clD ?v1 ?v2 ?v3 ?v4 ?v5 mD T.len ?v6 ?v7 ?v8 ?n92
    (case v1 => k_is); (case v2 => k_is); (case v3 => k_is); (case v4 => k_is); (case v5 => k_is)
    (case v6 => exact PySem.W.ns_none_of KX G (by k_is)); (case v7 => exact PySem.W.ns_none_of KX G (by k_is)); (case v8 => exact PySem.W.ns_none_of KX G (by k_is))
    intro TD
    have e := hmg.symm.trans F_answers.g
    cases e
    refine Ow.fin_mk F_answers (fun s us hu => match us, hu with | [_], _ => .of_eq rfl) fun base KB GB BB => ?_
    have C1 : PySem.W.CodeHd base 214 210 := PySem.W.codeHd_of_K KB (by kernel_rfl)
    have C2 : PySem.W.CodeHd base 207 203 := PySem.W.codeHd_of_K KB (by kernel_rfl)
    have GG := Ow.ok_goods (P := PySem.Challenge.rw_orderedways_s01_answers.prog) (w := w) (base := base) F_good_nodes T F_what_may_come F_settled F_is_good F_never_nothing F_may_come F_may_come_of_both F_may_come_of_either F_nothing_if_fails F_fails_if_takes C1 rfl C2 rfl BB
    have GS := Ow.ok_sound (fd' := 0) F_is_sound T F_good_nodes GG
    have GA := Ow.ok_add (P := PySem.Challenge.rw_orderedways_s01_answers.prog) (w := w) (base := base) X_add_node T X_fits X_has_node F_is_rule IN bN MN
    have GR := Ow.ok_set (P := PySem.Challenge.rw_orderedways_s01_answers.prog) (w := w) (base := base) X_set_rule T X_has_node F_is_rule
    have G1 := Ow.ok_answer_node (P1 := 210) (P2 := 203) F_answer_node T TR X_read_number X_add_node GA
    have G2 := Ow.ok_answer_rule (P1 := 210) (P2 := 203) F_answer_rule T TR X_read_number X_set_rule GR
    have GH := Ow.ok_hasR (P := PySem.Challenge.rw_orderedways_s01_answers.prog) (w := w) (base := base) X_has_rule T F_is_rule
    have GF := Ow.ok_refuse F_refusal T X_has_rule GH F_is_sound GS
    have RM : Ow.RdM _ _ _ _ _ _ _ _ _ _ _ _ _ _ := ⟨X_come_of, X_ask_byte, X_ask_both, X_ask_either, X_ask_again, X_ask_not_ahead⟩
    have GK := Ow.ok_ask (P := PySem.Challenge.rw_orderedways_s01_answers.prog) (w := w) (base := base) X_ask T TD RM
    have GO := Ow.ok_go X_go_on TD X_ask GK
    have GT := Ow.ok_read F_read_text T TD MD ID bD X_go_on GO
    have RF : Ow.RdF PySem.Challenge.rw_orderedways_s01_answers.prog w _ mg base _ _ _ _ 210 203 _ _ _ _ _ _ _ _ _ _ := ⟨T, TR, TD, X_read_number, X_read_row, F_refusal, GF, F_read_text, GT, X_outcome⟩
    have GM := Ow.ok_makers (P := PySem.Challenge.rw_orderedways_s01_answers.prog) (w := w) (base := base) F_makers T TD F_each_time
    have GU := Ow.ok_numbers F_numbers_of_uses T TD F_makers GM
    have G4 := Ow.ok_answer_take F_answer_take RF
    have G5 := Ow.ok_answer_uses F_answer_uses RF F_numbers_of_uses GU F_first_of
    have G6 := Ow.ok_answer_asked F_answer_asked RF X_count_rules_asked
    exact Ow.ok_answers (k := 8) F_answers T TR MG IG bG MR IR bR X_at_end F_answer_call (Ow.ok_answer_call F_answer_call T TR X_read_number F_answer_node G1 F_answer_rule G2 F_is_sound GS F_answer_take G4 F_answer_uses G5 F_answer_asked G6)
  case S =>
    intro K H xs a hO hwi hask hx
    cases hx with
    | cons h1 h2 =>
      cases h2
      cases h1 with
      | lst hs ha =>
        have e := L2.ints_dw a.1 _ ha
        subst e
        obtain ⟨ds, e1, e2, e3, e4, e5⟩ := Ow.asked_of hask
        refine ⟨_, ds, rfl, Ow.SqF.of_sq (by rw [← e1]; exact hs) (Ow.onlyT_lst hO), ⟨by decide, .inl (hO.2 210 (by decide)), .inl (hO.2 203 (by decide))⟩, e3, e4, e2, fun H' p hp => ?_⟩
        have e6 : PyRd02.answers a.1 = Ow.toldC {} ds := e5
        rw [← e6] at hp
        exact .lst (L2.SqL.of hp) (L2.dw_ints _)
